import PyProof.Rows.All
import Wide.All
import OpenK.AllK
import Wide.FinOn
import Lean
import PyProof.EqAt
import PyProof.EqKinds
import PyProof.TupleCall
import PySem.Challenge.RW_lodge_k86_whole_living
set_option Elab.async false
set_option linter.all false
set_option maxRecDepth 100000
set_option genSizeOf false
set_option compiler.extract_closed false
set_option bootstrap.genMatcherCode false
def A3:=@List.length_map
def A4:=@PySem.Heap.get?_push_of_some
def A5:=@PySem.wpAny_bind
def A6:=@PySem.Heap.lt_size
def A7:=@Bool.false_ne_true
def A8:=@List.getElem?_eq_getElem
def A9:=@List.getElem?_map
def B3:=@List.map_cons
def B4:=@List.length_cons
def B5:=@List.getElem?_eq_some_iff
def B6:=@Nat.le_refl
def B7:=@List.mem_append_right
def B8:=@List.length_append
def B9:=@List.mem_cons_of_mem
def C1:=@PySem.Heap.get?_push_size
def C4:=@List.getElem?_set_ne
def C5:=@decide_eq_false
def C6:=@Nat.lt_of_lt_of_le
def C7:=@List.mem_cons
def C8:=@List.mem_cons_self
def C9:=@decide_eq_true
def D4:=@Nat.le_trans
def D5:=@Bool.and_eq_true
def D6:=@List.size_toArray
def D7:=@List.mem_singleton
def D8:=@Nat.ne_of_lt
def D9:=@PySem.sizeLine_eq
def E4:=@List.append_nil
def E7:=@List.mem_map
def E8:=@Option.map_eq_some_iff
def E9:=@List.getElem?_append_left
def F0:=@PySem.wpAny_pure
def F2:=@List.mem_append_left
def F3:=@Nat.lt_irrefl
def F4:=@List.map_append
def F5:=@PySem.wpAny_mono
def F6:=@List.mem_append
def F7:=@List.getElem?_set_self
def F8:=@List.all_eq_true
def F9:=@List.length_set
def G6:=@PySem.boot_len
def J6:=@List.lookup_cons
def J7:=@List.map_map
def J8:=@List.mem_of_getElem?
def J9:=@Option.bind_eq_some_iff
def K0:=@List.getElem?_eq_none
def K1:=@Option.some.inj
def K2:=@List.length_nil
def K3:=@Int.emod_lt_of_pos
def K4:=@congrArg
def K5:=@Nat.zero_le
def K6:=@List.append_assoc
def K7:=@List.getElem?_append_right
def K8:=@List.getD_eq_getElem?_getD
def K9:=@List.nodup_cons
def L0:=@PySem.Heap.get?_update_other
def L1:=@Bool.false_eq_true
def L4:=@Int.emod_nonneg
def L5:=@List.getElem?_replicate
def L6:=@of_decide_eq_true
def L7:=@Nat.le_succ
def L8:=@Bool.and_self
def L9:=@List.replicate_succ
def M0:=@List.getElem?_cons_zero
def M3:=@Option.map_some
def M4:=@beq_self_eq_true
def M5:=@List.length_replicate
def M6:=@List.length_filter_le
def M7:=@Option.isSome_iff_exists
def M8:=@PySem.W.mg_none_of
def M9:=@PySem.Calls.spliced_cons
def N0:=@PySem.wpAny_Call_Name_kw
def N1:=@List.contains_cons
def N2:=@List.zip_cons_cons
def N3:=@List.getElem?_cons_succ
def N4:=@PyProof.Rows.callWith_type1
def N5:=@List.mem_range
def N6:=@PySem.wpAny_truthy_bool
def N7:=@beq_iff_eq
def N8:=@PySem.Heap.size_push
def N9:=@PySem.Calls.callWith_builtin
def O0:=@List.map_nil
def O4:=@PySem.wpAny_loadPart_at
def O5:=@Int.add_mul_emod_self_left
def O6:=@beq_eq_false_iff_ne
def O7:=@Array.length_toList
def O8:=@PySem.mem_of_lookup
def O9:=@Bool.eq_iff_iff
def P0:=@List.any_cons
def P1:=@if_false
def P2:=@List.flatten_cons
def P3:=@PySem.F.plainAttrs_dict
def P4:=@List.mem_filter
def P5:=@List.filter_eq_self
def P6:=@Nat.zero_add
def P7:=@List.all_cons
def P8:=@Array.getElem?_eq_some_iff
def P9:=@List.pairwise_cons
def Q0:=@PySem.wpAny_passesOwn
def Q1:=@List.find?_cons
def Q2:=@Nat.le_of_lt
def Q3:=@PySem.Heap.get?_none_of_le
def Q4:=@PySem.Calls.spliced_nil
def Q5:=@List.length_range
def Q6:=@PyProof.Rows.boot_sorted
def Q7:=@List.cons_append
def Q8:=@List.filter_cons
def Q9:=@Option.getD_some
def R0:=@List.mem_flatMap
def R1:=@PySem.codeAny_mono
def R3:=@PySem.tupleKind_room_in1
def R4:=@List.find?_cons_of_pos
def R5:=@List.find?_cons_of_neg
def R6:=@PyProof.Rows.boot_list
def R7:=@PySem.wpAny_loadPart'
def R8:=@List.nil_append
def R9:=@List.cons.injEq
def S3:=@PySem.wpAny_holding
def S4:=@PySem.wpAny_standAt
def S5:=@Array.getElem?_toList
def S6:=@PySem.Heap.get?_update_self
def S7:=@List.contains_iff_mem
def S8:=@List.ext_getElem?
def S9:=@Nat.lt_succ_of_lt
def T3:=@PySem.Calls.evalArgs_plain
def T4:=@decide_true
def T5:=@Array.getElem_toList
def T6:=@Nat.mod_two_eq_zero_or_one
def T7:=@List.perm_ext_iff_of_nodup
def T8:=@Nat.le_of_eq
def T9:=@Nat.lt_succ_self
def U1:=@List.take_length
def U2:=@List.not_mem_nil
def U3:=@List.pairwise_iff_getElem
def U4:=@List.getElem?_range
def U5:=@PySem.Heap.get?_update_ne
def U6:=@PySem.wpAny_execs_nil
def U7:=@Bool.or_eq_true
def U8:=@List.length_zip
def U9:=@PySem.W.KasT.kasWp_bind
def V0:=@List.mem_filterMap
def V1:=@PySem.Code.quiet_builtin
def V2:=@decide_eq_true_iff
def V3:=@PySem.F.plainAttrs_list
def V4:=@PySem.call_meetsIn
def V5:=@List.drop_eq_nil_of_le
def V6:=@PySem.wpAny_pyIter_enum
def V7:=@List.take_add_one
def V8:=@Nat.lt_trichotomy
def V9:=@Int.lt_trans
def W0:=@Int.emod_eq_of_lt
def W1:=@PySem.plainObj_wpAny_Assign_Attribute
def W2:=@PySem.Obj.isFreed_of_fields
def W3:=@PySem.F.slot_dict_get
def W4:=@PyProof.Rows.boot_max
def W5:=@PyProof.Rows.boot_int
def W6:=@List.length_take
def W7:=@PyProof.Rows.callWith_builtin1
def W8:=@PySem.wpAny_call
def W9:=@List.perm_middle
def X0:=@List.any_eq_true
def X1:=@decide_eq_decide
def X2:=@PySem.Paired.length
def X3:=@PyProof.Rows.listUpdate_at
def X4:=@List.eq_nil_of_length_eq_zero
def X5:=@Bool.or_eq_false_iff
def X6:=@List.mem_iff_getElem
def X7:=@List.of_mem_zip
def X8:=@PySem.F.slot_dict_setdefault
def X9:=@List.filterMap_cons
def Y0:=@PySem.wpAny_isSubtype_exc
def Y1:=@List.mem_map_of_mem
def Y2:=@List.map_congr_left
def Y3:=@Nat.ne_of_gt
def Y4:=@decide_false
def Y5:=@Array.getD_eq_getD_getElem?
def Y6:=@PySem.W.callWith_K
def Y7:=@PySem.Calls.Name_function_global
def Y8:=@PySem.Obj.data_mapFields
def Y9:=@PySem.wpAny_letOwnedTupleGo_enum
def Z0:=@PySem.F.excBase_ValueError
def Z1:=@List.set_cons_zero
def Z2:=@Bool.not_false
def Z3:=@Array.perm_iff_toList_perm
def Z4:=@PySem.codeAny_call_builtin_code
def Z5:=@PySem.wpAny_check_type_call_sub
def Z6:=@PySem.wpAny_newObj_type
def Z7:=@Option.isSome_map
def Z8:=@PySem.wpAny_Call_method
def Z9:=@PySem.wpAny_pyIter_list
def ZA0:=@PySem.F.slot_list_append
def ZA1:=@PySem.F.type_list_append
def ZA2:=@PySem.wpAny_comprehension_free
def MN:=@PySem.wpAny_newList
def OU:=@Nat.succ_le_succ
def OT:=@PySem.Heap.size_update
def ZA6:=@PySem.codeAny_call_builtin_at
def ZA7:=@PySem.F.args_dict_get_3
def ZA8:=@PySem.wpAny_pyNext_enum_itemD
def OR:=@List.getElem_mem
def ZB0:=@List.filter_cons_of_neg
def ZB1:=@List.filter_cons_of_pos
def OQ:=@Option.bind_some
def ZB3:=@PySem.wpAny_Call_method0_late
def ZB4:=@PySem.F.plain_list_iadd
def ZB5:=@PySem.F.slot_dict_items
def ZB6:=@PyProof.Rows.boot_tuple
def ZB7:=@PyProof.Rows.subscriptTail_builtinR
def MM:=@Bool.or_true
def ZB9:=@PySem.F.entry_dict_get
def ZC0:=@PySem.wpAny_pyNext_enum_endD
def ML:=@Nat.min_self
def CF:=@Nat.not_lt
def ZC3:=@PySem.F.slot_dict_keys
def ZC4:=@PySem.F.plainAttrs_str
def OP:=@List.foldl_cons
def OO:=@Nat.min_le_left
def ON:=@Nat.not_lt_zero
def OM:=@List.filter_map
def ZC9:=@PySem.W.cellsFrom_some
def OL:=@PySem.W.looks_clsIn
def OJ:=@PySem.W.plainGet_of
def OI:=@PySem.wpAny_setField
def MK:=@PySem.wpAny_field
def MJ:=@PyProof.Rows.seqEpoch_at
def zB:=@and_self
def ZD6:=@PySem.W.methodCall_KW
def OH:=@Bool.not_true
def MI:=@PySem.W.Looks.here
def MH:=@PySem.call_meets
def ZE0:=@PySem.W.looks_findIn
def OG:=@Bool.true_or
def OE:=@Int.le_total
def OD:=@PyProof.Rows.listItems_at
def OC:=@List.all_nil
local macro_rules|`(tactic|trivial)=>`(tactic|first|exact Or.inl rfl|exact Or.inr rfl|exact Or.inr (Or.inl rfl)|exact Or.inr (Or.inr rfl))
namespace PySem.W.Fast
def tw16987631520086496639:=0
def tw1746774790056451715:=0
def tw150068396658994336:=0
def tw5096224157777359358:=0
def tw2850118943591953128:=0
def tw18048321904500320654:=0
def tw11048863376708422206:=0
def tw14728841634081434240:=0
def tw9874700947307622484:=0
def tw16153295972831977591:=0
def tw5744727451338838852:=0
def tw2330506074861749367:=0
def tw14288038325051051826:=0
def tw12473559767076975145:=0
def tw11275919508065243239:=0
def tw8598372940456567077:=0
def tw4274218252813067958:=0
def tw14955936761484707029:=0
def tw12072030658323256244:=0
def tw977445964634831550:=0
def tw15864248016880531077:=0
def tw12564436583278111854:=0
def tw722257564475103696:=0
def tw15005726701591158526:=0
def tw5114108052076928686:=0
def tw8662592242628179127:=0
def tw4521608888041284843:=0
def tw1928828115633875196:=0
def tw10576741902177495726:=0
def tw2553636059898601092:=0
def tw15218010538700170554:=0
def tw398541058152742925:=0
def tw12112832013673592456:=0
def tw6821584975129977158:=0
def tw8152126584232849631:=0
def tw14948854570351619526:=0
def tw15930313438320198455:=0
def tw2279489451234504464:=0
def tw16161724312353386225:=0
def tw13307232362950292552:=0
def tw12908092546301730660:=0
def tw8250080777720627093:=0
def tw17321232162789961408:=0
def tw18042839863712309260:=0
def tw7681654319069501695:=0
def tw6850526869861351120:=0
def tw10837004520257609895:=0
def tw6360018089556840502:=0
def tw18231806919175325472:=0
def tw11965357018095790368:=0
def tw9317774944795797731:=0
def tw3732400820183156024:=0
def tw9240733726800318822:=0
def tw4033671142300710106:=0
def tw4330888945640853411:=0
def tw2575146552470584742:=0
def tw3928227971994562037:=0
def tw1304433945911052002:=0
def tw11466919001426523713:=0
def tw10560631297045900777:=0
def tw3751546209483511572:=0
def tw303546494464557381:=0
def tw5865056245298215052:=0
def tw16219717366326484747:=0
def tw5552293254183217507:=0
def tw9927865924698194141:=0
def tw1897442636988425803:=0
def tw17493944157609571657:=0
def tw15363257009747394230:=0
def tw6393649939951231463:=0
def tw15656106747517461087:=0
def tw6622482592890534452:=0
def tw13526598497494277370:=0
def tw1204872978385333092:=0
def tw8991128809690042897:=0
def tw16280213430109751888:=0
def tw16277734780234805575:=0
def tw17497380183343729661:=0
def tw9373370314481942990:=0
def tw5157832238385035537:=0
def tw1845189890614121085:=0
def tw7584856748982642327:=0
def tw14254359254192601349:=0
def tw3039921478422684325:=0
def tw15678237437281975751:=0
def tw7673579388617600092:=0
def tw1087330668884560904:=0
def tw4597796007827510816:=0
def tw795595065847019759:=0
def tw15586787954070721606:=0
def tw407031661825740274:=0
def tw2009563878757729818:=0
def tw11278695327371839334:=0
def tw3926583944535157088:=0
def tw3961216071378595564:=0
def tw1136124071251798975:=0
def tw681083955735969760:=0
def tw7741013022642448920:=0
def tw5459188100316933185:=0
def tw15504548908255568151:=0
def tw8788712892559494929:=0
def tw16767655776205128543:=0
def tw17980979522662960929:=0
def tw369911634197487090:=0
def tw16132331065278669297:=0
def tw8194041472183069534:=0
def tw9571924359681006099:=0
def tw7076732978124593361:=0
def tw12466162094562313231:=0
def tw16970151567646961969:=0
def tw16734930907163899502:=0
def tw13739624151890772218:=0
def tw7093939860079047830:=0
def tw17828111424880583714:=0
def tw2606037952627198396:=0
def tw12215653918094010176:=0
def tw4106096011924821576:=0
def tw18293101980373123844:=0
def tw14522176058560938027:=0
def tw1045608445087038596:=0
def tw15349597465634271456:=0
def tw3099602199917956385:=0
def tw2374280712721059933:=0
def tw7380360922711025889:=0
def tw1675013894328667646:=0
def tw14562219139410134967:=0
def tw11698361651097905445:=0
def tw10872269499809346711:=0
def tw14719148297511022999:=0
def tw2359190711770533021:=0
def tw10065653279526566959:=0
def tw9972931516564896255:=0
def tw16307382555764126803:=0
def tw16655082096171109718:=0
def tw7048188911895826095:=0
def tw8162468855372372157:=0
def tw17895486298369321377:=0
def tw16660230460188882193:=0
def tw2359951528218154448:=0
def tw13054950026110570590:=0
def tw9033092656549436975:=0
def tw2213237107187116035:=0
def tw16612383130753635693:=0
def tw10443518468558509442:=0
def tw2659159740792242540:=0
def tw9874637498127832566:=0
def tw15034768550819205654:=0
def tw2073522021820586590:=0
def tw7621908054446854074:=0
def tw13053848567111532475:=0
def tw8537462804390791067:=0
def tw7184243143913582083:=0
def tw11741005874926291399:=0
def tw6301700196933213998:=0
def tw4001335279456471966:=0
def tw8495864934859790496:=0
def tw10032355114897410480:=0
def tw13054773469054832019:=0
def tw16303183094661459635:=0
def tw7291844567063220444:=0
def tw9588942853945161941:=0
def tw10806207044551299991:=0
def tw7558488131858952410:=0
def tw10551203144026806569:=0
def tw17995395498820919609:=0
def tw12421893250061136109:=0
def tw15784052696659452082:=0
def tw9921633236574050656:=0
def tw11277928299151275418:=0
def tw16669256769473701529:=0
def tw13124698243486609759:=0
def tw13428209951290705646:=0
def tw14886506723836451431:=0
def tw6824930743797226271:=0
def tw16094015852687294619:=0
def tw8452188534311296910:=0
def tw17971703879074376975:=0
def tw11952779194146603791:=0
def tw11707925715853221919:=0
def tw15685770099846659918:=0
def tw224341600175729532:=0
def tw794656401722493977:=0
def tw6781853030075077039:=0
def tw8701388926618242594:=0
def tw14820379723249717503:=0
def tw15757599561846224617:=0
def tw6847990749239044162:=0
def tw15266467164328463022:=0
def tw9495260707176419307:=0
def tw17056357939668665768:=0
def tw16095887015192889275:=0
def tw16755246126875867284:=0
def tw5461346139342928956:=0
def tw13478067685221570480:=0
def tw3190651146311987615:=0
def tw2103416500369936507:=0
def tw13598422886780759770:=0
def tw3278699975279373919:=0
def tw11487184258764710822:=0
def tw6297350778879624623:=0
def tw7138047064108318718:=0
def tw4702291870714049934:=0
def tw174397701692972043:=0
def tw4399222929650760078:=0
def tw3551006359899425615:=0
def tw3451794704999603849:=0
def tw3066692109386106042:=0
def tw11993245158297753172:=0
def tw2057875144461154186:=0
def tw15204073003220641948:=0
def tw15011990221493696360:=0
def tw5701938466660335676:=0
def tw9535282966182039243:=0
def tw15734003830506506049:=0
def tw11208677063333952716:=0
def tw4705231013505456124:=0
def tw2390189546866465220:=0
def tw11850647397230725290:=0
def tw4157578007135449203:=0
def tw11895167092356332792:=0
def tw12478337370030554501:=0
def tw12219254528310006780:=0
def tw17640613973585536956:=0
def tw9405562982835035670:=0
def tw13181793361839737401:=0
def tw13375774073012448780:=0
def tw4458723359064331684:=0
def tw6791241010771485836:=0
def tw18143863304257089084:=0
def tw13410283032861423583:=0
def tw13092127946155480933:=0
def tw2635793926518107828:=0
def tw12034989310460042323:=0
def tw7801078915755109064:=0
def tw17994583871821389083:=0
def tw2827598809980827414:=0
def tw16100250026299642708:=0
def tw6699212620885904189:=0
def tw3648085712718238682:=0
def tw16572802422122024635:=0
def tw964578452013890486:=0
def tw3638670458589440067:=0
def tw3655673791901356173:=0
def tw3244632263252714714:=0
def tw8939538226424928005:=0
def tw13584678489960729678:=0
def tw4936907783882160708:=0
def tw17890724491949862977:=0
def tw12424404928146451661:=0
def tw748724065061466675:=0
def tw18265914573980992463:=0
def tw16723012479693401674:=0
def tw14721018403606567686:=0
def tw8303156433843884576:=0
def tw1137483944190043267:=0
def tw1764632844254772848:=0
def tw10018310033526822777:=0
def tw8229567817138174910:=0
def tw15172723885242641390:=0
def tw12627381562016660689:=0
def tw15808971351915563208:=0
def tw16049404109715569714:=0
def tw8676160671387333645:=0
def tw14627973064246165464:=0
def tw16473740743491328087:=0
def tw14336902455314821406:=0
def tw10381758811773017558:=0
def tw10979447438571707881:=0
def tw2704008497072100141:=0
def tw4106591596166625993:=0
def tw17146523499227334759:=0
def tw3707659597499931466:=0
def tw14296793283260290629:=0
def tw5342529550791772006:=0
def tw7745848669398669147:=0
def tw2795036063612146315:=0
end PySem.W.Fast
noncomputable section
open PySem.W (Frag InitBack InstAt KdlKeysView Looks any_some bind_fn callWith_K callWith_K0 cellsFrom_some check_slot clsIn codeIn codeRec_of emptyDict eq_bytes exmOne exm_one findCls findIn findObj_own fnOf get_value handedIn hasDictIn hideAll hideAll_get hideAll_none hideAll_size instObj isFn kcp_self kdl_call kdl_dict kdl_keys kdl_meets_keys keepIn keq_ne kia_one kitOne kitx_bool kitx_int kitx_list kitx_none kitx_str kitx_tuple kun_itemsOf lookIn looks_clsIn looks_findIn looks_mroIn make_core makesIn makes_of methodCall_KW methodObj method_fn mg_none_of mg_of mroIn ne_bytes nsIn of_hideAll osa_eq osa_open plainGet plainGet_of plainOver readsIn set_plain specialIn takerIn takesIn truthy_bytes typeIn)
local macro_rules
 | `(tactic| rfl') => `(tactic| kernel_rfl)
local macro_rules
 | `(tactic| simp![$xs,*] $[$l:location]?) => `(tactic| simp only[Nat.reduceAdd, Nat.reduceSub, Nat.reduceLeDiff, ↓reduceIte, reduceCtorEq, $xs,*] $[$l:location]?)
local macro_rules|`(())=>`(by lia)
local macro_rules|`(⋯)=>`(by decide)|`(nofun)=>`(by decide +kernel)|`(∅)=>`(by rfl')
abbrev AG(x:PySem.Str):Prop:=(x==("__debug__" :PySem.Str))=false
abbrev AE:=List (PySem.Addr×PySem.Obj)
abbrev AB:=PySem.Str->Option PySem.Value
abbrev AA:=PySem.Value->PySem.Shared->Prop
namespace L2
open PySem PySem.Spec PyProof.Rows
abbrev Ae:=Sum Int Str
def lz:Ae->Value->Bool
 | .inl k,v=>Value.isInt k v
 | .inr x,v=>Value.isStrOf x v
noncomputable def PO(w:World):Ae->Int
 | .inl k=>hashInt k
 | .inr x=>hashStr w x
def qb:∀{k:Ae} {v:Value},lz k v=true->(∃i t,k=Sum.inl i/\v=Value.int i t)\/(∃x t,k=Sum.inr x/\v=Value.str x t)
 | .inl i,v,h=>by
  obtain⟨t,e⟩:=Value.isInt_shape (k:=i) (v:=v) h;exact .inl ⟨i,t,rfl,e⟩
 | .inr x,v,h=>by
  obtain⟨t,e⟩:=Value.isStrOf_shape (x:=x) (v:=v) h;exact .inr ⟨x,t,rfl,e⟩
def XW(i:Int)(t:Tok):lz (.inl i) (.int i t)=true:=by simp[lz,Value.isInt]
def XU(x:Str)(t:Tok):lz (.inr x) (.str x t)=true:=by simp[lz,Value.isStrOf]
def Sy(a b:Int):decide ((Sum.inl a:Ae)=Sum.inl b)=(a ==b):=by
 by_cases e:a=b
 ·subst e;simp
 ·have h:¬(Sum.inl a:Ae)=Sum.inl b:=λq=>e (Sum.inl.inj q);rw[C5 h];exact(O6.mpr e).symm
def Sx(a b:Str):decide ((Sum.inr a:Ae)=Sum.inr b)=decide (a=b):=by
 by_cases e:a=b
 ·subst e;simp
 ·have h:¬(Sum.inr a:Ae)=Sum.inr b:=λq=>e (Sum.inr.inj q);rw[C5 h,C5 e]
def Sw(a:Int)(b:Str):decide ((Sum.inl a:Ae)=Sum.inr b)=false:=C5 (λq=>nomatch q)
def Sv(a:Str)(b:Int):decide ((Sum.inr a:Ae)=Sum.inl b)=false:=C5 (λq=>nomatch q)
def Ec(prog:Program)(w:World):PySem.KeyKind prog w Ae where
 is:=lz
 hash:=PO w
 inj:=λv a b ha hb=>by
  rcases qb ha with⟨i,t,rfl,rfl⟩|⟨x,t,rfl,rfl⟩
  ·rcases qb hb with⟨j,u,rfl,e⟩|⟨y,u,rfl,e⟩
   ·injection e with e1 _;rw[e1]
   ·exact nomatch e
  ·rcases qb hb with⟨j,u,rfl,e⟩|⟨y,u,rfl,e⟩
   ·exact nomatch e
   ·injection e with e1 _;rw[e1]
 byValue:=λk v h=>by
  rcases qb h with⟨i,t,rfl,rfl⟩|⟨x,t,rfl,rfl⟩ <;> rfl
 pyHash:=λhv h=>by
  rcases qb hv with⟨i,t,rfl,rfl⟩|⟨x,t,rfl,rfl⟩
  ·exact wpAny_pyHash_int h
  ·exact wpAny_pyHash_str h
 eqBool:=λhu hv h=>by
  rcases qb hu with⟨i,t,rfl,rfl⟩|⟨x,t,rfl,rfl⟩
  ·rcases qb hv with⟨j,u,rfl,rfl⟩|⟨y,u,rfl,rfl⟩
   ·rw[Sy]at h;exact wpAny_eqBool_int h
   ·rw[Sw]at h;exact SeqAt.EqAt.int_str i t y u _ _ _ _ h
  ·rcases qb hv with⟨j,u,rfl,rfl⟩|⟨y,u,rfl,rfl⟩
   ·rw[Sv]at h;exact SeqAt.EqAt.str_int x t j u _ _ _ _ h
   ·rw[Sx]at h;exact wpAny_eqBool_str h
 «strs»:=λk x t v h=>by
  rcases qb h with⟨i,u,rfl,e⟩|⟨y,u,rfl,e⟩
  ·exact nomatch e
  ·injection e with e1 _
   subst e1;cases v <;> rfl
def Zh(prog:Program)(w:World)(i:Int)(t:Tok):(Ec prog w).is (.inl i) (.int i t)=true:=XW i t
def Zg(prog:Program)(w:World)(x:Str)(t:Tok):(Ec prog w).is (.inr x) (.str x t)=true:=XU x t
inductive V where
 |aK|bl (b:Bool)|int (i:Int)|str (x:Str)|iT (b:Array UInt8)|nr (b:UInt64)|ref (a:Addr)|ty (n:String)
 deriving DecidableEq
def RelV:V->Value->Prop
 | .aK,u=>u=Value.none
 | .bl b,u=>u=Value.bool b
 | .int i,u=>∃t,u=Value.int i t
 | .str x,u=>∃t,u=Value.str x t
 | .iT b,u=>∃t,u=Value.bytes b t
 | .nr b,u=>∃t,u=Value.float b t
 | .ref a,u=>u=Value.ref a
 | .ty n,u=>u=Value.type n
abbrev Vals:List V->List Value->Prop:=Paired RelV
theorem Vals.length{xs:List V}{us:List Value}(r:Vals xs us):xs.length=us.length:=X2 r
theorem Vals.get:∀{xs:List V} {us:List Value} {i:Nat} {x:V},Vals xs us->xs[i]? =some x->∃u,us[i]? =some u/\RelV x u
 |_,_,_,_,.nil,e=>by simp at e
 |_,_,0,_,.cons r _,e=>by simp at e;subst e;exact⟨_,rfl,r⟩
 |_,_,i + 1,x,.cons _ t,e=>by
  obtain⟨u,h1,h2⟩:=Vals.get (i:=i) (x:=x) t (by simpa using e);exact⟨u,by simpa using h1,h2⟩
theorem Vals.set{x:V}{u:Value}(r:RelV x u):∀{xs:List V} {us:List Value} (i:Nat),Vals xs us->Vals (xs.set i x) (us.set i u)
 |_,_,_,.nil=> .nil
 |_,_,0,.cons _ t=> .cons r t
 |_,_,i + 1,.cons q t=> .cons q (Vals.set r i t)
theorem Vals.append:∀{xs ys:List V} {us ws:List Value},Vals xs us->Vals ys ws->Vals (xs ++ ys) (us ++ ws)
 |_,_,_,_,.nil,s=>s
 |_,_,_,_,.cons r t,s=> .cons r (Vals.append t s)
theorem Vals.take:∀{xs:List V} {us:List Value} (n:Nat),Vals xs us->Vals (xs.take n) (us.take n)
 |_,_,0,_=> .nil
 |_,_,_ + 1,.nil=> .nil
 |_,_,n + 1,.cons r t=> .cons r (Vals.take n t)
def bJ:Option V->Option Value->Prop
 |some v,some u=>RelV v u
 |none,none=>True
 |_,_=>False
def KV{κ:Type}:List (κ×V)->List (κ×Value)->Prop:=Paired λ(p:κ×V) (q:κ×Value)=>p.1=q.1/\RelV p.2 q.2
def kV:Ae->V
 | .inl i=> .int i
 | .inr x=> .str x
inductive HO where
  |lst (xs:List V)
  |tup (xs:List V)
  |dK (kvs:List (Ae×V))|dT (kvs:List (List Ae×V))
  |set (S:Int->Bool) (n:Nat)
  |ins (C dx:Addr) (fs:List (Str×V))
  |own (x:Addr)
  |xd (fs:List (Str×V))
  |met (f x:Addr)
  |pO (lo hi:Int)
  |aQ (o:Obj) (u:HO)
  |tf (ps:Array Value)
  |ext (φ:Heap->Prop)
abbrev Hp:=Addr->Option HO
noncomputable def upd(H:Hp)(a:Addr)(o:HO):Hp:=λb=>if b=a then some o else H b
def Bf{H:Hp}{a:Addr}{o:HO}:upd H a o a=some o:=by unfold upd;rw[if_pos rfl]
def Ao{H:Hp}{a b:Addr}{o:HO}(h:b≠a):upd H a o b=H b:=by unfold upd;rw[if_neg h]
def QZ{H:Hp}{a b:Addr}{o u:HO}(h:H a=some o)(h':H b=some u)(d:o≠u):a≠b:=by
 intro e;subst e;rw[h]at h';exact d (K1 h')
def Ep{H:Hp}{a b:Addr}{o:HO}(h:H a=some o)(h':H b=none):a≠b:=by
 intro e;subst e;rw[h]at h';cases h'
section
variable(P:Program)(w:World)
def aP(H:Hp)(h:Heap)(a:Addr):HO->Prop
 | .lst xs=>xs.length<=sizeLine/\∃(its:List Value) (n:Nat),Vals xs its/\h.get? a=some {cls:=.type "list",data:=.seq its.toArray n}
 | .tup xs=>xs.length<=sizeLine/\∃its:List Value,Vals xs its/\IsTup h a its.toArray
 | .dK kvs=>kvs.length<=sizeLine/\(a ==sysModules)=false/\∃vs,KV kvs vs/\h.DictOf (Ec P w) a vs
 | .dT kvs=>kvs.length<=sizeLine/\(a ==sysModules)=false/\∃xs:List (List Ae×Addr×Value),
   Paired (λ(p:List Ae×V) (q:List Ae×Addr×Value)=>p.1=q.1/\H q.2.1=some (.tup (p.1.map kV))/\RelV p.2 q.2.2) kvs xs/\
   ∃o es ep,h.get? a=some o/\o.ExactDict/\o.data=.dict es ep/\es.toList=xs.map (entryOfKey (tupleKind (Ec P w)))/\(xs.map (·.1)).Nodup
 | .set S n=>h.SetOf (intKind P w) a S n
 | .ins C dx fs=>H dx=some (.own a)/\fs.length<=1000/\dx≠a/\h.get? a=some (instObj C dx)/\
   ∃mA,h.Ns1 dx mA/\(∀f,bJ (fs.lookup f) (mA f))/\PySem.Within mA (fs.map (·.1))
 | .own _=>∃o,h.get? a=some o
 | .xd fs=>∃mA,h.Ns1 a mA/\∀f,bJ (fs.lookup f) (mA f)
 | .pO lo hi=>∃t u v,h.get? a=some {cls:=.type "range",data:=.fields #[.int lo t,.int hi u,.int 1 v]}
 | .aQ o u=>h.get? a=some o/\aP H h a u
 | .tf ps=>h.get? a=some {cls:=.none,data:=.fields ps}
 | .met f x=>h.get? a=some (methodObj (.ref f) (.ref x))
 | .ext φ=>φ h/\(∃o,h.get? a=some o)/\∀h1 h2:Heap,φ h1->(∀o,h1.get? a=some o->h2.get? a=some o)->φ h2
def cP(H:Hp)(h:Heap):Prop:=∀a o,H a=some o->aP P w H h a o
end
section
variable{P:Program}{w:World}{H H':Hp}{h h':Heap}{a:Addr}{o:HO}
theorem aP.lt(x:aP P w H h a o):a < h.objs.size:=by
 cases o with
 |lst xs=>obtain⟨_,_,_,_,e⟩:=x;exact A6 e
 |tup xs=>obtain⟨_,_,_,p⟩:=x;exact p.lt
 |dK kvs=>obtain⟨_,_,_,_,o,_,_,e,_⟩:=x;exact A6 e
 |dT kvs=>obtain⟨_,_,_,_,o,_,_,e,_⟩:=x;exact A6 e
 |set S n=>obtain⟨o,_,_,_,e,_⟩:=x;exact A6 e
 |ins C dx fs=>obtain⟨_,_,_,e,_⟩:=x;exact A6 e
 |own y=>obtain⟨_,e⟩:=x;exact A6 e
 |xd fs=>obtain⟨_,⟨_,_,_,e,_⟩,_⟩:=x;exact A6 e
 |pO lo hi=>obtain⟨_,_,_,e⟩:=x;exact A6 e
 |aQ ob u=>obtain⟨e,_⟩:=x;exact A6 e
 |tf ps=>exact A6 (show h.get? a=some _ from x)
 |met f y=>exact A6 (show h.get? a=some _ from x)
 |ext φ=>obtain⟨_,⟨_,e⟩,_⟩:=x;exact A6 e
theorem Paired.vh{α β:Type}{F G:α->β->Prop}:∀{l₁:List α} {l₂:List β},Paired F l₁ l₂->(∀a b,F a b->G a b)->Paired G l₁ l₂
 |_,_,.nil,_=> .nil
 |_,_,.cons r t,f=> .cons (f _ _ r) (Paired.vh t f)
def aP.cX(x:aP P w H h a o)(k:∀b u,(b=a\/H b=some (.own a))->h.get? b=some u->h'.get? b=some u)
  (ho:∀b,H b=some (.own a)->H' b=some (.own a)) (ht:∀b xs,H b=some (.tup xs)->H' b=some (.tup xs)):aP P w H' h' a o:=by
 induction o with
 |lst xs=>obtain⟨z,its,n,r,e⟩:=x;exact⟨z,its,n,r,k _ _ (.inl rfl) e⟩
 |tup xs=>obtain⟨z,its,r,ob,e,c⟩:=x;exact⟨z,its,r,ob,k _ _ (.inl rfl) e,c⟩
 |dK kvs=>obtain⟨z,y,vs,r,ob,es,ep,e,c⟩:=x;exact⟨z,y,vs,r,ob,es,ep,k _ _ (.inl rfl) e,c⟩
 |dT kvs=>
  obtain⟨z,y,xs,r,ob,es,ep,e,c⟩:=x;exact⟨z,y,xs,Paired.vh r λp q z=>⟨z.1,ht _ _ z.2.1,z.2.2⟩,ob,es,ep,k _ _ (.inl rfl) e,c⟩
 |set S n=>obtain⟨ob,es,ep,t,e,c⟩:=x;exact⟨ob,es,ep,t,k _ _ (.inl rfl) e,c⟩
 |ins C dx fs=>
  obtain⟨d,z,ne,e,mA,⟨od,es,ep,e2,c⟩,r⟩:=x;exact⟨ho _ d,z,ne,k _ _ (.inl rfl) e,mA,⟨od,es,ep,k _ _ (.inr d) e2,c⟩,r⟩
 |own y=>obtain⟨ob,e⟩:=x;exact⟨ob,k _ _ (.inl rfl) e⟩
 |xd fs=>obtain⟨mA,⟨od,es,ep,e,c⟩,r⟩:=x;exact⟨mA,⟨od,es,ep,k _ _ (.inl rfl) e,c⟩,r⟩
 |pO lo hi=>obtain⟨t,u,v,e⟩:=x;exact⟨t,u,v,k _ _ (.inl rfl) e⟩
 |aQ ob u ih=>obtain⟨e,q⟩:=x;exact⟨k _ _ (.inl rfl) e,ih q⟩
 |tf ps=>
  have e:h.get? a=some {cls:=.none,data:=.fields ps}:=x;show h'.get? a=some {cls:=.none,data:=.fields ps};exact k a _ (.inl rfl) e
 |met f y=>
  have e:h.get? a=some (methodObj (.ref f) (.ref y)):=x;show h'.get? a=some (methodObj (.ref f) (.ref y));exact k a _ (.inl rfl) e
 |ext φ=>obtain⟨p,⟨o,e⟩,st⟩:=x;exact⟨st _ _ p λo q=>k _ _ (.inl rfl) q,⟨o,k _ _ (.inl rfl) e⟩,st⟩
theorem cP.lt(x:cP P w H h)(e:H a=some o):a < h.objs.size:=(x a o e).lt
def cP.fresh(x:cP P w H h)(e:h.objs.size<=a):H a=none:=by
 cases q:H a with
 |none=>rfl
 |some u=>exact absurd (C6 (x.lt q) e) (F3 _)
def cP.kept(x:cP P w H h)(k:∀b u,h.get? b=some u->h'.get? b=some u):cP P w H h':=λa o e=>
 (x a o e).cX (λb u _ q=>k b u q) (λ_ q=>q) λ_ _ q=>q
def cP.laid(x:cP P w H h)(k:∀b u,h.get? b=some u->h'.get? b=some u)(hp:h.objs.size<=a)(new:aP P w (upd H a o) h' a o):cP P w (upd H a o) h':=λb u e=>by
 have hn:=x.fresh hp
 by_cases hb:b=a
 ·subst hb;rw[Bf]at e;cases e;exact new
 ·rw[Ao hb]at e;exact(x b u e).cX (λc v _ q=>k c v q) (λc q=>by rw[Ao (Ep q hn)];exact q) λc xs q=>by rw[Ao (Ep q hn)];exact q
end
def Rd(H:Hp)(a:Addr)(u:HO):Prop:=H a=some u\/∃o,H a=some (.aQ o u)
def Rd.ok{P:Program}{w:World}{H:Hp}{h:Heap}{a:Addr}{u:HO}(r:Rd H a u)(x:cP P w H h):aP P w H h a u:=by
 rcases r with r|⟨o,r⟩
 ·exact x a u r
 ·obtain⟨_,q⟩:=x a _ r;exact q
def CG:Option HO->Prop
 |some (.lst _)=>True
 |some (.dK _)=>True
 |some (.dT _)=>True
 |some (.set _ _)=>True
 |some (.ins _ _ _)=>True
 |some (.ext _)=>True
 |_=>False
section
variable{P:Program}{w:World}{H:Hp}{h h':Heap}{x e:Addr}{o':HO}
def cP.write(ok:cP P w H h)(mu:CG (H x))(he:e=x\/H e=some (.own x))(k:∀b u,b≠e->h.get? b=some u->h'.get? b=some u)(yW:∃u,h'.get? e=some u)
  (new:aP P w (upd H x o') h' x o'):cP P w (upd H x o') h':=λb u q=>by
 have cy:∀c y,H c=some (.own y)->c≠x:=λc y r z=>by subst z;rw[r]at mu;exact mu
 have df:∀c xs,H c=some (.tup xs)->c≠x:=λc xs r z=>by subst z;rw[r]at mu;exact mu
 by_cases hb:b=x
 ·subst hb;rw[Bf]at q;cases q;exact new
 ·rw[Ao hb]at q
  by_cases uQ:b=e
  ·have q':H b=some (.own x):=by
    rcases he with z|z
    ·exact absurd (uQ.trans z) hb
    ·rw[uQ];exact z
   rw[q]at q';cases q';obtain⟨v,hv⟩:=yW;exact⟨v,by rw[uQ];exact hv⟩
  ·refine(ok b u q).cX (λc v hc r=>k c v ?_ r) (λc r=>by rw[Ao (cy c b r)];exact r) λc xs r=>by rw[Ao (df c xs r)];exact r
   rcases hc with rfl|hc
   ·exact uQ
   ·rintro rfl
    rcases he with z|z
    ·exact cy c b hc z
    ·rw[hc]at z;cases z;exact hb rfl
end
structure Un(fs ex:List Addr)(H H':Hp)(h h':Heap):Prop where
 keep:∀b o,h.get? b=some o->H b=none->b∉fs->b∉ex->h'.get? b=some o
 slot:∀b o,h.get? b=some o->H b=none->b∈fs->b∉ex->∃sl,h'.get? b=some {o with slots:=sl}
 free:∀b o,h.get? b=some o->H b=none->b∉ex->H' b=none
 there:∀b o,h.get? b=some o->b∉ex->∃o',h'.get? b=some o'
 cS:∀b xs,H b=some (.tup xs)->H' b=some (.tup xs)
 cC:∀b o u,H b=some (.aQ o u)->H' b=some (.aQ o u)
 cT:∀b ps,H b=some (.tf ps)->∃more,H' b=some (.tf (ps ++ more))
section
variable{fs fs' ex ex':List Addr}{H H1 H2:Hp}{h h1 h2 h':Heap}{a x e:Addr}{o:HO}
def Un.any(u:Un fs ex H H1 h h1){b:Addr}{ob:Obj}(q:h.get? b=some ob)(n:H b=none)(hx:b∉ex):∃sl,h1.get? b=some {ob with slots:=sl}:=by
 by_cases hb:b∈fs
 ·exact u.slot b ob q n hb hx
 ·exact⟨ob.slots,u.keep b ob q n hb hx⟩
def Un.kept(k:∀b u,h.get? b=some u->h'.get? b=some u):Un fs ex H H h h':=
 ⟨λb ob q _ _ _=>k b ob q,λb ob q _ _ _=>⟨ob.slots,k b ob q⟩,λ_ _ _ n _=>n,λb ob q _=>⟨ob,k b ob q⟩,λ_ _ q=>q,λ_ _ _ q=>q,λ_ ps q=>⟨#[],by rw[q];simp⟩⟩
def Un.refl:Un fs ex H H h h:=Un.kept λ_ _ q=>q
def Un.laid(k:∀b u,h.get? b=some u->h'.get? b=some u)(hp:h.objs.size<=a)(hn:H a=none):Un fs ex H (upd H a o) h h' where
 keep:=λb u q _ _ _=>k b u q
 slot:=λb u q _ _ _=>⟨u.slots,k b u q⟩
 free:=λb u q n _=>by rw[Ao (D8 (C6 (A6 q) hp))];exact n
 there:=λb u q _=>⟨u,k b u q⟩
 cS:=λb xs q=>by rw[Ao (Ep q hn)];exact q
 cC:=λb u xs q=>by rw[Ao (Ep q hn)];exact q
 cT:=λb ps q=>⟨#[],by rw[Ao (Ep q hn),q];simp⟩
def Un.write(mu:CG (H x))(he:e=x\/H e=some (.own x))(k:∀b u,b≠e->h.get? b=some u->h'.get? b=some u)(yW:∃u,h'.get? e=some u):Un fs ex H (upd H x o) h h':=by
 have hx:∀b,H b=none->b≠x:=λb n z=>by subst z;rw[n]at mu;exact mu
 have hb:∀b,H b=none->b≠e:=λb n z=>by
  subst z;rcases he with r|r
  ·exact hx b n r
  ·rw[n]at r;cases r
 have hm:∀b u,H b=some u->¬CG (some u)->b≠x:=λb u q nm z=>by subst z;rw[q]at mu;exact nm mu
 refine⟨λb u q n _ _=>k b u (hb b n) q,λb u q n _ _=>⟨u.slots,k b u (hb b n) q⟩,λb u q n _=>by rw[Ao (hx b n)];exact n,λb u q _=> ?_,
  λb xs q=>by rw[Ao (hm b _ q λz=>z)];exact q,λb u xs q=>by rw[Ao (hm b _ q λz=>z)];exact q,λb ps q=>⟨#[],by rw[Ao (hm b _ q λz=>z),q];simp⟩⟩
 by_cases uQ:b=e
 ·subst uQ;exact yW
 ·exact⟨u,k b u uQ q⟩
end
noncomputable def qh(h:Heap)(H:Hp):List Addr:=(List.range h.objs.size).filter λa=>(H a).isSome
def fK(h:Heap)(H:Hp):Heap:=hideAll h (qh h H)
def XT(h:Heap)(H:Hp):(fK h H).objs.size=h.objs.size:=hideAll_size _ _
def WB{h:Heap}{H:Hp}{b:Addr}{o:Obj}(e:h.get? b=some o)(n:H b=none):(fK h H).get? b=some o:=
 hideAll_get _ e λhm=>by
  have q:(H b).isSome=true:=(P4.mp hm).2;rw[n]at q;simp at q
def UR{h:Heap}{H:Hp}{b:Addr}{o:Obj}(e:(fK h H).get? b=some o):h.get? b=some o/\H b=none:=by
 have e':h.get? b=some o:=of_hideAll (qh h H) e;refine⟨e', ?_⟩;cases q:H b with
 |none=>rfl
 |some x=>
  have hm:b∈qh h H:=P4.mpr ⟨N5.mpr (A6 e'),by simp[q]⟩;have z:(fK h H).get? b=none:=hideAll_none (qh h H) hm;rw[z]at e;cases e
noncomputable def UQ(g h:Heap)(L:Addr):AE:=(List.range h.objs.size).filterMap λa=>if a=L\/(g.get? a).isSome=true then none else(h.get? a).map λo=>(a,o)
def Cu(g h:Heap)(L d:Addr):AE:=(UQ g h L).filter λp=>decide (p.1≠d)
structure Mod(K:Frag)(mg:AB)(base:Heap):Prop where
 mG:K.In base
 glob:base.Ns mainGlobals mg
 blt:∃mb,base.Ns builtinsNs mb/\∀x:Str,x≠ "__name__" ->mb x=bootBuiltins x
 nolimit:base.NoLimit
structure Cx where
 prog:Program
 w:World
 K:Frag
 mg:Str->Option Value
 base:Heap
 A:Around
 N:List Str
 s₀:Shared
 H₀:Hp
 env:Env
 outer:List Env
 stack:List Env
 ex:List Addr
 fn:Str->Bool
 calm:Bool
 pn:AE
 xe:Value->Shared->Prop
noncomputable def gA(l:List Env):List Addr:=l.filterMap (·.frame)
abbrev Cx.fs(X:Cx):List Addr:=gA X.outer
def Fm(sc:Scope)(x:Str):Prop:=sc.names.lookup x=some .local\/sc.names.lookup x=some .cell\/sc.names.lookup x=some .free
def Ga(sc:Scope)(x:Str):Prop:=sc.names.lookup x=some .local\/sc.names.lookup x=some .cell
def Look(env:Env)(h:Heap)(m:AB)(x:Str)(u:Value):Prop:=
 (env.kindOf x=some .local/\m x=some u)\/((env.kindOf x=some .cell\/env.kindOf x=some .free)/\∃c,env.cells.lookup x=some c/\h.IsCell c (some u))
structure Cx.Ok(X:Cx):Prop where
 mod:Mod X.K X.mg X.base
 kind:X.env.scope.kind=.function
 glob:X.env.globals=mainGlobals
 blt:X.env.builtins=builtinsNs
 above:X.s₀.heap.objs.size<=X.env.locals
 inj:∀x y c,X.env.cells.lookup x=some c->X.env.cells.lookup y=some c->x=y
 has:∀x,(X.env.kindOf x=some .cell\/X.env.kindOf x=some .free)->∃c,X.env.cells.lookup x=some c
 qD:∀x c,X.fn x=true->X.env.cells.lookup x=some c->X.s₀.heap.objs.size<=c
 hd:X.calm=true->X.A.handled=none
 frames:X.A.frames=some X.stack
 ti:X.stack=X.outer\/(X.stack=X.env::X.outer/\X.env.frame=some X.env.locals)
 zx:∀b∈X.ex,b≠X.env.locals/\∀x c,X.env.cells.lookup x=some c->c≠b
 bs:∀b o,X.base.get? b=some o->X.s₀.heap.get? b=some o/\X.H₀ b=none
 iU:X.base.objs.size<=X.s₀.heap.objs.size
 fG:∀b o,X.base.get? b=some o->b∉X.ex
 gZ:∀b∈X.ex,b∉X.fs
 cB:X.s₀.heap.FunFrames X.base X.outer
 kR:∀b∈X.fs,X.H₀ b=none
structure Inv(X:Cx)(zc:AE)(σ:List (Option V))(H:Hp)(s:Shared):Prop where
 ok:X.Ok
 os:s.os=X.s₀.os
 bare:AllBare s.gens
 base:Un X.fs X.ex X.H₀ H X.s₀.heap s.heap
 loc:∃m,s.heap.Ns X.env.locals m/\∀(i:Nat) (x:Str) (v:V),X.N[i]? =some x->σ[i]? =some (some v)->Fm X.env.scope x->∃u,RelV v u/\Look X.env s.heap m x u
 cell:∀x c,X.env.cells.lookup x=some c->∃v,s.heap.IsCell c v
 free:H X.env.locals=none
 bE:∀x c,X.env.cells.lookup x=some c->H c=none
 pin:∀p∈X.pn ++ zc,s.heap.get? p.1=some p.2/\H p.1=none/\p.1≠X.env.locals/\p.1∉X.fs/\∀v,p.2.data≠ .cell v
 aJ:cP X.prog X.w H s.heap
 len:σ.length=X.N.length
section
variable{X:Cx}{zc:AE}{σ:List (Option V)}{H H':Hp}{s:Shared}{h':Heap}
def Cx.Ok.PJ(ok:X.Ok){b:Addr}{o:Obj}(e:X.base.get? b=some o):b∉X.fs:=λhb=>by
 have:=(ok.cB.mem hb).1;rw[e]at this;cases this
theorem Inv.bs(I:Inv X zc σ H s):∀b o,X.base.get? b=some o->s.heap.get? b=some o/\H b=none:=λb o e=>
 ⟨I.base.keep b o (I.ok.bs b o e).1 (I.ok.bs b o e).2 (I.ok.PJ e) (I.ok.fG b o e),I.base.free b o (I.ok.bs b o e).1 (I.ok.bs b o e).2 (I.ok.fG b o e)⟩
def Inv.bk(I:Inv X zc σ H s):∀b o,X.base.get? b=some o->s.heap.get? b=some o:=λb o e=>(I.bs b o e).1
theorem Inv.mod(I:Inv X zc σ H s):Mod X.K X.mg X.base:=I.ok.mod
def Inv.cN(I:Inv X zc σ H s):X.K.In s.heap:=I.ok.mod.mG.keeps I.bk
theorem Inv.nolimit(I:Inv X zc σ H s):s.heap.NoLimit:=I.ok.mod.nolimit.keeps I.bk
def Inv.fr(I:Inv X zc σ H s):∃m,Fr X.base X.env.locals s.heap m:=
 let⟨m,hn,_⟩:=I.loc
 ⟨m,hn,I.bk,D4 I.ok.iU I.ok.above⟩
theorem Inv.lt(I:Inv X zc σ H s):X.env.locals < s.heap.objs.size:=let⟨_,hn,_⟩:=I.loc;hn.lt
def Inv.sz(I:Inv X zc σ H s):X.s₀.heap.objs.size<=s.heap.objs.size:=D4 I.ok.above (Q2 I.lt)
def Inv.vg(I:Inv X zc σ H s){a:Addr}(h:s.heap.objs.size<=a):a∉X.fs:=λhb=>by
 obtain⟨_,o,ho,_⟩:=I.ok.cB.mem hb;exact absurd (C6 (A6 ho) (D4 I.sz h)) (F3 _)
def Inv.nu(I:Inv X zc σ H s):∀x c,X.env.cells.lookup x=some c->c≠X.env.locals:=λx c e z=>by
 obtain⟨v,o,ho,hd⟩:=I.cell x c e;obtain⟨m,⟨o',es,ep,dJ,fF,_⟩,_⟩:=I.loc;rw[z,dJ]at ho;cases ho;rw[fF]at hd;cases hd
theorem Inv.cB(I:Inv X zc σ H s):s.heap.FunFrames X.base X.outer:=by
 have all:∀(l:List Env),(∀b∈gA l,b∈X.fs)->X.s₀.heap.FunFrames X.base l->s.heap.FunFrames X.base l:=by
  intro l
  induction l with
  |nil=>intro _ _;trivial
  |cons env r ih=>
   intro hs hl;obtain⟨hk,⟨L,o,hf,hn,ho,hd⟩,hr⟩:=hl;have hL:L∈X.fs:=hs L (by unfold gA;rw[X9,hf];exact C8);obtain⟨sl,e⟩:=I.base.slot L o ho (I.ok.kR L hL) hL λz=>I.ok.gZ L z hL;exact⟨hk,⟨L,_,hf,hn,e,hd⟩,ih (λb hb=>hs b (by unfold gA;rw[X9,hf];exact B9 _ hb)) hr⟩
 exact all X.outer (λ_ hb=>hb) I.ok.cB
theorem Inv.stack(I:Inv X zc σ H s):s.heap.FunFrames X.base X.stack:=by
 rcases I.ok.ti with e|⟨e,hf⟩
 ·rw[e];exact I.cB
 ·rw[e];obtain⟨m,hn,_⟩:=I.loc;refine .cons (by rw[I.ok.kind];decide) hf hn ?_ I.cB;exact Q3 (D4 I.ok.iU I.ok.above)
def Inv.dH(I:Inv X zc σ H s):∀b∈gA X.stack,b∈X.env.locals::X.fs:=λb hb=>by
 rcases I.ok.ti with e|⟨e,hf⟩
 ·rw[e]at hb;exact B9 _ hb
 ·rw[e]at hb;unfold gA at hb;rw[X9,hf]at hb;exact hb
def Inv.dX(I:Inv X zc σ H s):∀b∈gA X.stack,H b=none:=λb hb=>by
 rcases C7.mp (I.dH b hb) with e|hb
 ·rw[e];exact I.free
 ·obtain⟨_,o,ho,_⟩:=I.ok.cB.mem hb;exact I.base.free b o ho (I.ok.kR b hb) λz=>I.ok.gZ b z hb
def Inv.step{g':Array GenState}{t':Nat}{d':Drawn}{ch:List Addr}(I:Inv X zc σ H s)
  (pZ:∀b∈ch,(b∈X.ex\/X.s₀.heap.objs.size<=b)/\b≠X.env.locals/\(∀x c,X.env.cells.lookup x=some c->c≠b)/\∀p∈X.pn ++ zc,p.1≠b)
  (keep:∀b o,b≠X.env.locals->b∉X.fs->b∉ch->s.heap.get? b=some o->H b=none->h'.get? b=some o)
  (slot:∀b o,b≠X.env.locals->b∈X.fs->b∉ch->s.heap.get? b=some o->H b=none->∃sl,h'.get? b=some {o with slots:=sl}) (free:∀b o,b∉ch->s.heap.get? b=some o->H b=none->H' b=none)
  (there:∀b o,b∉ch->s.heap.get? b=some o->∃o',h'.get? b=some o')
  (cS:∀b xs,H b=some (.tup xs)->H' b=some (.tup xs)) (cC:∀b o u,H b=some (.aQ o u)->H' b=some (.aQ o u)) (cT:∀b ps,H b=some (.tf ps)->∃more,H' b=some (.tf (ps ++ more)))
  (ns:∀m,s.heap.Ns X.env.locals m->h'.Ns X.env.locals m) (aJ:cP X.prog X.w H' h') (hg:AllBare g'):
  Inv X zc σ H' {s with heap:=h',gens:=g',drawn:=d',toks:=t'}:=by
 have neL:∀b o,X.s₀.heap.get? b=some o->b≠X.env.locals:=λb o e=>D8 (C6 (A6 e) I.ok.above);have LY:∀b o,X.s₀.heap.get? b=some o->b∉X.ex->b∉ch:=λb o e hx hb=>by
  rcases(pZ b hb).1 with z|z
  ·exact hx z
  ·exact absurd (C6 (A6 e) z) (F3 _)
 have cellK:∀x c,X.env.cells.lookup x=some c->∀v,s.heap.IsCell c v->h'.IsCell c v:=λx c e v ⟨o,ho,hd⟩=>by
  have AR:c∉ch:=λz=>(pZ c z).2.2.1 x c e rfl
  by_cases hc:c∈X.fs
  ·obtain⟨sl,q⟩:=slot c o (I.nu x c e) hc AR ho (I.bE x c e);exact⟨_,q,hd⟩
  ·exact⟨o,keep c o (I.nu x c e) hc AR ho (I.bE x c e),hd⟩
 refine⟨I.ok,I.os,hg,⟨λb o e n hb hx=> ?_,λb o e n hb hx=> ?_,λb o e n hx=> ?_,λb o e hx=> ?_,λb xs e=>cS b xs (I.base.cS b xs e),λb o xs e=>cC b o xs (I.base.cC b o xs e),λb ps e=> ?_⟩, ?_,λx c e=> ?_, ?_,λx c e=> ?_,λp hp=> ?_,aJ,I.len⟩
 ·exact keep b o (neL b o e) hb (LY b o e hx) (I.base.keep b o e n hb hx) (I.base.free b o e n hx)
 ·obtain⟨sl,e1⟩:=I.base.slot b o e n hb hx;obtain⟨Nm,e2⟩:=slot b _ (neL b o e) hb (LY b o e hx) e1 (I.base.free b o e n hx);exact⟨Nm,e2⟩
 ·obtain⟨o',e1⟩:=I.base.there b o e hx;exact free b o' (LY b o e hx) e1 (I.base.free b o e n hx)
 ·obtain⟨o',e1⟩:=I.base.there b o e hx;exact there b o' (LY b o e hx) e1
 ·obtain⟨m1,e1⟩:=I.base.cT b ps e;obtain⟨m2,e2⟩:=cT b _ e1;exact⟨m1 ++ m2,by rw[e2,Array.append_assoc]⟩
 ·obtain⟨m,hn,hl⟩:=I.loc;refine⟨m,ns m hn,λi x v e1 e2 e3=> ?_⟩;obtain⟨u,r,l⟩:=hl i x v e1 e2 e3;refine⟨u,r, ?_⟩;rcases l with l|⟨k,c,e,z⟩
  ·exact .inl l
  ·exact .inr ⟨k,c,e,cellK x c e _ z⟩
 ·obtain⟨v,z⟩:=I.cell x c e;exact⟨v,cellK x c e v z⟩
 ·obtain⟨m,⟨o,_,_,ho,_⟩,_⟩:=I.loc;exact free _ o (λz=>(pZ _ z).2.1 rfl) ho I.free
 ·obtain⟨v,o,ho,hd⟩:=I.cell x c e;exact free c o (λz=>(pZ c z).2.2.1 x c e rfl) ho (I.bE x c e)
 ·obtain⟨e,n,ne,nf,d⟩:=I.pin p hp;have AR:p.1∉ch:=λz=>(pZ p.1 z).2.2.2 p hp rfl;exact⟨keep p.1 p.2 ne nf AR e n,free p.1 p.2 AR e n,ne,nf,d⟩
def Inv.un{t':Nat}(I:Inv X zc σ H s)(u:Un X.fs [] H H' s.heap h')(aJ:cP X.prog X.w H' h'):Inv X zc σ H' {s with heap:=h',toks:=t'}:=by
 obtain⟨m,⟨o,es,ep,ho,r⟩,_⟩:=id I.loc;obtain⟨sl,hL⟩:=u.any ho I.free (by simp);exact I.step (g':=s.gens) (d':=s.drawn) (ch:=[]) (λ_ z=>nomatch z) (λb o _ hb _ e n=>u.keep b o e n hb (by simp)) (λb o _ hb _ e n=>u.slot b o e n hb (by simp)) (λb o _ e n=>u.free b o e n (by simp)) (λb o _ e=>u.there b o e (by simp)) u.cS u.cC u.cT (λm' hm=>by
  obtain⟨o',BV,BW,dJ,r'⟩:=hm;rw[ho]at dJ;cases dJ;exact⟨_,BV,BW,hL,r'⟩) aJ I.bare
def Inv.call{g':Array GenState}{t':Nat}{d':Drawn}{ch:List Addr}(I:Inv X zc σ H s)(u:Un (gA X.stack) ch H H' s.heap h')(aJ:cP X.prog X.w H' h')(hg:AllBare g')
  (pZ:∀b∈ch,(b∈X.ex\/X.s₀.heap.objs.size<=b)/\b≠X.env.locals/\(∀x c,X.env.cells.lookup x=some c->c≠b)/\∀p∈X.pn ++ zc,p.1≠b):
  Inv X zc σ H' {s with heap:=h',gens:=g',drawn:=d',toks:=t'}:=by
 obtain⟨m,⟨o,es,ep,ho,r⟩,_⟩:=id I.loc;obtain⟨sl,hL⟩:=u.any ho I.free λz=>(pZ _ z).2.1 rfl;exact I.step (ch:=ch) pZ (λb o hL hb hc e n=>u.keep b o e n (λz=>(C7.mp (I.dH b z)).elim hL hb) hc) (λb o _ _ hc e n=>u.any e n hc) (λb o hc e n=>u.free b o e n hc) (λb o hc e=>u.there b o e hc) u.cS u.cC u.cT (λm' hm=>by
  obtain⟨o',BV,BW,dJ,r'⟩:=hm;rw[ho]at dJ;cases dJ;exact⟨_,BV,BW,hL,r'⟩) aJ hg
def Inv.turned{t':Nat}{it:Addr}(I:Inv X zc σ H s)(k:∀b o,b≠it->s.heap.get? b=some o->h'.get? b=some o)(hn:H it=none)(hL:it≠X.env.locals)
  (h1:it∈X.ex\/X.s₀.heap.objs.size<=it) (h2:∀x c,X.env.cells.lookup x=some c->c≠it) (h3:∀p∈X.pn ++ zc,p.1≠it):Inv X zc σ H {s with heap:=h',toks:=t'}:=by
 have nit:∀b u,H b=some u->b≠it:=λb u e z=>by rw[z,hn]at e;cases e
 refine I.step (g':=s.gens) (d':=s.drawn) (ch:=[it]) (λb hb=> ?_) (λb o _ _ hc e _=>k b o (λz=>hc (by simp[z])) e) (λb o _ _ hc e _=>⟨o.slots,k b o (λz=>hc (by simp[z])) e⟩) (λ_ _ _ _ n=>n)
  (λb o hc e=>⟨o,k b o (λz=>hc (by simp[z])) e⟩) (λ_ _ e=>e) (λ_ _ _ e=>e) (λb ps e=>⟨#[],by rw[e];simp⟩) (λm hm=> ?_) (λb u e=> ?_) I.bare
 ·have e:b=it:=by simpa using hb
  subst e;exact⟨h1,hL,h2,h3⟩
 ·obtain⟨o,es,ep,ho,r⟩:=hm;exact⟨o,es,ep,k _ o (Ne.symm hL) ho,r⟩
 ·refine(I.aJ b u e).cX (λc v hc q=>k c v ?_ q) (λ_ q=>q) λ_ _ q=>q;rcases hc with z|z
  ·rw[z];exact nit b u e
  ·exact nit c _ z
def Inv.tok(I:Inv X zc σ H s)(t:Nat):Inv X zc σ H {s with toks:=t}:=I.un (h':=s.heap) (t':=t) Un.refl I.aJ
theorem Inv.kept{t':Nat}(I:Inv X zc σ H s)(k:∀b u,s.heap.get? b=some u->h'.get? b=some u):Inv X zc σ H {s with heap:=h',toks:=t'}:=I.un (Un.kept k) (I.aJ.kept k)
theorem Inv.laid{a:Addr}{o:HO}{t':Nat}(I:Inv X zc σ H s)(k:∀b u,s.heap.get? b=some u->h'.get? b=some u)(hp:s.heap.objs.size<=a)(new:aP X.prog X.w (upd H a o) h' a o):
  Inv X zc σ (upd H a o) {s with heap:=h',toks:=t'}:=I.un (Un.laid k hp (I.aJ.fresh hp)) (I.aJ.laid k hp new)
theorem Inv.write{x e:Addr}{o:HO}{t':Nat}(I:Inv X zc σ H s)(mu:CG (H x))(he:e=x\/H e=some (.own x))(k:∀b u,b≠e->s.heap.get? b=some u->h'.get? b=some u)(yW:∃u,h'.get? e=some u)
  (new:aP X.prog X.w (upd H x o) h' x o):Inv X zc σ (upd H x o) {s with heap:=h',toks:=t'}:=I.un (Un.write mu he k yW) (I.aJ.write mu he k yW new)
def Inv.cZ{aj:AE}(I:Inv X zc σ H s)(h:∀p∈aj,s.heap.get? p.1=some p.2/\H p.1=none/\p.1≠X.env.locals/\p.1∉X.fs/\∀v,p.2.data≠ .cell v):Inv X aj σ H s:=
 ⟨I.ok,I.os,I.bare,I.base,I.loc,I.cell,I.free,I.bE,λp hp=>(F6.mp hp).elim (λz=>I.pin p (F2 _ z)) (h p),I.aJ,I.len⟩
def xq{N:List Str}(hN:N.Nodup){i j:Nat}{x:Str}(a:N[i]? =some x)(b:N[j]? =some x):i=j:=by
 obtain⟨h1,e1⟩:=B5.mp a;obtain⟨h2,e2⟩:=B5.mp b;exact(List.getElem_inj hN).mp (e1.trans e2.symm)
def Jz{M:Model}{A:Around}{E:AA}{i:Nat}{x:Str}{v:V}{u:Value}{Q:Unit->Shared->Prop}(I:Inv X zc σ H s)(hN:X.N.Nodup)(hi:X.N[i]? =some x)(hx:Ga X.env.scope x)(r:RelV v u)
  (h:∀s',Inv X zc (σ.set i (some v)) H s'->(∃a,Heap.SameBut a s.heap s'.heap/\(a=X.env.locals\/X.env.cells.lookup x=some a))->Q .unit s') (hf:X.fn x=true\/X.env.scope.names.lookup x=some .local:=by trivial):wpAny M A (storeName X.env x u) Q E s:=by
 obtain⟨m,hn,hl⟩:=id I.loc;have bx:(X.env.scope.kind == .class || (X.env.scope.kind == .module && X.env.locals != X.env.globals))=false:=by rw[I.ok.kind];rfl
 have hiσ:i < σ.length:=by rw[I.len];exact(B5.mp hi).1
 have nu:=I.nu;have tracked:∀{a:Addr} {h':Heap},(∃o,s.heap.get? a=some o/\H a=none)->Heap.SameBut a s.heap h'->cP X.prog X.w H h':=λ{a h'} ha hs b ob e=>by
  obtain⟨_,_,ak⟩:=ha;refine(I.aJ b ob e).cX (λc w' hc q=>(hs.2 c ?_).trans q) (λ_ q=>q) λ_ _ q=>q
  rintro rfl
  rcases hc with rfl|hc
  ·rw[ak]at e;cases e
  ·rw[ak]at hc;cases hc
 rcases hx with hk|hk
 ·refine wpAny_storeName_local hk hn (λh' NP hs=> ?_) bx;obtain⟨oL,_,_,yU,_⟩:=id hn;refine h _ ⟨I.ok,I.os,I.bare,⟨λb o e n hb hx=> ?_,λb o e n hb hx=> ?_,I.base.free,λb o e hx=> ?_,I.base.cS,I.base.cC,I.base.cT⟩,⟨_,NP,λj y v' e1 e2 e3=> ?_⟩,λy c e=> ?_,I.free,I.bE,λp hp=> ?_,tracked ⟨oL,yU,I.free⟩ hs,by simpa using I.len⟩ ⟨_,hs,.inl rfl⟩
  ·exact(hs.2 b (D8 (C6 (A6 e) I.ok.above))).trans (I.base.keep b o e n hb hx)
  ·obtain⟨sl,e1⟩:=I.base.slot b o e n hb hx;exact⟨sl,(hs.2 b (D8 (C6 (A6 e) I.ok.above))).trans e1⟩
  ·obtain⟨o',e1⟩:=I.base.there b o e hx;exact⟨o',(hs.2 b (D8 (C6 (A6 e) I.ok.above))).trans e1⟩
  ·by_cases hj:j=i
   ·subst hj;rw[hi]at e1;cases e1;rw[F7 hiσ]at e2;cases e2;exact⟨u,r,.inl ⟨hk,by simp⟩⟩
   ·rw[C4 (Ne.symm hj)]at e2;obtain⟨u',r',q⟩:=hl j y v' e1 e2 e3;refine⟨u',r', ?_⟩;rcases q with⟨k,e⟩|⟨k,c,e,z⟩
    ·refine .inl ⟨k, ?_⟩;have:y≠x:=λe=>hj (xq hN e1 (e▸hi));simp[this,e]
    ·exact .inr ⟨k,c,e,z.sameBut hs (nu y c e)⟩
  ·obtain⟨w',z⟩:=I.cell y c e;exact⟨w',z.sameBut hs (nu y c e)⟩
  ·obtain⟨e,n,ne,nf,d⟩:=I.pin p hp;exact⟨(hs.2 p.1 ne).trans e,n,ne,nf,d⟩
 ·have NR:X.fn x=true:=by
   rcases hf with z|z
   ·exact z
   ·rw[z]at hk;cases hk
  obtain⟨c,hc⟩:=I.ok.has x (.inl hk);obtain⟨w',z⟩:=I.cell x c hc;refine wpAny_storeName_cell I.ok.kind hk hc z (λh' kO hs=> ?_);obtain⟨oc,hoc,fw⟩:=id z;refine h {s with heap:=h'} ⟨I.ok,I.os,I.bare,⟨λb o e n hb hx=> ?_,λb o e n hb hx=> ?_,I.base.free,λb o e hx=> ?_,I.base.cS,I.base.cC,I.base.cT⟩,⟨m,hn.sameBut hs (Ne.symm (nu x c hc)),λj y v' e1 e2 e3=> ?_⟩,λy c' e=> ?_,I.free,I.bE,λp hp=> ?_,tracked ⟨oc,hoc,I.bE x c hc⟩ hs,by simpa using I.len⟩ ⟨c,hs,.inr hc⟩
  ·exact(hs.2 b (D8 (C6 (A6 e) (I.ok.qD x c NR hc)))).trans (I.base.keep b o e n hb hx)
  ·obtain⟨sl,e1⟩:=I.base.slot b o e n hb hx;exact⟨sl,(hs.2 b (D8 (C6 (A6 e) (I.ok.qD x c NR hc)))).trans e1⟩
  ·obtain⟨o',e1⟩:=I.base.there b o e hx;exact⟨o',(hs.2 b (D8 (C6 (A6 e) (I.ok.qD x c NR hc)))).trans e1⟩
  ·by_cases hj:j=i
   ·subst hj;rw[hi]at e1;cases e1;rw[F7 hiσ]at e2;cases e2;exact⟨u,r,.inr ⟨.inl hk,c,hc,kO⟩⟩
   ·rw[C4 (Ne.symm hj)]at e2;obtain⟨u',r',q⟩:=hl j y v' e1 e2 e3;refine⟨u',r', ?_⟩;rcases q with q|⟨k,c',e,z'⟩
    ·exact .inl q
    ·refine .inr ⟨k,c',e,z'.sameBut hs ?_⟩
     rintro rfl
     exact hj (xq hN e1 (I.ok.inj _ _ _ e hc▸hi))
  ·by_cases BI:c'=c
   ·subst BI;exact⟨_,kO⟩
   ·obtain⟨w2,z2⟩:=I.cell y c' e;exact⟨w2,z2.sameBut hs BI⟩
  ·obtain⟨e,n,ne,nf,d⟩:=I.pin p hp;refine⟨(hs.2 p.1 ?_).trans e,n,ne,nf,d⟩;intro q;rw[q,hoc]at e;have q':oc=p.2:=K1 e;exact d w' (by rw[<-q'];exact fw)
def xp{M:Model}{A:Around}{E:AA}{i:Nat}{x:Str}{v:V}{u:Value}{Q:Unit->Shared->Prop}(I:Inv X zc σ H s)(hN:X.N.Nodup)(hi:X.N[i]? =some x)(hx:Ga X.env.scope x)(r:RelV v u)
  (h:∀s',Inv X zc (σ.set i (some v)) H s'->Q .unit s') (hf:X.fn x=true\/X.env.scope.names.lookup x=some .local:=by trivial):wpAny M A (storeName X.env x u) Q E s:=
 Jz I hN hi hx r (λs' I' _=>h s' I') hf
def Inv.um{s':Shared}{ch:List Addr}(I:Inv X zc σ H s)(ho:s'.os=s.os)(u:Un (gA X.stack) ch H H' s.heap s'.heap)(aJ:cP X.prog X.w H' s'.heap)(hg:AllBare s'.gens)
  (pZ:∀b∈ch,(b∈X.ex\/X.s₀.heap.objs.size<=b)/\b≠X.env.locals/\(∀x c,X.env.cells.lookup x=some c->c≠b)/\∀p∈X.pn ++ zc,p.1≠b):Inv X zc σ H' s':=by
 obtain⟨h',g',d',t',o'⟩:=s';have e:o'=s.os:=ho;subst e;exact I.call (g':=g') (t':=t') (d':=d') u aJ hg pZ
end
abbrev XK:=Value->Option Addr->Hp->Prop
abbrev St:=List (Option V)
abbrev VK:=V->Hp->Prop
abbrev TE:=St->Hp->VK->Prop
abbrev TT:=St->Hp->(Bool->Hp->Prop)->Prop
abbrev TA:=St->Hp->(List V->Hp->Prop)->Prop
structure Ends where
 nx:St->Hp->Prop
 rt:VK
 bk:St->Hp->Prop:=λ_ _=>False
 ct:St->Hp->Prop:=λ_ _=>False
abbrev TS:=Ends->St->Hp->Prop
def EP(X:Cx)(zc:AE)(σ:St)(Q:VK)(u:Value)(s':Shared):Prop:=∃v H',Inv X zc σ H' s'/\RelV v u/\Q v H'
def TP(X:Cx)(zc:AE)(σ:St)(Q:Bool->Hp->Prop)(b:Bool)(s':Shared):Prop:=∃H',Inv X zc σ H' s'/\Q b H'
def AP(X:Cx)(zc:AE)(σ:St)(Q:List V->Hp->Prop)(us:List Value)(s':Shared):Prop:=∃vs H',Inv X zc σ H' s'/\Vals vs us/\Q vs H'
def SP(X:Cx)(zc:AE)(D:Ends)(f:Flow)(s':Shared):Prop:=
 match f with
 | .next=>∃σ' H',Inv X zc σ' H' s'/\D.nx σ' H'
 | .brk=>∃σ' H',Inv X zc σ' H' s'/\D.bk σ' H'
 | .cont=>∃σ' H',Inv X zc σ' H' s'/\D.ct σ' H'
 | .ret u=>∃v σ' H',Inv X zc σ' H' s'/\RelV v u/\D.rt v H'
def PE(X:Cx)(e:Expr)(t:TE):Prop:=
 ∀(zc:AE) (s:Shared) (σ:St) (H:Hp) (Q:VK),Inv X zc σ H s->t σ H Q->wpAny (model X.prog X.w) X.A (eval e X.env) (EP X zc σ Q) X.xe s
def PT(X:Cx)(e:Expr)(t:TT):Prop:=
 ∀(zc:AE) (s:Shared) (σ:St) (H:Hp) (Q:Bool->Hp->Prop),Inv X zc σ H s->t σ H Q->wpAny (model X.prog X.w) X.A (isTrue e X.env (eval e X.env)) (TP X zc σ Q) X.xe s
def PW(X:Cx)(e:Expr)(t:TT):Prop:=
 ∀(whole:Sem Value) (zc:AE) (s:Shared) (σ:St) (H:Hp) (Q:Bool->Hp->Prop),Inv X zc σ H s->t σ H Q->wpAny (model X.prog X.w) X.A (isTrue e X.env whole) (TP X zc σ Q) X.xe s
def PW.pt{X:Cx}{e:Expr}{t:TT}(h:PW X e t):PT X e t:=h _
def PA(X:Cx)(es:List Expr)(t:TA):Prop:=
 ∀(pos:Pos) (zc:AE) (s:Shared) (σ:St) (H:Hp) (Q:List V->Hp->Prop),Inv X zc σ H s->t σ H Q->wpAny (model X.prog X.w) X.A (spliced (backTo pos (starEach es X.env))) (AP X zc σ Q) X.xe s
def PS(X:Cx)(st:Stmt)(t:TS):Prop:=
 ∀(zc:AE) (s:Shared) (σ:St) (H:Hp) (D:Ends),Inv X zc σ H s->t D σ H->wpAny (model X.prog X.w) X.A (exec st X.env) (SP X zc D) X.xe s
def gO(X:Cx)(st:List Stmt)(t:TS):Prop:=
 ∀(zc:AE) (s:Shared) (σ:St) (H:Hp) (D:Ends),Inv X zc σ H s->t D σ H->wpAny (model X.prog X.w) X.A (execs st X.env) (SP X zc D) X.xe s
def Ay{α:Type}{t:Sem α}{Q Q':α->Shared->Prop}{M:Model}{A:Around}{E:AA}{s:Shared}(h:wpAny M A t Q E s)(hQ:∀a s,Q a s->Q' a s):wpAny M A t Q' E s:=F5 h hQ λ_ _ x=>x
section
variable{X:Cx}
def qK(i:Nat):TE:=λ σ H Q=>∃v,σ[i]? =some (some v)/\Q v H
def tC(v:V):TE:=λ_ H Q=>Q v H
def Fd{i:Nat}{x:Str}{pos:Pos}(hN:X.N[i]? =some x)(hv:Fm X.env.scope x)(hd:AG x:=by decide)(bO:(x ==("__classdict__" :Str))=false:=by decide):PE X (.Name x pos) (qK i):=by
 intro zc s σ H Q I h;obtain⟨v,e,h⟩:=h;obtain⟨m,hn,hl⟩:=I.loc;obtain⟨u,r,l⟩:=hl i x v hN e hv;have fin:EP X zc σ Q u s:=⟨v,H,I,r,h⟩;rcases l with⟨hk,hm⟩|⟨hk,c,hc,uj⟩
 ·exact wpAny_Name (wpAny_loadName_local I.ok.kind hk hn hm fin) hd
 ·rcases hk with hk|hk
  ·exact wpAny_Name (wpAny_loadName_cell I.ok.kind hk hc uj fin) hd
  ·exact wpAny_Name (wpAny_loadName_free I.ok.kind hk hc uj fin bO) hd
def Su{i j pos}:PE X (.Constant (.int i) j pos) (tC (.int i)):=λ_ _ _ H _ I h=>wpAny_Constant_int ⟨.int i,H,I.tok _,⟨_,rfl⟩,h⟩
def QY{b j pos}:PE X (.Constant (.bool b) j pos) (tC (.bl b)):=λ_ _ _ H _ I h=>Constant_bool ⟨.bl b,H,I,rfl,h⟩
def Ss{j pos}:PE X (.Constant .none j pos) (tC .aK):=λ_ _ _ H _ I h=>Constant_none ⟨.aK,H,I,rfl,h⟩
def Sr{x j pos}:PE X (.Constant (.str x) j pos) (tC (.str x)):=λ_ _ _ H _ I h=>Calls.Constant_str ⟨.str x,H,I.tok _,⟨_,rfl⟩,h⟩
def Gl(X:Cx)(x:Str):Prop:=X.env.kindOf x=some .globalImplicit
def qi{E:AA}{zc:AE}{s:Shared}{σ:St}{H:Hp}{x:Str}{u:Value}{pos:Pos}{Q:AA}(I:Inv X zc σ H s)(hg:Gl X x)(hm:X.mg x=some u)(h:Q u s)
  (hd:AG x:=by decide):wpAny (model X.prog X.w) X.A (eval (.Name x pos) X.env) Q E s:=
 Y7 I.ok.kind hg (Calls.loadGlobal_global (by rw[I.ok.glob];exact I.mod.glob.keeps I.bk) hm h) hd
noncomputable def fU{E:AA}{zc:AE}{s:Shared}{σ:St}{H:Hp}{x:Str}{u:Value}{pos:Pos}{Q:AA}(I:Inv X zc σ H s)(hg:Gl X x)(hm:X.mg x=none)(hv:bootBuiltins x=some u)(h:Q u s)
  (hn:x≠ "__name__" :=by decide) (hd:AG x:=by decide):wpAny (model X.prog X.w) X.A (eval (.Name x pos) X.env) Q E s:=by
 obtain⟨mb,h1,h2⟩:=I.mod.blt;exact Y7 I.ok.kind hg (Calls.loadGlobal_builtin (by rw[I.ok.glob];exact I.mod.glob.keeps I.bk) hm (by rw[I.ok.blt];exact h1.keeps I.bk) ((h2 x hn).trans hv) h) hd
def HD{x:Str}{v:V}{u:Value}{pos:Pos}(hg:Gl X x)(hm:X.mg x=some u)(r:RelV v u)(hd:AG x:=by decide):PE X (.Name x pos) (tC v):=
 λ_ _ _ H _ I h=>qi I hg hm ⟨v,H,I,r,h⟩ hd
def UP{x:Str}{v:V}{u:Value}{pos:Pos}(hg:Gl X x)(hm:X.mg x=none)(hv:bootBuiltins x=some u)(r:RelV v u)(hn:x≠ "__name__" :=by decide)(hd:AG x:=by decide):PE X (.Name x pos) (tC v):=
 λ_ _ _ H _ I h=>fU I hg hm hv ⟨v,H,I,r,h⟩ hn hd
variable{a b:Expr}{ta tb:TE}{pos:Pos}
variable{tA LR:TT}{Cu:List Expr}
def Pu(t u:TT):TT:=λ σ H Q=>t σ H λc H1=>if c=true then u σ H1 Q else Q false H1
def tOr(t u:TT):TT:=λ σ H Q=>t σ H λc H1=>if c=true then Q true H1 else u σ H1 Q
def Pp(t:TT):TT:=λ σ H Q=>t σ H λc H1=>Q (!c) H1
def UO(ha:PT X a tA):PW X (.BoolOp .And [a] pos) tA:=by
 intro wh zc s σ H Q I h;refine isTrue_and (Ay (ha zc s σ H Q I h) λc s1 e=> ?_);cases c with
 |true=>exact isTrue_and_nil e
 |false=>exact e
def Sq(ha:PT X a tA):PW X (.BoolOp .Or [a] pos) tA:=by
 intro wh zc s σ H Q I h;refine isTrue_or (Ay (ha zc s σ H Q I h) λc s1 e=> ?_);cases c with
 |false=>exact isTrue_or_nil e
 |true=>exact e
def So(ha:PT X a tA)(hb:PW X (.BoolOp .And (b::Cu) pos) LR):PW X (.BoolOp .And (a::b::Cu) pos) (Pu tA LR):=by
 intro wh zc s σ H Q I h;refine isTrue_and (Ay (ha zc s σ H _ I h) λc s1 ⟨H1,I1,q1⟩=> ?_);cases c with
 |true=>exact hb wh zc s1 σ H1 Q I1 q1
 |false=>exact⟨H1,I1,q1⟩
def QX(ha:PT X a tA)(hb:PW X (.BoolOp .Or (b::Cu) pos) LR):PW X (.BoolOp .Or (a::b::Cu) pos) (tOr tA LR):=by
 intro wh zc s σ H Q I h;refine isTrue_or (Ay (ha zc s σ H _ I h) λc s1 ⟨H1,I1,q1⟩=> ?_);cases c with
 |true=>exact⟨H1,I1,q1⟩
 |false=>exact hb wh zc s1 σ H1 Q I1 q1
def FK(ha:PT X a tA):PT X (.UnaryOp .Not a pos) (Pp tA):=by
 intro zc s σ H Q I h;exact isTrue_not (ha zc s σ H (λc H1=>Q (!c) H1) I h)
def QW(ta tb:TE):TE:=λ σ H Q=>ta σ H λx H1=>∃c,x=.bl c/\if c=true then tb σ H1 Q else Q (.bl false) H1
def QV(ta:TE):TE:=λ σ H Q=>ta σ H λx H1=>∃c,x=.bl c/\Q (.bl (!c)) H1
def Sn{op}{t:TE}(h:PE X a t):PE X (.BoolOp op [a] pos) t:=λzc s σ H Q I hw=>BoolOp_one (h zc s σ H Q I hw)
def Sm(ha:PE X a ta)(hb:PE X (.BoolOp .And (b::Cu) pos) tb):PE X (.BoolOp .And (a::b::Cu) pos) (QW ta tb):=by
 intro zc s σ H Q I h;refine BoolOp_and (Ay (ha zc s σ H _ I h) λv s1 ⟨x,H1,I1,r1,q1⟩=> ?_);obtain⟨c,rfl,q1⟩:=q1;cases r1;refine N6 ?_;cases c with
 |true=>exact hb zc s1 σ H1 Q I1 q1
 |false=>exact⟨.bl false,H1,I1,rfl,q1⟩
def Sk(ha:PE X a ta):PE X (.UnaryOp .Not a pos) (QV ta):=by
 intro zc s σ H Q I h;refine UnaryOp_ (Ay (ha zc s σ H _ I h) λv s1 ⟨x,H1,I1,r1,q1⟩=> ?_);obtain⟨c,rfl,q1⟩:=q1;cases r1;exact not_of (N6 ⟨.bl (!c),H1,I1,rfl,q1⟩)
def tIf(t:TT)(ta tb:TE):TE:=λ σ H Q=>t σ H λc H1=>if c=true then ta σ H1 Q else tb σ H1 Q
def WA{c:Expr}(hc:PT X c tA)(ha:PE X a ta)(hb:PE X b tb):PE X (.IfExp c a b pos) (tIf tA ta tb):=by
 intro zc s σ H Q I h;refine wpAny_IfExp (Ay (hc zc s σ H _ I h) λd s1 ⟨H1,I1,q1⟩=> ?_);cases d with
 |true=>exact ha zc s1 σ H1 Q I1 q1
 |false=>exact hb zc s1 σ H1 Q I1 q1
end
def cF(K:Frag)(H:Hp)(a:Addr)(xs:List V):Prop:=
 Rd H a (.lst xs)\/
  ∃(o:Obj) (its:Array Value) (n:Nat),K.lookup a=some o/\o.cls=.type "list" /\o.dict=none/\o.data=.seq its n/\its.size<=sizeLine/\Vals xs its.toList
def dD(K:Frag)(H:Hp)(a:Addr)(xs:List V):Prop:=
 Rd H a (.tup xs)\/
  ∃(o:Obj) (its:Array Value) (n:Nat),K.lookup a=some o/\o.cls=.type "tuple" /\o.data=.seq its n/\its.size<=sizeLine/\Vals xs its.toList
noncomputable def aaw:Value->Option V
 | .none=>some .aK
 | .bool b=>some (.bl b)
 | .int i _=>some (.int i)
 | .str x _=>some (.str x)
 | .bytes b _=>some (.iT b)
 | .float b _=>some (.nr b)
 | .ref a=>some (.ref a)
 | .type n=>some (.ty n)
 |_=>none
def RelV.abs{x:V}{u:Value}(r:RelV x u):aaw u=some x:=by
 cases x with
 |aK=>cases r;rfl
 |bl _=>cases r;rfl
 |int _=>obtain⟨t,rfl⟩:=r;rfl
 |str _=>obtain⟨t,rfl⟩:=r;rfl
 |iT _=>obtain⟨t,rfl⟩:=r;rfl
 |nr _=>obtain⟨t,rfl⟩:=r;rfl
 |ref _=>cases r;rfl
 |ty _=>cases r;rfl
theorem RelV.inj{x y:V}{u:Value}(r:RelV x u)(q:RelV y u):x=y:=K1 (r.abs.symm.trans q.abs)
theorem Vals.inj:∀{xs ys:List V} {us:List Value},Vals xs us->Vals ys us->xs=ys
 |_,_,_,.nil,.nil=>rfl
 |_,_,_,.cons r t,.cons r' t'=>by rw[r.inj r',Vals.inj t t']
section
variable{X:Cx}{zc:AE}{σ:St}{H:Hp}{s:Shared}{a:Addr}{xs ys:List V}
def cF.of{K:Frag}(h:H a=some (.lst xs)):cF K H a xs:=.inl (.inl h)
def dD.of{K:Frag}(h:H a=some (.tup xs)):dD K H a xs:=.inl (.inl h)
def Inv.list(I:Inv X zc σ H s)(h:cF X.K H a xs):∃its:List Value,Vals xs its/\PlainL s.heap a its.toArray/\xs.length<=sizeLine:=by
 rcases h with h|⟨o,its,n,hk,hc,hd,hs,hz,r⟩
 ·obtain⟨z,its,n,r,e⟩:=h.ok I.aJ;exact⟨its,r,⟨_,n,e,rfl,rfl,rfl⟩,z⟩
 ·refine⟨its.toList,r,⟨o,n,I.cN a o hk,hc,hd,by simpa using hs⟩, ?_⟩;have e:=r.length;simp only[O7]at e;lia
def Inv.tuple(I:Inv X zc σ H s)(h:dD X.K H a xs):∃its:List Value,Vals xs its/\IsTup s.heap a its.toArray/\xs.length<=sizeLine:=by
 rcases h with h|⟨o,its,n,hk,hc,hs,hz,r⟩
 ·obtain⟨z,its,r,p⟩:=h.ok I.aJ;exact⟨its,r,p,z⟩
 ·refine⟨its.toList,r,⟨o,I.cN a o hk,hc,n,by simpa using hs⟩, ?_⟩;have e:=r.length;simp only[O7]at e;lia
def Inv.eE(I:Inv X zc σ H s)(h:cF X.K H a xs)(h':cF X.K H a ys):xs=ys:=by
 obtain⟨its,r,⟨o,n,e,_,_,d⟩,_⟩:=I.list h;obtain⟨its',r',⟨o',n',e',_,_,d'⟩,_⟩:=I.list h';rw[e]at e';cases e';rw[d]at d';injection d' with d1 _
 have:its=its':=by simpa using K4 Array.toList d1
 subst this;exact r.inj r'
def Inv.mi(I:Inv X zc σ H s)(h:dD X.K H a xs)(h':dD X.K H a ys):xs=ys:=by
 obtain⟨its,r,⟨o,e,_,n,d⟩,_⟩:=I.tuple h;obtain⟨its',r',⟨o',e',_,n',d'⟩,_⟩:=I.tuple h';rw[e]at e';cases e';rw[d]at d';injection d' with d1 _
 have:its=its':=by simpa using K4 Array.toList d1
 subst this;exact r.inj r'
end
noncomputable abbrev Cx.dY(X:Cx)(E:AA):Cx:={X with xe:=E}
abbrev Cx.mC(X:Cx):Cx:=X.dY λ_ _=>False
theorem Cx.Ok.dY{X:Cx}(ok:X.Ok)(E:AA):(X.dY E).Ok:=
 ⟨ok.mod,ok.kind,ok.glob,ok.blt,ok.above,ok.inj,ok.has,ok.qD,ok.hd,ok.frames,ok.ti,ok.zx,ok.bs,ok.iU,ok.fG,ok.gZ,ok.cB,ok.kR⟩
def Cx.Ok.cD{X:Cx}{E:AA}(ok:(X.dY E).Ok):X.Ok:=
 ⟨ok.mod,ok.kind,ok.glob,ok.blt,ok.above,ok.inj,ok.has,ok.qD,ok.hd,ok.frames,ok.ti,ok.zx,ok.bs,ok.iU,ok.fG,ok.gZ,ok.cB,ok.kR⟩
section
variable{X:Cx}{zc:AE}{σ:St}{H:Hp}{s:Shared}{E:AA}
theorem Inv.dY(I:Inv X zc σ H s)(E:AA):Inv (X.dY E) zc σ H s:=⟨I.ok.dY E,I.os,I.bare,I.base,I.loc,I.cell,I.free,I.bE,I.pin,I.aJ,I.len⟩
theorem Inv.cD(I:Inv (X.dY E) zc σ H s):Inv X zc σ H s:=⟨I.ok.cD,I.os,I.bare,I.base,I.loc,I.cell,I.free,I.bE,I.pin,I.aJ,I.len⟩
theorem SP.cD{D:Ends}{f:Flow}{s':Shared}(h:SP (X.dY E) zc D f s'):SP X zc D f s':=by
 cases f with
 |next=>obtain⟨σ',H',I,q⟩:=h;exact⟨σ',H',I.cD,q⟩
 |brk=>obtain⟨σ',H',I,q⟩:=h;exact⟨σ',H',I.cD,q⟩
 |cont=>obtain⟨σ',H',I,q⟩:=h;exact⟨σ',H',I.cD,q⟩
 |ret u=>obtain⟨v,σ',H',I,r,q⟩:=h;exact⟨v,σ',H',I.cD,r,q⟩
theorem PE.mC{e:Expr}{t:TE}(h:PE X.mC e t):PE X e t:=λzc s σ H Q I hw=>
 F5 (h zc s σ H Q (I.dY _) hw) (λ_ _ ⟨v,H',I',r,q⟩=>⟨v,H',I'.cD,r,q⟩) λ_ _ z=>False.elim z
end
section
variable{X:Cx}{st:Stmt}{Cu:List Stmt}{t u:TS}{e:Expr}{te:TE}{pos:Pos}
def QU:TS:=λD σ H=>D.nx σ H
def Pn(t u:TS):TS:=λD σ H=>t {D with nx:=u D} σ H
def UN:gO X [] QU:=λ_ _ σ H _ I h=>U6 ⟨σ,H,I,h⟩
def Wz(h1:PS X st t)(h2:gO X Cu u):gO X (st::Cu) (Pn t u):=by
 intro zc s σ H D I h;refine wpAny_execs_cons (Ay (h1 zc s σ H {D with nx:=u D} I h) λf s1 q=> ?_);cases f with
 |next=>
  obtain⟨σ',H',I',q⟩:=q;exact h2 zc s1 σ' H' D I' q
 |ret v=>exact q
 |brk=>exact q
 |cont=>exact q
def wO(h1:PS X st t):gO X [st] t:=by
 intro zc s σ H D I h;refine wpAny_execs_cons (Ay (h1 zc s σ H D I h) λf s1 q=> ?_);cases f with
 |next=>exact U6 q
 |ret v=>exact q
 |brk=>exact q
 |cont=>exact q
def Inv.quiet{zc:AE}{σ:St}{H:Hp}{s:Shared}(I:Inv X zc σ H s):interactive X.env=false:=by simp[interactive,I.ok.kind]
def QT(te:TE):TS:=λD σ H=>te σ H λ_ H1=>D.nx σ H1
def md(he:PE X e te)(hs:swapsWith e none pos.line X.env=pure false:=by rfl):PS X (.Expr e pos) (QT te):=by
 intro zc s σ H D I h;exact wpAny_Expr_any (Ay (he zc s σ H _ I h) λv s1 ⟨x,H1,I1,r1,q1⟩=>⟨σ,H1,I1,q1⟩) I.quiet hs
def Po(te:TE):TS:=λD σ H=>te σ H D.rt
def we(he:PE X e te):PS X (.Return (some e) pos) (Po te):=by
 intro zc s σ H D I h;exact wpAny_Return_some (Ay (he zc s σ H _ I h) λv s1 ⟨x,H1,I1,r1,q1⟩=>⟨x,σ,H1,I1,r1,q1⟩)
def Pr(c:TT)(t u:TS):TS:=λD σ H=>c σ H λb H1=>if b=true then t D σ H1 else u D σ H1
def DT{c:Expr}{a b:List Stmt}{tc:TT}(hc:PT X c tc)(ha:gO X a t)(hb:gO X b u):PS X (.If c a b pos) (Pr tc t u):=by
 intro zc s σ H D I h;refine wpAny_If (Ay (hc zc s σ H _ I h) λd s1 ⟨H1,I1,q1⟩=> ?_);cases d with
 |true=>exact ha zc s1 σ H1 D I1 q1
 |false=>exact hb zc s1 σ H1 D I1 q1
end
abbrev TG:=V->St->Hp->(St->Hp->Prop)->Prop
abbrev qe:=List V->St->Hp->(St->Hp->Prop)->Prop
def PG(X:Cx)(target:Expr)(t:TG):Prop:=
 ∀(zc:AE) (s:Shared) (σ:St) (H:Hp) (v:V) (u:Value) (Q:St->Hp->Prop),Inv X zc σ H s->RelV v u->t v σ H Q->
  wpAny (model X.prog X.w) X.A (assign target X.env u) (λ_ s'=>∃σ' H',Inv X zc σ' H' s'/\Q σ' H') X.xe s
def qH(X:Cx)(ts:List Expr)(t:qe):Prop:=
 ∀(zc:AE) (s:Shared) (σ:St) (H:Hp) (vs:List V) (us:List Value) (Q:St->Hp->Prop),Inv X zc σ H s->Vals vs us->t vs σ H Q->
  wpAny (model X.prog X.w) X.A (assignInOrder ((assignEach ts X.env).map (·.2)) us) (λ_ s'=>∃σ' H',Inv X zc σ' H' s'/\Q σ' H') X.xe s
section
variable{X:Cx}{pos:Pos}
def ot(i:Nat):TG:=λv σ H Q=>Q (σ.set i (some v)) H
def mF{i:Nat}{x:Str}(hN:X.N.Nodup)(hi:X.N[i]? =some x)(hx:Ga X.env.scope x)(hf:X.fn x=true\/X.env.scope.names.lookup x=some .local:=by trivial):PG X (.Name x pos) (ot i):=by
 intro zc s σ H v u Q I r h;exact wpAny_assign_Name (xp I hN hi hx r (λs' I'=>⟨_,H,I',h⟩) hf)
def Qc:qe:=λvs σ H Q=>vs= []/\Q σ H
def QS(t:TG)(u:qe):qe:=λvs σ H Q=>∃v r,vs=v::r/\t v σ H λ σ' H'=>u r σ' H' Q
def oY:qH X [] Qc:=by
 intro zc s σ H vs us Q I r h;obtain⟨e,h⟩:=h;subst e;cases r;exact assignInOrder_nil ⟨σ,H,I,h⟩
def pV{e:Expr}{es:List Expr}{t:TG}{u:qe}(h1:PG X e t)(h2:qH X es u)
  (hs:(assignEach (e::es) X.env).map (·.2)=assign e X.env::(assignEach es X.env).map (·.2):=by rfl):qH X (e::es) (QS t u):=by
 intro zc s σ H vs us Q I r h;obtain⟨v,vr,e1,h⟩:=h;subst e1;cases r with
 |cons r rr=>
  rw[hs];refine assignInOrder_cons (Ay (h1 zc s σ H _ _ _ I r h) λ_ s1 ⟨σ1,H1,I1,q1⟩=> ?_);exact h2 zc s1 σ1 H1 _ _ Q I1 rr q1
def Qa(K:Frag)(n:Nat)(t:qe):TG:=λv σ H Q=>∃a xs,v=.ref a/\dD K H a xs/\xs.length=n/\t xs σ H Q
def wc{es:List Expr}{k:Nat}{t:qe}{n:Nat}(hc:X.calm=true)(h:qH X es t)
  (hn:(assignEach es X.env).length=n:=by rfl) (cA:(assignEach es X.env).findIdx? (·.1)=none:=by rfl):PG X (.Tuple es k pos) (Qa X.K n t):=by
 intro zc s σ H v u Q I r hw;obtain⟨a,xs,e1,hq,hl,hw⟩:=hw;subst e1;cases r;obtain⟨its,rv,ht,hz⟩:=I.tuple hq;refine assign_Tuple_tuple (I.ok.hd hc) ht (by simp[hn,<-hl,rv.length]) cA λh' hx=> ?_;have I1:Inv X zc σ H {s with heap:=h'}:=I.kept (t':=s.toks) λb o e=>hx b o (D8 (A6 e)) e;exact h zc _ σ H xs _ Q I1 (by simpa using rv) hw
def nF(te:TE)(g:TG):TS:=λD σ H=>te σ H λx H1=>g x σ H1 D.nx
def FJ{tg e:Expr}{te:TE}{g:TG}(he:PE X e te)(hg:PG X tg g)(hs:swapsWithSole [tg] e pos.line X.env=pure false:=by rfl)(hw:swappedStores [tg] e X.env=pure none:=by rfl)
  (h1:(assignEach [tg] X.env).map (·.2)= [assign tg X.env]:=by rfl):PS X (.Assign [tg] e pos) (nF te g):=by
 intro zc s σ H D I h;refine wpAny_Assign_stores (Ay (he zc s σ H _ I h) λv s1 ⟨x,H1,I1,r1,q1⟩=> ?_) hs hw;rw[h1];exact Ay (hg zc s1 σ H1 x v _ I1 r1 q1) λ_ s2 q=>q
def wb{i:Nat}{x:Str}{e:Expr}{te:TE}{pos':Pos}(hN:X.N.Nodup)(hi:X.N[i]? =some x)(hx:Ga X.env.scope x)(he:PE X e te)(hs:swapsWith e (some (.Name x pos')) pos.line X.env=pure false:=by rfl)(hf:X.fn x=true\/X.env.scope.names.lookup x=some .local:=by trivial):
  PS X (.Assign [.Name x pos'] e pos) (nF te (ot i)):=by
 intro zc s σ H D I h;refine wpAny_Assign_Name (Ay (he zc s σ H _ I h) λv s1 ⟨y,H1,I1,r1,q1⟩=> ?_) hs;exact xp I1 hN hi hx r1 (λs2 I2=>⟨_,H1,I2,q1⟩) hf
end
section
variable{X:Cx}{pos:Pos}
def Sj(c:TT)(tb:TS):TS:=λD σ H=>∃W:Nat->St->Hp->Prop,(∃m,W m σ H)/\∀m σ H,W m σ H->
 c σ H λb H1=>if b=true then∃N:St->Hp->Prop,(∀σ' H',N σ' H'->∃m',m' < m/\W m' σ' H')/\tb {D with nx:=N,ct:=N,bk:=D.nx} σ H1 else D.nx σ H1
def Wy{c:Expr}{body:List Stmt}{tc:TT}{tb:TS}(hp:PassesOwn (model X.prog X.w) X.A X.env X.xe)(hc:PT X c tc)(hb:gO X body tb):PS X (.While c body [] pos) (Sj tc tb):=by
 intro zc s σ H D I h;obtain⟨W,⟨m0,w0⟩,turn⟩:=h;refine wpAny_While (codeAny_whileLoop (λn s'=>∃σ' H',Inv X zc σ' H' s'/\W n σ' H') ?_ m0 ⟨σ,H,I,w0⟩)
 rintro n s1 ⟨σ1,H1,I1,w1⟩
 refine Q0 hp (Ay (hc zc s1 σ1 H1 _ I1 (turn n σ1 H1 w1)) λb s2 ⟨H2,I2,q2⟩=> ?_);cases b with
 |true=>
  obtain⟨N,hN,q2⟩:=q2;rw[if_pos rfl];refine Q0 hp (Ay (hb zc s2 σ1 H2 _ I2 q2) λf s3 q3=> ?_);cases f with
  |next=>
   obtain⟨σ3,H3,I3,n3⟩:=q3;obtain⟨m',hm,w3⟩:=hN σ3 H3 n3;exact⟨m',hm,σ3,H3,I3,w3⟩
  |cont=>
   obtain⟨σ3,H3,I3,n3⟩:=q3;obtain⟨m',hm,w3⟩:=hN σ3 H3 n3;exact⟨m',hm,σ3,H3,I3,w3⟩
  |brk=>exact q3
  |ret v=>exact q3
 |false=>
  rw[if_neg A7];exact U6 ⟨σ1,H2,I2,q2⟩
end
structure It where
 go:Nat->Hp->Prop
 yB:Nat->Hp->V->Hp->Prop
 stop:Nat->Hp->Prop
def Fs(X:Cx)(zc:AE)(H:Hp)(b:Addr):Prop:=
 H b=none/\b≠X.env.locals/\b∉X.fs/\(b∈X.ex\/X.s₀.heap.objs.size<=b)/\(∀x c,X.env.cells.lookup x=some c->c≠b)/\∀p∈X.pn ++ zc,p.1≠b
def Inv.fL{X:Cx}{zc:AE}{σ:St}{H H':Hp}{s:Shared}{b:Addr}(I:Inv X zc σ H s)(hb:s.heap.objs.size<=b)(hn:H' b=none):Fs X zc H' b:=by
 refine⟨hn,Y3 (C6 I.lt hb),I.vg hb,.inr (D4 I.sz hb),λx c e z=> ?_,λp hp z=> ?_⟩
 ·obtain⟨v,q⟩:=I.cell x c e;exact absurd (C6 q.lt (by rw[z];exact hb)) (F3 _)
 ·exact absurd (C6 (A6 (I.pin p hp).1) (by rw[z];exact hb)) (F3 _)
structure Turn(P:Program)(w:World)(K:Frag)(tg:Expr)(J:It)(fp:List Addr)(it:Addr)(tn:Nat->Heap->Prop):Prop where
 mem:it∈fp
 obj:∀i h,tn i h->∀b∈fp,∃o,h.get? b=some o/\∀v,o.data≠ .cell v
 keep:∀i h h',tn i h->(∀b∈fp,∀o,h.get? b=some o->h'.get? b=some o)->tn i h'
 item:∀(X:Cx),X.prog=P->X.w=w->X.K=K->X.calm=true->∀(i:Nat) (zc:AE) (s:Shared) (σ:St) (H:Hp) (E:AA),Inv X zc σ H s->(∀b∈fp,Fs X zc H b)->tn i s.heap->J.go i H->
  wpAny (model P w) X.A (pyNext (.ref it)) (λr s1=>∃u,r=some u/\
   wpAny (model P w) X.A (letOwnedTupleGo tg (.ref it) u) (λ_ s2=>∃x H',Inv X zc σ H' s2/\RelV x u/\J.yB i H x H'/\tn (i + 1) s2.heap/\∀b∈fp,H' b=none) E s1) E s
 done:∀(X:Cx),X.prog=P->X.w=w->X.K=K->X.calm=true->∀(i:Nat) (zc:AE) (s:Shared) (σ:St) (H:Hp) (E:AA),Inv X zc σ H s->(∀b∈fp,Fs X zc H b)->tn i s.heap->J.stop i H->
  wpAny (model P w) X.A (pyNext (.ref it)) (λr s1=>r=none/\Inv X zc σ H s1) E s
 self:∀(A:Around) (i:Nat) (s:Shared) (Q:AA) (E:AA),tn i s.heap->Q (.ref it) s->wpAny (model P w) A (pyIter (.ref it)) Q E s
abbrev TI:=St->Hp->(It->Hp->Prop)->Prop
def OY(X:Cx)(zc:AE)(σ:St)(tg:Expr)(R:It->Hp->Prop)(jT:Value)(s2:Shared):Prop:=
 ∃(it:Addr) (fp:List Addr) (tn:Nat->Heap->Prop) (J:It) (H':Hp),jT=.ref it/\Inv X zc σ H' s2/\Turn X.prog X.w X.K tg J fp it tn/\tn 0 s2.heap/\(∀b∈fp,Fs X zc H' b)/\R J H'
def PI(X:Cx)(tg iter:Expr)(wi:TI):Prop:=
 ∀(zc:AE) (s:Shared) (σ:St) (H:Hp) (R:It->Hp->Prop),Inv X zc σ H s->wi σ H R->
  wpAny (model X.prog X.w) X.A (eval iter X.env) (λv s1=>wpAny (model X.prog X.w) X.A (pyIter v) (OY X zc σ tg R) X.xe s1) X.xe s
def oq{M:Model}{A:Around}{E:AA}{s:Shared}{tg:Expr}{it:Addr}{u:Value}{o:Obj}{n:String}{vs:Array Value}{Q:Unit->Shared->Prop}(ho:s.heap.get? it=some o)(hc:o.cls=.type n)(hd:o.data=.fields vs)
  (hn: ["enumerate","zip","dict_itemiterator","dict_reverseitemiterator","odict_iterator","itertools.zip_longest","itertools.pairwise"].contains n=false) (hQ:Q .unit s):wpAny M A (letOwnedTupleGo tg (.ref it) u) Q E s:=by
 unfold letOwnedTupleGo;cases tg <;> first
  |exact F0 hQ
  | (cases u <;> first
    |exact F0 hQ
    | (refine A5 (wpAny_load ho ?_)
       rw[hc,hd];show wpAny M A (if(["enumerate","zip","dict_itemiterator","dict_reverseitemiterator","odict_iterator","itertools.zip_longest","itertools.pairwise"].contains n && vs[0]? ==some (rawInt _))=true then _ else _) Q E s;rw[if_neg (by intro h;rw[hn,Bool.false_and]at h;cases h)];exact F0 hQ))
def Pe(K:Frag)(a:Addr):It:=
 ⟨λi H=>∃xs x,cF K H a xs/\xs[i]? =some x,λi H x H'=>H'=H/\∀xs,cF K H a xs->xs[i]? =some x,λi H=>∃xs,cF K H a xs/\xs.length<=i⟩
def Pd(K:Frag)(a:Addr):It:=
 ⟨λi H=>∃xs x,dD K H a xs/\xs[i]? =some x,λi H x H'=>H'=H/\∀xs,dD K H a xs->xs[i]? =some x,λi H=>∃xs,dD K H a xs/\xs.length<=i⟩
def MR(lo:Int)(n:Nat):It:=⟨λi _=>i < n,λi H x H'=>H'=H/\x=.int (lo + i),λi _=>n<=i⟩
def XS{P:Program}{w:World}{K:Frag}{tg:Expr}(a it:Addr):Turn P w K tg (Pe K a) [it] it (λi h=>h.IsListIter it a i) where
 mem:=by simp
 obj:=λi h st b hb=>by
  have e:b=it:=by simpa using hb
  subst e;obtain⟨o,e,c,d⟩:=st;exact⟨o,e,λv z=>by rw[d]at z;cases z⟩
 keep:=λi h h' st k=>st.at λo e=>k it (by simp) o e
 item:=by
  intro X hP hw hK hc i zc s σ H E I hf st hg;subst hP hw hK;obtain⟨xs,x,hq,hx⟩:=hg;obtain⟨its,rv,p,hz⟩:=I.list hq;obtain⟨u,hu,ru⟩:=rv.get hx;obtain⟨f0,f1,f2,f3,f4,f5⟩:=hf it (by simp);refine wpAny_pyNext_list_item st p.isList (x:=u) (by simpa using hu) λh' dE sb=> ?_;have I1:Inv X zc σ H {s with heap:=h'}:=I.turned (t':=s.toks) (λb o hb e=>(sb.2 b hb).trans e) f0 f1 f3 f4 f5;obtain⟨o,e,c,d⟩:=id dE;exact⟨u,rfl,oq (s:={s with heap:=h'}) e c d ⋯ ⟨x,H,I1,ru,⟨rfl,λys hy=>by rw[I.eE hy hq];exact hx⟩,dE,λb hb=>(hf b hb).1⟩⟩
 done:=by
  intro X hP hw hK hc i zc s σ H E I hf st hg;subst hP hw hK;obtain⟨xs,hq,hx⟩:=hg;obtain⟨its,rv,p,hz⟩:=I.list hq;obtain⟨f0,f1,f2,f3,f4,f5⟩:=hf it (by simp);have hl:=rv.length;exact wpAny_pyNext_list_end (I.ok.hd hc) st p.isList (by simp;lia) λh' eb=>⟨rfl,I.turned (t':=s.toks) (λb o hb e=>eb b o hb e) f0 f1 f3 f4 f5⟩
 self:=λ_ _ _ _ _ st h=>wpAny_pyIter_listiter st h
def YD{P:Program}{w:World}{K:Frag}{tg:Expr}(a it:Addr):Turn P w K tg (Pd K a) [it] it (λi h=>h.IsTupleIter it a i) where
 mem:=by simp
 obj:=λi h st b hb=>by
  have e:b=it:=by simpa using hb
  subst e;obtain⟨o,e,c,d⟩:=st;exact⟨o,e,λv z=>by rw[d]at z;cases z⟩
 keep:=λi h h' st k=>st.at λo e=>k it (by simp) o e
 item:=by
  intro X hP hw hK hc i zc s σ H E I hf st hg;subst hP hw hK;obtain⟨xs,x,hq,hx⟩:=hg;obtain⟨its,rv,p,hz⟩:=I.tuple hq;obtain⟨u,hu,ru⟩:=rv.get hx;obtain⟨f0,f1,f2,f3,f4,f5⟩:=hf it (by simp);refine wpAny_pyNext_tuple_item st (show s.heap.IsTuple a its.toArray from p) (x:=u) (by simpa using hu) λh' dE sb=> ?_;have I1:Inv X zc σ H {s with heap:=h'}:=I.turned (t':=s.toks) (λb o hb e=>(sb.2 b hb).trans e) f0 f1 f3 f4 f5;obtain⟨o,e,c,d⟩:=id dE;exact⟨u,rfl,oq (s:={s with heap:=h'}) e c d ⋯ ⟨x,H,I1,ru,⟨rfl,λys hy=>by rw[I.mi hy hq];exact hx⟩,dE,λb hb=>(hf b hb).1⟩⟩
 done:=by
  intro X hP hw hK hc i zc s σ H E I hf st hg;subst hP hw hK;obtain⟨xs,hq,hx⟩:=hg;obtain⟨its,rv,p,hz⟩:=I.tuple hq;obtain⟨f0,f1,f2,f3,f4,f5⟩:=hf it (by simp);have hl:=rv.length;exact wpAny_pyNext_tuple_end (I.ok.hd hc) st (show s.heap.IsTuple a its.toArray from p) (by simp;lia) λh' eb=>⟨rfl,I.turned (t':=s.toks) (λb o hb e=>eb b o hb e) f0 f1 f3 f4 f5⟩
 self:=λ_ _ _ _ _ st h=>wpAny_pyIter_tupleiter st h
def YC{P:Program}{w:World}{K:Frag}{tg:Expr}(it:Addr)(lo:Int)(n:Nat):Turn P w K tg (MR lo n) [it] it (λi h=>IsRangeIter h it (lo + (i:Nat) * 1) ((n:Int) - (i:Nat)) 1) where
 mem:=by simp
 obj:=λi h st b hb=>by
  have e:b=it:=by simpa using hb
  subst e;exact⟨_,st,λv z=>by
   have z':Data.fields _=Data.cell v:=z;cases z'⟩
 keep:=λi h h' st k=>k it (by simp) _ st
 item:=by
  intro X hP hw hK hc i zc s σ H E I hf st hg;subst hP hw hK;obtain⟨f0,f1,f2,f3,f4,f5⟩:=hf it (by simp);have W:=Walks.range (prog:=X.prog) (w:=X.w) (I.ok.hd hc) it lo 1 n;refine W.item i s _ _ hg st λv h' tk hv dE kk=> ?_;obtain⟨t,rfl⟩:=hv;have I1:Inv X zc σ H {s with heap:=h',toks:=tk}:=I.turned (λb o hb e=>kk b o (by simpa using hb) e) f0 f1 f3 f4 f5;refine⟨_,rfl,oq (s:={s with heap:=h',toks:=tk}) (n:= "range_iterator") dE rfl rfl ⋯ ⟨.int (lo + i),H,I1,⟨t, ?_⟩,⟨rfl,rfl⟩,dE,λb hb=>(hf b hb).1⟩⟩;rw[Int.mul_one]
 done:=by
  intro X hP hw hK hc i zc s σ H E I hf st hg;subst hP hw hK;obtain⟨f0,f1,f2,f3,f4,f5⟩:=hf it (by simp);exact wpAny_pyNext_range_end (I.ok.hd hc) st (by have:n<=i:=hg;lia) λh' eb=>⟨rfl,I.turned (t':=s.toks) (λb o hb e=>eb b o hb e) f0 f1 f3 f4 f5⟩
 self:=λ_ _ _ _ _ st h=>wpAny_pyIter_rangeiter st h
section
variable{X:Cx}{tg:Expr}
def Wx{zc:AE}{σ:St}{H:Hp}{s:Shared}{R:It->Hp->Prop}{E:AA}{lo hi:Int}{t u v:Tok}{tk:Nat}(I:Inv X zc σ H s)(h1: -(2 ^ 62)<=lo)(h2:lo < 2 ^ 62)(h3: -(2 ^ 62)<=hi)(h4:hi < 2 ^ 62)
  (q:R (MR lo (hi - lo).toNat) H):wpAny (model X.prog X.w) X.A (pyIter (.ref s.heap.objs.size)) (OY X zc σ tg R) E {s with heap:=s.heap.push {cls:=.type "range",data:=.fields #[.int lo t,.int hi u,.int 1 v]},toks:=tk}:=by
 refine wpAny_pyIter_range (IsRange.new ..) (small_one h1 h2 h3 h4) ?_;have I1:Inv X zc σ H {s with heap:=s.heap.push {cls:=.type "range",data:=.fields #[.int lo t,.int hi u,.int 1 v]},toks:=tk}:=I.kept λb o e=>A4 _ e;refine⟨(s.heap.push {cls:=.type "range",data:=.fields #[.int lo t,.int hi u,.int 1 v]}).objs.size,[(s.heap.push {cls:=.type "range",data:=.fields #[.int lo t,.int hi u,.int 1 v]}).objs.size],_,_,H,rfl,
  I1.kept (t':=tk) λb o e=>A4 _ e,YC _ lo (hi - lo).toNat, ?_,λb hb=> ?_,q⟩
 ·have e1:lo + ((0:Nat):Int) * 1=lo:=by simp
  have e2:(((hi - lo).toNat:Nat):Int) - ((0:Nat):Int)=Builtin.Range.rangeSize lo hi 1:=by rw[rangeSize_one];split <;> lia
  show IsRangeIter _ _ (lo + ((0:Nat):Int) * 1) ((((hi - lo).toNat:Nat):Int) - ((0:Nat):Int)) 1;rw[e1,e2];exact C1 _ rfl
 ·have e:b=(s.heap.push {cls:=.type "range",data:=.fields #[.int lo t,.int hi u,.int 1 v]}).objs.size:=by simpa using hb
  subst e;exact I1.fL (B6 _) (I1.aJ.fresh (B6 _))
def QR(ta:TA):TI:=λ σ H R=>ta σ H λvs H1=>∃j:Int,vs= [.int j]/\ -(2 ^ 62)<=j/\j < 2 ^ 62/\R (MR 0 j.toNat) H1
def XR{a:Expr}{ta:TA}{p pos:Pos}(hg:Gl X "range")(hm:X.mg "range" =none)(ha:PA X [a] ta)(hs:starEach [a] X.env= [(false,eval a X.env)]:=by rfl):PI X tg (.Call (.Name "range" p) [a] [] pos) (QR ta):=by
 intro zc s σ H R I h;refine Call_ (fU I hg hm boot_range (N4 (Ay (ha pos zc s σ H _ I h) λus s1 ⟨vs,H1,I1,r1,q1⟩=> ?_) hs rfl));obtain⟨j,e,q1,q2,q⟩:=q1;subst e;cases r1 with
 |cons r rr=>
  cases rr;obtain⟨t,rfl⟩:=r;exact call_range_1 (Wx I1 () () q1 q2 (by simpa using q))
def CM(wi:TI)(g:TG)(tb:TS):TS:=λD σ H=>wi σ H λJ H1=>∃W:Nat->Nat->St->Hp->Prop,(∃m,W 0 m σ H1)/\∀i m σ H,W i m σ H->
 (J.stop i H/\D.nx σ H)\/(J.go i H/\∃N:St->Hp->Prop,(∀σ' H',N σ' H'->∃m',m' < m/\W (i + 1) m' σ' H')/\∀x H',J.yB i H x H'->g x σ H' λ σ2 H2=>tb {D with nx:=N,ct:=N,bk:=D.nx} σ2 H2)
def oJ(fp:List Addr)(h:Heap):AE:=fp.filterMap λb=>(h.get? b).map λo=>(b,o)
def sN{fp:List Addr}{h:Heap}{b:Addr}{o:Obj}(hb:b∈fp)(e:h.get? b=some o):(b,o)∈oJ fp h:=V0.mpr ⟨b,hb,by rw[e];rfl⟩
def XQ{fp:List Addr}{h:Heap}{p:Addr×Obj}(hp:p∈oJ fp h):p.1∈fp/\h.get? p.1=some p.2:=by
 obtain⟨b,hb,e⟩:=V0.mp hp;cases q:h.get? b with
 |none=>rw[q]at e;cases e
 |some o=>
  rw[q]at e;have e':(b,o)=p:=K1 e;subst e';exact⟨hb,q⟩
def Inv.pinned{zc:AE}{σ:St}{H:Hp}{s:Shared}{fp:List Addr}(I:Inv X zc σ H s)(hf:∀b∈fp,Fs X zc H b)(ho:∀b∈fp,∃o,s.heap.get? b=some o/\∀v,o.data≠ .cell v):Inv X (zc ++ oJ fp s.heap) σ H s:=
 I.cZ λp hp=>(F6.mp hp).elim (λz=>I.pin p (B7 _ z)) λz=>by
  obtain⟨hb,e⟩:=XQ z;obtain⟨f0,f1,f2,_⟩:=hf p.1 hb;obtain⟨o,e',d⟩:=ho p.1 hb;rw[e]at e';cases e';exact⟨e,f0,f1,f2,d⟩
def Inv.cM{zc pl:AE}{σ:St}{H:Hp}{s:Shared}(I:Inv X (zc ++ pl) σ H s):Inv X zc σ H s:=I.cZ λp hp=>I.pin p (B7 _ (F2 _ hp))
def rF{iter:Expr}{body:List Stmt}{wi:TI}{g:TG}{tb:TS}{pos:Pos}(hp:PassesOwn (model X.prog X.w) X.A X.env X.xe)(hc:X.calm=true)(hi:PI X tg iter wi)(hg:PG X tg g)(hb:gO X body tb)
  (hs:∀x,foldedSetIterable iter X.env x=pure x:=by intro _;rfl):PS X (.For tg iter body [] pos) (CM wi g tb):=by
 intro zc s σ H D I h;refine wpAny_For (Ay (hi zc s σ H _ I h) λv s1 h1=>Ay h1 λjT s2 h2=> ?_) hs;obtain⟨it,fp,tn,J,H2,e,I2,T,aT,f2,W,⟨m0,w0⟩,turn⟩:=h2;subst e
 
 have bw:∀{H':Hp},(∀b∈fp,H' b=none)->∀b∈fp,Fs X zc H' b:=λhn b hb=>⟨hn b hb,(f2 b hb).2⟩;refine codeAny_forLoop_any (λn s'=>∃i σ' H',Inv X zc σ' H' s'/\tn i s'.heap/\(∀b∈fp,H' b=none)/\W i n σ' H') ?_ m0 ⟨0,σ,H2,I2,aT,λb hb=>(f2 b hb).1,w0⟩
 rintro n s3 ⟨i,σ3,H3,I3,ja,fr3,w3⟩
 rcases turn i n σ3 H3 w3 with⟨stop,qn⟩|⟨go,N,hN,step⟩
 ·refine Q0 hp (Ay (T.done X rfl rfl rfl hc i zc s3 σ3 H3 X.xe I3 (bw fr3) ja stop) λr s4 ⟨hr,I4⟩=> ?_);subst hr;exact U6 ⟨σ3,H3,I4,qn⟩
 ·refine Q0 hp (Ay (T.item X rfl rfl rfl hc i zc s3 σ3 H3 X.xe I3 (bw fr3) ja go) λr s4 ⟨u,hr,h4⟩=> ?_);subst hr;refine Q0 hp (Ay h4 λ_ s5 ⟨x,H5,I5,r5,y5,ux,NZ⟩=> ?_);have Pf:=I5.pinned (bw NZ) (T.obj _ _ ux);refine Q0 hp (Ay (hg _ s5 σ3 H5 x u _ Pf r5 (step x H5 y5)) λ_ s6 ⟨σ6,H6,I6,q6⟩=> ?_);refine Q0 hp (Ay (hb _ s6 σ6 H6 _ I6 q6) λf s7 q7=> ?_);have again:∀{σ7:St} {H7:Hp},Inv X (zc ++ oJ fp s5.heap) σ7 H7 s7->N σ7 H7->∃m,m < n/\∃i σ' H',Inv X zc σ' H' s7/\tn i s7.heap/\(∀b∈fp,H' b=none)/\W i m σ' H':=λ{σ7 H7} I7 n7=>by
   obtain⟨m',hm,w7⟩:=hN σ7 H7 n7;refine⟨m',hm,i + 1,σ7,H7,I7.cM,T.keep _ _ _ ux λb hb o e=>(I7.pin (b,o) (B7 _ (B7 _ (sN hb e)))).1,λb hb=> ?_,w7⟩;obtain⟨o,e,d⟩:=T.obj _ _ ux b hb;exact(I7.pin (b,o) (B7 _ (B7 _ (sN hb e)))).2.1
  cases f with
  |next=>obtain⟨σ7,H7,I7,n7⟩:=q7;exact again I7 n7
  |cont=>obtain⟨σ7,H7,I7,n7⟩:=q7;exact again I7 n7
  |brk=>obtain⟨σ7,H7,I7,q7⟩:=q7;exact⟨σ7,H7,I7.cM,q7⟩
  |ret v=>obtain⟨x7,σ7,H7,I7,r7,q7⟩:=q7;exact⟨x7,σ7,H7,I7.cM,r7,q7⟩
end
abbrev R2:=V->V->Hp->VK->Prop
def cH(X:Cx)(f:Value->Value->Sem Value)(r:R2):Prop:=
 ∀(zc:AE) (s:Shared) (σ:St) (H:Hp) (x y:V) (v u:Value) (Q:VK),Inv X zc σ H s->RelV x v->RelV y u->r x y H Q->
  wpAny (model X.prog X.w) X.A (f v u) (EP X zc σ Q) X.xe s
def OX(X:Cx)(f:Value->Sem Value)(r:V->Hp->VK->Prop):Prop:=
 ∀(zc:AE) (s:Shared) (σ:St) (H:Hp) (x:V) (v:Value) (Q:VK),Inv X zc σ H s->RelV x v->r x H Q->
  wpAny (model X.prog X.w) X.A (f v) (EP X zc σ Q) X.xe s
def bR(X:Cx)(f:Value)(r:List V->Hp->VK->Prop):Prop:=
 ∀(zc:AE) (s:Shared) (σ:St) (H:Hp) (xs:List V) (us:List Value) (Q:VK),Inv X zc σ H s->Vals xs us->r xs H Q->
  wpAny (model X.prog X.w) X.A (call f us) (EP X zc σ Q) X.xe s
def aax(X:Cx)(r:V->Hp->(Bool->Hp->Prop)->Prop):Prop:=
 ∀(zc:AE) (s:Shared) (σ:St) (H:Hp) (x:V) (v:Value) (Q:Bool->Hp->Prop),Inv X zc σ H s->RelV x v->r x H Q->
  wpAny (model X.prog X.w) X.A (truthy v) (TP X zc σ Q) X.xe s
def zV(r:R2)(ta tb:TE):TE:=λ σ H Q=>ta σ H λx H1=>tb σ H1 λy H2=>r x y H2 Q
def tUn(r:V->Hp->VK->Prop)(ta:TE):TE:=λ σ H Q=>ta σ H λx H1=>r x H1 Q
def rI(C:Int->Int->Prop)(g:Int->Int->V):R2:=λx y H Q=>∃i j,x=.int i/\y=.int j/\C i j/\Q (g i j) H
def uB(g:Int->Int->V):R2:=λx y H Q=>∃i j,x=.int i/\y=.int j/\Q (g i j) H
def rU(g:Int->V):V->Hp->VK->Prop:=λx H Q=>∃i,x=.int i/\Q (g i) H
section
variable{X:Cx}{a b c:Expr}{ta tb tc:TE}{pos:Pos}
def wQ(ha:PE X a ta)(hb:PE X b tb){zc:AE}{s:Shared}{σ:St}{H:Hp}{R:V->V->Hp->Prop}(I:Inv X zc σ H s)
  (h:ta σ H λx H1=>tb σ H1 λy H2=>R x y H2) {Q:AA} {f:Value->Value->Sem Value}
  (hf:∀v u s2 x y H2,Inv X zc σ H2 s2->RelV x v->RelV y u->R x y H2->wpAny (model X.prog X.w) X.A (f v u) Q X.xe s2):
  wpAny (model X.prog X.w) X.A (eval a X.env) (λv s₁=>wpAny (model X.prog X.w) X.A (eval b X.env) (λu s₂=>wpAny (model X.prog X.w) X.A (f v u) Q X.xe s₂) X.xe s₁) X.xe s:=by
 refine Ay (ha zc s σ H _ I h) λv s1 ⟨x,H1,I1,r1,q1⟩=> ?_;refine Ay (hb zc s1 σ H1 _ I1 q1) λu s2 ⟨y,H2,I2,r2,q2⟩=> ?_;exact hf v u s2 x y H2 I2 r1 r2 q2
def DS{op:Operator}{r:R2}(ho:cH X (binaryOp op) r)(ha:PE X a ta)(hb:PE X b tb):PE X (.BinOp a op b pos) (zV r ta tb):=by
 intro zc s σ H Q I h;exact wpAny_BinOp (wQ ha hb I h λv u s2 x y H2 I2 rx ry q=>ho zc s2 σ H2 x y v u Q I2 rx ry q)
def QQ{op:UnaryOp}{r:V->Hp->VK->Prop}(ho:OX X (unaryOp op) r)(ha:PE X a ta):PE X (.UnaryOp op a pos) (tUn r ta):=by
 intro zc s σ H Q I h;exact UnaryOp_ (Ay (ha zc s σ H _ I h) λv s1 ⟨x,H1,I1,r1,q1⟩=>ho zc s1 σ H1 x v Q I1 r1 q1)
def AL{f:Value->Value->Sem Value}{C:Int->Int->Prop}{g:Int->Int->Int}
  (rule:∀(i j:Int) (t u:Tok) (s:Shared) (Q:AA) (E:AA),C i j->Q (.int (g i j) s.toks) {s with toks:=s.toks + 1}->wpAny (model X.prog X.w) X.A (f (.int i t) (.int j u)) Q E s):
  cH X f (rI C λi j=> .int (g i j)):=by
 intro zc s σ H x y v u Q I rx ry h;obtain⟨i,j,rfl,rfl,hc,q⟩:=h;obtain⟨t,rfl⟩:=rx;obtain⟨t',rfl⟩:=ry;exact rule i j t t' s _ _ hc ⟨.int (g i j),H,I.tok _,⟨_,rfl⟩,q⟩
def PH{f:Value->Value->Sem Value}{g:Int->Int->Int}
  (rule:∀(i j:Int) (t u:Tok) (s:Shared) (Q:AA) (E:AA),Q (.int (g i j) s.toks) {s with toks:=s.toks + 1}->wpAny (model X.prog X.w) X.A (f (.int i t) (.int j u)) Q E s):
  cH X f (uB λi j=> .int (g i j)):=by
 intro zc s σ H x y v u Q I rx ry h;obtain⟨i,j,rfl,rfl,q⟩:=h;obtain⟨t,rfl⟩:=rx;obtain⟨t',rfl⟩:=ry;exact rule i j t t' s _ _ ⟨.int (g i j),H,I.tok _,⟨_,rfl⟩,q⟩
def vf{f:Value->Value->Sem Value}{g:Int->Int->Bool}
  (rule:∀(i j:Int) (t u:Tok) (s:Shared) (Q:AA) (E:AA),Q (.bool (g i j)) s->wpAny (model X.prog X.w) X.A (f (.int i t) (.int j u)) Q E s):
  cH X f (uB λi j=> .bl (g i j)):=by
 intro zc s σ H x y v u Q I rx ry h;obtain⟨i,j,rfl,rfl,q⟩:=h;obtain⟨t,rfl⟩:=rx;obtain⟨t',rfl⟩:=ry;exact rule i j t t' s _ _ ⟨.bl (g i j),H,I,rfl,q⟩
def Lp(i j:Int):Prop:=0<=j/\j<=1000000/\i.natAbs < 2 ^ 64
def yj(i j:Int):Prop:=(-(2 ^ 64) < i/\i < 2 ^ 64)\/(-(2 ^ 64) < j/\j < 2 ^ 64)
def yj.ok{i j:Int}(h:yj i j):IntMulOk i j:=by
 rcases h with⟨h1,h2⟩|⟨h1,h2⟩
 ·exact .of_left (intBits_le_64 h1 h2)
 ·exact .of_right (intBits_le_64 h1 h2)
def Si:cH X (binaryOp .Add) (uB λi j=> .int (i + j)):=PH λ_ _ _ _ _ _ _ q=>add_int q
def Sh:cH X (binaryOp .Mult) (rI yj λi j=> .int (i * j)):=AL λ_ _ _ _ _ _ _ hc q=>mul_int q hc.ok
def Sf:cH X (binaryOp .Mod) (rI (λ_ j=>0 < j) λi j=> .int (i % j)):=AL λi j _ _ _ _ _ hc q=>by
 have h1:(0:Int) < j:=hc;exact mod_int' () (by rw[Int.fmod_eq_emod_of_nonneg i ()];exact q)
def Se:cH X (binaryOp .Pow) (rI Lp λi j=> .int (i ^ j.toNat)):=AL λ_ _ _ _ _ _ _ hc q=>pow_int_small hc.1 hc.2.1 hc.2.2 q
def Nh{f:Value->Sem Value}{g:Int->Int}
  (rule:∀(i:Int) (t:Tok) (s:Shared) (Q:AA) (E:AA),Q (.int (g i) s.toks) {s with toks:=s.toks + 1}->wpAny (model X.prog X.w) X.A (f (.int i t)) Q E s):
  OX X f (rU λi=> .int (g i)):=by
 intro zc s σ H x v Q I rx h;obtain⟨i,rfl,q⟩:=h;obtain⟨t,rfl⟩:=rx;exact rule i t s _ _ ⟨.int (g i),H,I.tok _,⟨_,rfl⟩,q⟩
def RZ:OX X (unaryOp .USub) (rU λi=> .int (-i)):=Nh λ_ _ _ _ _ q=>neg_int q
end
noncomputable def CS:V->V->Bool
 | .aK,.aK=>true| .aK,.int _=>true| .int _,.aK=>true| .aK,.bl _=>true| .bl _,.aK=>true| .aK,.str _=>true| .str _,.aK=>true
 | .int _,.int _=>true| .bl _,.bl _=>true| .str _,.str _=>true| .iT _,.iT _=>true
 | .int _,.str _=>true| .str _,.int _=>true| .bl _,.str _=>true| .str _,.bl _=>true
 |_,_=>false
def rEq:R2:=λx y H Q=>CS x y=true/\Q (.bl (decide (x=y))) H
def rNe:R2:=λx y H Q=>CS x y=true/\Q (.bl (!decide (x=y))) H
def HC{i j:Int}:decide (V.int i=V.int j)=(i ==j):=by
 rw[O9];simp
def FH{i j:Bool}:decide (V.bl i=V.bl j)=(i ==j):=by
 rw[O9];simp
def HA{i j:Str}:decide (V.str i=V.str j)=(i ==j):=by
 rw[O9];simp
def Hz{i j:Array UInt8}:decide (V.iT i=V.iT j)=(i.toList ==j.toList):=by
 rw[O9];cases i;cases j;simp
section
variable{X:Cx}{a b c:Expr}{ta tb tc:TE}{pos:Pos}
def Dl{zc:AE}{σ:St}{H:Hp}{s:Shared}{Q:VK}{k k':Bool}(I:Inv X zc σ H s)(q:Q (.bl k) H)(e:k=k'):EP X zc σ Q (.bool k') s:=by
 subst e;exact⟨.bl k,H,I,rfl,q⟩
def QP:cH X (compareOp .Eq) rEq:=by
 intro zc s σ H x y v u Q I rx ry h;obtain⟨hs,q⟩:=h;cases x with
 |aK=>
  cases rx;cases y with
  |aK=>cases ry;exact PySem.EqNone.eq_none_none (Dl I q (by simp))
  |bl j=>cases ry;exact PySem.EqNone.eq_none_bool (Dl I q (by simp))
  |int j=>obtain⟨t',rfl⟩:=ry;exact PySem.EqNone.eq_none_int (Dl I q (by simp))
  |str j=>obtain⟨t',rfl⟩:=ry;exact PySem.EqNone.eq_none_str (Dl I q (by simp))
  |_=>exact absurd (show false=true from hs) A7
 |bl i=>
  cases rx;cases y with
  |aK=>cases ry;exact PySem.EqNone.eq_bool_none (Dl I q (by simp))
  |bl j=>cases ry;exact eq_bool (Dl I q FH)
  |str j=>obtain⟨t',rfl⟩:=ry;exact PySem.EqMixed.eq_bool_str (Dl I q (by simp))
  |_=>exact absurd (show false=true from hs) A7
 |int i=>
  obtain⟨t,rfl⟩:=rx;cases y with
  |aK=>cases ry;exact PySem.EqNone.eq_int_none (Dl I q (by simp))
  |int j=>obtain⟨t',rfl⟩:=ry;exact eq_int (Dl I q HC)
  |str j=>obtain⟨t',rfl⟩:=ry;exact PySem.EqMixed.eq_int_str (Dl I q (by simp))
  |_=>exact absurd (show false=true from hs) A7
 |str i=>
  obtain⟨t,rfl⟩:=rx;cases y with
  |aK=>cases ry;exact PySem.EqNone.eq_str_none (Dl I q (by simp))
  |bl j=>cases ry;exact PySem.EqMixed.eq_str_bool (Dl I q (by simp))
  |int j=>obtain⟨t',rfl⟩:=ry;exact PySem.EqMixed.eq_str_int (Dl I q (by simp))
  |str j=>obtain⟨t',rfl⟩:=ry;exact eq_str (Dl I q HA)
  |_=>exact absurd (show false=true from hs) A7
 |iT i=>
  obtain⟨t,rfl⟩:=rx;cases y with
  |iT j=>obtain⟨t',rfl⟩:=ry;exact eq_bytes (Dl I q Hz)
  |_=>exact absurd (show false=true from hs) A7
 |_=>cases y <;> exact absurd (show false=true from hs) A7
def QO:cH X (compareOp .NotEq) rNe:=by
 intro zc s σ H x y v u Q I rx ry h;obtain⟨hs,q⟩:=h;cases x with
 |aK=>
  cases rx;cases y with
  |aK=>cases ry;exact PySem.EqNone.ne_none_none (Dl I q (by simp))
  |bl j=>cases ry;exact PySem.EqNone.ne_none_bool (Dl I q (by simp))
  |int j=>obtain⟨t',rfl⟩:=ry;exact PySem.EqNone.ne_none_int (Dl I q (by simp))
  |str j=>obtain⟨t',rfl⟩:=ry;exact PySem.EqNone.ne_none_str (Dl I q (by simp))
  |_=>exact absurd (show false=true from hs) A7
 |bl i=>
  cases rx;cases y with
  |aK=>cases ry;exact PySem.EqNone.ne_bool_none (Dl I q (by simp))
  |bl j=>cases ry;exact ne_bool (Dl I q (K4 not FH))
  |str j=>obtain⟨t',rfl⟩:=ry;exact PySem.EqMixed.ne_bool_str (Dl I q (by simp))
  |_=>exact absurd (show false=true from hs) A7
 |int i=>
  obtain⟨t,rfl⟩:=rx;cases y with
  |aK=>cases ry;exact PySem.EqNone.ne_int_none (Dl I q (by simp))
  |int j=>obtain⟨t',rfl⟩:=ry;exact ne_int (Dl I q (K4 not HC))
  |str j=>obtain⟨t',rfl⟩:=ry;exact PySem.EqMixed.ne_int_str (Dl I q (by simp))
  |_=>exact absurd (show false=true from hs) A7
 |str i=>
  obtain⟨t,rfl⟩:=rx;cases y with
  |aK=>cases ry;exact PySem.EqNone.ne_str_none (Dl I q (by simp))
  |bl j=>cases ry;exact PySem.EqMixed.ne_str_bool (Dl I q (by simp))
  |int j=>obtain⟨t',rfl⟩:=ry;exact PySem.EqMixed.ne_str_int (Dl I q (by simp))
  |str j=>obtain⟨t',rfl⟩:=ry;exact ne_str (Dl I q (K4 not HA))
  |_=>exact absurd (show false=true from hs) A7
 |iT i=>
  obtain⟨t,rfl⟩:=rx;cases y with
  |iT j=>obtain⟨t',rfl⟩:=ry;exact ne_bytes (Dl I q (K4 not Hz))
  |_=>exact absurd (show false=true from hs) A7
 |_=>cases y <;> exact absurd (show false=true from hs) A7
def QN:cH X (compareOp .Lt) (uB λi j=> .bl (decide (i < j))):=vf λ_ _ _ _ _ _ _ q=>lt_int q
def QM:cH X (compareOp .LtE) (uB λi j=> .bl (decide (i<=j))):=vf λ_ _ _ _ _ _ _ q=>le_int q
def QL:cH X (compareOp .Gt) (uB λi j=> .bl (decide (j < i))):=vf λ_ _ _ _ _ _ _ q=>gt_int q
def XN:cH X (compareOp .In) (λx y H Q=>∃i j,x=.str i/\y=.str j/\Q (.bl (!(Builtin.Str.occurrences j i 0 j.length 1).isEmpty)) H):=by
 intro zc s σ H x y v u Q I rx ry h;obtain⟨i,j,rfl,rfl,q⟩:=h;obtain⟨t,rfl⟩:=rx;obtain⟨t',rfl⟩:=ry;exact in_str (Dl I q rfl)
def RY:cH X (compareOp .Is) (λx y H Q=>y=.aK/\Q (.bl (decide (x=.aK))) H):=by
 intro zc s σ H x y v u Q I rx ry h;obtain⟨rfl,q⟩:=h;cases ry;refine is_none_gen (Dl I q ?_);cases x <;> first
  |(cases rx;rfl)
  |(obtain⟨t,rfl⟩:=rx;rfl)
def UM:cH X (compareOp .IsNot) (λx y H Q=>y=.aK/\Q (.bl (!decide (x=.aK))) H):=by
 intro zc s σ H x y v u Q I rx ry h;obtain⟨rfl,q⟩:=h;cases ry;refine isnot_none_gen (Dl I q ?_);cases x <;> first
  |(cases rx;rfl)
  |(obtain⟨t,rfl⟩:=rx;rfl)
def cH.or{f:Value->Value->Sem Value}{r r':R2}(h:cH X f r)(h':cH X f r'):cH X f (λx y H Q=>r x y H Q\/r' x y H Q):=by
 intro zc s σ H x y v u Q I rx ry q;rcases q with q|q
 ·exact h zc s σ H x y v u Q I rx ry q
 ·exact h' zc s σ H x y v u Q I rx ry q
def Ce(b:Expr){op:CmpOp}(h:op≠ .In:=by decide)(h2:op≠ .NotIn:=by decide):behindInMarks op b=false:=by
 have e1:(op ==CmpOp.In)=false:=by cases op <;> first|rfl|exact absurd rfl h
 have e2:(op ==CmpOp.NotIn)=false:=by cases op <;> first|rfl|exact absurd rfl h2
 cases b <;> simp[behindInMarks,e1,e2]
def UL{op:CmpOp}{r:R2}(ho:cH X (compareOp op) r)(ha:PE X a ta)(hb:PE X b tb)(hm:behindInMarks op b=false):PE X (.Compare a [op] [b] pos) (zV r ta tb):=by
 intro zc s σ H Q I h;exact wpAny_Compare1 (wQ ha hb I h λv u s2 x y H2 I2 rx ry q=>ho zc s2 σ H2 x y v u Q I2 rx ry q) hm
def DR(t:TE):TT:=λ σ H Q=>t σ H λx H'=>∃k,x=.bl k/\Q k H'
def UK{op:CmpOp}{r:R2}(ho:cH X (compareOp op) r)(ha:PE X a ta)(hb:PE X b tb)(hm:behindInMarks op b=false):PT X (.Compare a [op] [b] pos) (DR (zV r ta tb)):=by
 intro zc s σ H Q I h;refine wpAny_isTrue_Compare1 (Ay (ha zc s σ H _ I h) λv s1 ⟨x,H1,I1,r1,q1⟩=>Ay (hb zc s1 σ H1 _ I1 q1) λu s2 ⟨y,H2,I2,r2,q2⟩=>
  Ay (ho zc s2 σ H2 x y v u _ I2 r1 r2 q2) λc s3 ⟨z,H3,I3,r3,k,e,q3⟩=> ?_) hm
 subst e;cases r3;exact N6 ⟨H3,I3,q3⟩
def wa(r r':R2)(ta tb tc:TE):TE:=λ σ H Q=>ta σ H λx H1=>tb σ H1 λy H2=>r x y H2 λz H3=>∃k,z=.bl k/\
 (if k=true then tc σ H3 λw' H4=>r' y w' H4 Q else Q (.bl false) H3)
def Ww{op jc:CmpOp}{r r':R2}(ho:cH X (compareOp op) r)(dJ:cH X (compareOp jc) r')(ha:PE X a ta)(hb:PE X b tb)(hc:PE X c tc)
  (hm:lastMarks [op,jc] [b,c]=false:=by with_unfolding_all rfl):PE X (.Compare a [op,jc] [b,c] pos) (wa r r' ta tb tc):=by
 intro zc s σ H Q I h;refine Compare_chain (Ay (ha zc s σ H _ I h) λv s1 ⟨x,H1,I1,r1,q1⟩=>chain_link (Ay (hb zc s1 σ H1 _ I1 q1) λu s2 ⟨y,H2,I2,r2,q2⟩=>
  Ay (ho zc s2 σ H2 x y v u _ I2 r1 r2 q2) λd s3 ⟨z,H3,I3,r3,k,e,q3⟩=> ?_)) hm
 subst e;cases r3;refine N6 ?_;cases k with
 |false=>exact ite_ff ⟨.bl false,H3,I3,rfl,q3⟩
 |true=>exact ite_tt (chain_last (Ay (hc zc s3 σ H3 _ I3 q3) λw' s4 ⟨z',H4,I4,r4,q4⟩=>dJ zc s4 σ H4 y z' u w' Q I4 r2 r4 q4))
def Wv{op jc:CmpOp}{r r':R2}(ho:cH X (compareOp op) r)(dJ:cH X (compareOp jc) r')(ha:PE X a ta)(hb:PE X b tb)(hc:PE X c tc)
  (hm:lastMarks [op,jc] [b,c]=false:=by with_unfolding_all rfl):PT X (.Compare a [op,jc] [b,c] pos) (DR (wa r r' ta tb tc)):=by
 intro zc s σ H Q I h;refine isTrue_chain (Ay (ha zc s σ H _ I h) λv s1 ⟨x,H1,I1,r1,q1⟩=>test_link (Ay (hb zc s1 σ H1 _ I1 q1) λu s2 ⟨y,H2,I2,r2,q2⟩=>
  Ay (ho zc s2 σ H2 x y v u _ I2 r1 r2 q2) λd s3 ⟨z,H3,I3,r3,k,e,q3⟩=> ?_)) hm
 subst e;cases r3;refine N6 ?_;cases k with
 |false=>
  obtain⟨k',e',q'⟩:=q3;cases e';exact ite_ff ⟨H3,I3,q'⟩
 |true=>
  refine ite_tt (test_last (Ay (hc zc s3 σ H3 _ I3 q3) λw' s4 ⟨z',H4,I4,r4,q4⟩=>Ay (dJ zc s4 σ H4 y z' u w' _ I4 r2 r4 q4) λd' s5 ⟨z2,H5,I5,r5,k2,e2,q5⟩=> ?_));subst e2;cases r5;exact N6 ⟨H5,I5,q5⟩
def ye(K:Frag)(x:V)(H:Hp)(k:Bool):Prop:=
 match x with
 | .aK=>k=false
 | .bl b=>k=b
 | .int i=>k=(i != 0)
 | .str y=>y.length<=sizeLine/\k=((y.length:Int) != 0)
 | .iT y=>y.size<=sizeLine/\k=((y.size:Int) != 0)
 | .ref p=>(∃xs,cF K H p xs/\k= !xs.isEmpty)\/(∃xs,dD K H p xs/\k= !xs.isEmpty)\/∃kvs,H p=some (.dK kvs)/\k= !kvs.isEmpty
 |_=>False
def YB{κ:Type}{kvs:List (κ×V)}{vs:List (κ×Value)}(r:KV kvs vs):(!vs.isEmpty)= !kvs.isEmpty:=by
 cases r <;> rfl
def JX{xs:List V}{its:List Value}(r:Vals xs its):(!its.toArray.isEmpty)= !xs.isEmpty:=by
 cases r <;> simp
def lV:(sizeLine:Nat) < 2 ^ 63:=by rw[D9];decide
def RX:aax X (λx H Q=>∃k,ye X.K x H k/\Q k H):=by
 intro zc s σ H x v Q I rx h;obtain⟨k,e,q⟩:=h;have hl:=lV;have hs:sizeLine=16777216:=D9;cases x with
 |aK=>
  cases rx;have e':k=false:=e;subst e';exact truthy_none ⟨H,I,q⟩
 |bl b=>
  cases rx;have e':k=b:=e;subst e';exact N6 ⟨H,I,q⟩
 |int i=>
  obtain⟨t,rfl⟩:=rx;have e':k=(i != 0):=e;subst e';exact PySem.P.truthy_int ⟨H,I,q⟩
 |str y=>
  obtain⟨t,rfl⟩:=rx;obtain⟨hy,e'⟩:y.length<=sizeLine/\k=((y.length:Int) != 0):=e;subst e';exact PySem.P.truthy_str () ⟨H,I.tok _,q⟩
 |iT y=>
  obtain⟨t,rfl⟩:=rx;obtain⟨hy,e'⟩:y.size<=sizeLine/\k=((y.size:Int) != 0):=e;subst e';exact truthy_bytes () ⟨H,I.tok _,q⟩
 |ref p=>
  cases rx;have e':(∃xs,cF X.K H p xs/\k= !xs.isEmpty)\/(∃xs,dD X.K H p xs/\k= !xs.isEmpty)\/∃kvs,H p=some (.dK kvs)/\k= !kvs.isEmpty:=e;rcases e' with⟨xs,hx,e'⟩|⟨xs,hx,e'⟩|⟨kvs,hx,e'⟩
  ·subst e';obtain⟨its,r,pl,hz⟩:=I.list hx;have zj:=r.length;exact wpAny_truthy_list pl.isList (by simp only[D6];lia) ⟨H,I.tok _,by rw[JX r];exact q⟩
  ·subst e';obtain⟨its,r,pl,hz⟩:=I.tuple hx;have zj:=r.length;exact truthy_tuple pl (by simp only[D6];lia) ⟨H,I.tok _,by rw[JX r];exact q⟩
  ·subst e';obtain⟨hz,hS,vs,r,m⟩:kvs.length<=sizeLine/\(p ==sysModules)=false/\∃vs,KV kvs vs/\s.heap.DictOf (Ec X.prog X.w) p vs:=I.aJ p _ hx;have zj:kvs.length=vs.length:=X2 r;exact wpAny_truthy_dict hS m () ⟨H,I.tok _,by rw[YB r];exact q⟩
 |_=>exact(show False from e).elim
def IH(ha:PE X a ta)(he:∀whole,isTrue a X.env whole=(do let v<-whole;standAt a.pos;holding [v] (truthy v))):
  PT X a (λ σ H Q=>ta σ H λx H'=>∃k,ye X.K x H' k/\Q k H'):=by
 intro zc s σ H Q I h;exact isTrue_plain (Ay (ha zc s σ H _ I h) λv s1 ⟨x,H1,I1,r1,q1⟩=>RX zc s1 σ H1 x v Q I1 r1 q1) (he _)
def YA:cH X (binaryOp .Add) (λx y H Q=>∃i j,x=.str i/\y=.str j/\i.length + j.length<=sizeLine/\Q (.str (i ++ j)) H):=by
 intro zc s σ H x y v u Q I rx ry h;obtain⟨i,j,rfl,rfl,hz,q⟩:=h;obtain⟨t,rfl⟩:=rx;obtain⟨t',rfl⟩:=ry;exact add_str (λt' tk=>⟨.str (i ++ j),H,I.tok _,⟨_,rfl⟩,q⟩) hz
def ri{x:V}{us:List Value}(r:Vals [x] us):∃u,us= [u]/\RelV x u:=by
 cases r with
 |cons r1 r2=>cases r2;exact⟨_,rfl,r1⟩
def DQ{x y:V}{us:List Value}(r:Vals [x,y] us):∃u w',us= [u,w']/\RelV x u/\RelV y w':=by
 cases r with
 |cons r1 r2=>
  cases r2 with
  |cons r3 r4=>cases r4;exact⟨_,_,rfl,r1,r3⟩
def XM(hc:X.calm=true):bR X (.builtin "max") (λxs H Q=>∃i j,xs= [.int i,.int j]/\Q (.int (if j > i then j else i)) H):=by
 intro zc s σ H xs us Q I r h;obtain⟨i,j,rfl,q⟩:=h;obtain⟨u,w',rfl,⟨t,rfl⟩,⟨t',rfl⟩⟩:=DQ r;refine max_two_ints (I.ok.hd hc) λh' tk k=>⟨_,H,I.kept k, ?_,q⟩
 by_cases hj:j > i
 ·rw[if_pos hj,if_pos hj];exact⟨_,rfl⟩
 ·rw[if_neg hj,if_neg hj];exact⟨_,rfl⟩
def XJ(hc:X.calm=true):bR X (.builtin "min") (λxs H Q=>∃i j,xs= [.int i,.int j]/\Q (.int (if j < i then j else i)) H):=by
 intro zc s σ H xs us Q I r h;obtain⟨i,j,rfl,q⟩:=h;obtain⟨u,w',rfl,⟨t,rfl⟩,⟨t',rfl⟩⟩:=DQ r;refine min_two_ints (I.ok.hd hc) λh' tk k=>⟨_,H,I.kept k, ?_,q⟩
 by_cases hj:j < i
 ·rw[if_pos hj,if_pos hj];exact⟨_,rfl⟩
 ·rw[if_neg hj,if_neg hj];exact⟨_,rfl⟩
end
structure jG(h:Heap)(x dx C:Addr)(mA:AB):Prop where
 obj:h.get? x=some (instObj C dx)
 ns:h.Ns1 dx mA
 ne:dx≠x
def XI{h:Heap}{dx:Addr}{mA:AB}(n:h.Ns1 dx mA):∃od,h.get? dx=some od/\∀name,lookIn name od=some (mA name):=by
 obtain⟨o,es,ep,ho,hd,hk,_,hm⟩:=n;refine⟨o,ho,λname=> ?_⟩;have e:=hm name;unfold nsFind findBy at e;rw[<-Array.find?_toList]at e;unfold lookIn;rw[hd];dsimp only
 split
 ·rename_i y q;rw[q]at e;exact K4 some e
 ·rename_i q;rw[q]at e;have a:es.toList.any (·.refKey)=false:=by
   rw[List.any_eq_false];intro y hy;obtain⟨z,t,di⟩:=hk y (Array.mem_toList_iff.mp hy);simp[DictEntry.refKey,di]
  have a':¬es.toList.any (·.refKey)=true:=by rw[a];exact A7
  rw[if_neg a'];exact K4 some e
def jG.look{h:Heap}{x dx C:Addr}{mA:AB}(I:jG h x dx C mA):∃od,InstAt h x (instObj C dx) C (some od)/\∀name,lookIn name od=some (mA name):=
 let⟨od,ho,hl⟩:=XI I.ns
 ⟨od,⟨I.obj,rfl,rfl,ho⟩,hl⟩
section
variable{prog:Program}{w:World}{A:Around}{E:AA}{s:Shared}{K:Frag}{x dx C f:Addr}{mA:AB}{name:Str}{v:Value}
def UJ{expr:Bool}{Q:AA}(X:K.In s.heap)(I:jG s.heap x dx C mA)(hg:plainGet K C name=true)(hh:hasDictIn K C=true)
  (ha:findIn K (.ref C) name=some none) (hv:mA name=some v) (NI:handedIn v=true) (h:Q v {s with toks:=s.toks + 1}):
  wpAny (model prog w) A (getAttr (.ref x) name expr) Q E s:=by
 obtain⟨od,J,hl⟩:=I.look;exact get_value X J (OJ hg).1 (findObj_own hh ha rfl (by rw[hl,hv])) NI h
def Wu{pl:Sem Bool}{Q:Value×List Value->Shared->Prop}(X:K.In s.heap)(I:jG s.heap x dx C mA)(hg:plainGet K C name=true)
  (hf:findIn K (.ref C) name=some (some (.ref f))) (ht:isFn K (.ref f)=true) (hv:mA name=none) (h:Q (.ref f,[.ref x]) s):
  wpAny (model prog w) A (getMethod (.ref x) name pl) Q E s:=by
 obtain⟨od,J,hl⟩:=I.look;exact method_fn X J (OJ hg).1 (OJ hg).2 hf (N7.mp ht) (by show(lookIn name od).map (·.isSome)=some false;rw[hl,hv];rfl) h
def UI{ns:List Str}{Q:Unit->Shared->Prop}(X:K.In s.heap)(I:jG s.heap x dx C mA)
  (hs:findIn K (.ref C) "__setattr__" =some (some (.builtin "object.__setattr__"))) (hp:plainOver K C=true) (ht:takerIn K C name=some none) (hh:hasDictIn K C=true)
  (hw:PySem.Within mA ns) (hsz:ns.length<=sizeLine)
  (h:∀h',jG h' x dx C (λy=>if y=name then some v else mA y)->Heap.SameBut dx s.heap h'->Q .unit {s with heap:=h',toks:=s.toks + 2}):
  wpAny (model prog w) A (setAttr (.ref x) name v) Q E s:=by
 obtain⟨od,J,hl⟩:=I.look;refine set_plain X J hs (osa_open (s:={s with toks:=s.toks + 1}) (r:=none) X J hp ht λb=> ?_);obtain⟨cd,hc,fF⟩:=any_some hh;have hx:s.heap.get? x=some ⟨.ref C,some dx,.plain, #[]⟩:=I.obj;refine A5 (F0 (A5 (A5 (wpAny_loadPart hx (A5 (MI (s:={s with toks:=s.toks + 1}) (OL X hc) ?_))))));rw[fF];refine F0 (a:=some dx) (A5 (F0 (A5 ?_)));refine wpAny_nsSet1 (s:={s with toks:=s.toks + 1}) I.ns λh' Mj eN=> ?_;obtain⟨oD,esD,epD,hoD,hdD,hcD⟩:=Mj.count (PySem.Within.cons name v hw);refine A5 (wpAny_lookBehind hoD (by rw[hdD];exact pastItsLine_dict (D4 hcD (by rw[B4];lia))) ?_);exact F0 (h _ ⟨(eN.2 _ (Ne.symm I.ne)).trans I.obj,Mj,I.ne⟩ eN)
def Wt{R:Result->Shared->Prop}{vs:List Value}{kw:List (Str×Value)}(X:K.In s.heap)(hm:makesIn K C=true)
  (hi:findIn K (.ref C) "__init__" =some (some (.ref f))) (hf:typeIn K (.ref f)=some (.type "function"))
  (h:codeAny (model prog w) (A.under (.builtin "type.__call__" ⟨.ref C::vs,kw⟩)) (.call (.ref f) ⟨.ref (s.heap.objs.size + 1)::vs,kw⟩) (InitBack (s.heap.objs.size + 1) R)
   {s with heap:=(s.heap.push emptyDict).push (instObj C s.heap.objs.size)}):
  codeAny (model prog w) A (.call (.ref C) ⟨vs,kw⟩) R s:=by
 obtain⟨hh,g,d,t,os⟩:=s;exact make_core (makes_of X hm) (ZE0 X hi) (λself=>bind_fn X self hf) (.inl rfl) h
end
noncomputable def Ge(f:Str)(v:V):List (Str×V)->List (Str×V)
 | []=> [(f,v)]
 |(g,x)::r=>if g=f then(g,v)::r else(g,x)::Ge f v r
theorem Kw(f g:Str)(v:V):∀fs:List (Str×V),(Ge f v fs).lookup g=if g=f then some v else fs.lookup g
 | []=>by
  show List.lookup g [(f,v)]=_
  by_cases h:g=f
  ·have hb:(g ==f)=true:=N7.mpr h;simp only[List.lookup,hb,if_pos h]
  ·have hb:(g ==f)=false:=O6.mpr h;simp only[List.lookup,hb,if_neg h]
 |(k,x)::r=>by
  have ih:=Kw f g v r;rw[show Ge f v ((k,x)::r)=(if k=f then(k,v)::r else(k,x)::Ge f v r) from rfl]
  by_cases hk:k=f
  ·rw[if_pos hk]
   by_cases h:g=k
   ·have hb:(g ==k)=true:=N7.mpr h;simp only[List.lookup,hb,if_pos (h.trans hk)]
   ·have hb:(g ==k)=false:=O6.mpr h;simp only[List.lookup,hb,if_neg (λe:g=f=>h (e.trans hk.symm))]
  ·rw[if_neg hk]
   by_cases h:g=k
   ·have hb:(g ==k)=true:=N7.mpr h;simp only[List.lookup,hb,if_neg (λe:g=f=>hk (h.symm.trans e))]
   ·have hb:(g ==k)=false:=O6.mpr h;simp only[List.lookup,hb];exact ih
theorem xP(f:Str)(v:V):∀fs:List (Str×V),f∈(Ge f v fs).map (·.1)/\∀g,g∈fs.map (·.1)->g∈(Ge f v fs).map (·.1)
 | []=>⟨by simp[Ge],λg h=>by simp at h⟩
 |(k,x)::r=>by
  obtain⟨i1,i2⟩:=xP f v r;rw[show Ge f v ((k,x)::r)=(if k=f then(k,v)::r else(k,x)::Ge f v r) from rfl]
  by_cases hk:k=f
  ·rw[if_pos hk];subst hk;exact⟨by simp,λg h=>by simpa using h⟩
  ·rw[if_neg hk];refine⟨?_,λg h=> ?_⟩
   ·rw[B3];exact B9 _ i1
   ·rw[B3]at h⊢;rcases C7.mp h with e|e
    ·exact C7.mpr (.inl e)
    ·exact B9 _ (i2 g e)
theorem Kv(f:Str)(v:V):∀fs:List (Str×V),(Ge f v fs).length<=fs.length + 1
 | []=>by simp[Ge]
 |(k,x)::r=>by
  have ih:=Kv f v r;rw[show Ge f v ((k,x)::r)=(if k=f then(k,v)::r else(k,x)::Ge f v r) from rfl]
  by_cases hk:k=f
  ·rw[if_pos hk,B4,B4];lia
  ·rw[if_neg hk,B4,B4];lia
def bJ.some_of{v:V}{o:Option Value}(r:bJ (some v) o):∃u,o=some u/\RelV v u:=by
 cases o with
 |none=>exact(show False from r).elim
 |some u=>exact⟨u,rfl,r⟩
def bJ.none_of{o:Option Value}(r:bJ none o):o=none:=by
 cases o with
 |none=>rfl
 |some u=>exact(show False from r).elim
def XH{v:V}{u:Value}(r:RelV v u):handedIn u=true:=by
 cases v with
 |aK=>cases(show u=Value.none from r);rfl
 |bl b=>cases(show u=Value.bool b from r);rfl
 |int i=>obtain⟨t,e⟩:=(show∃t,u=Value.int i t from r);cases e;rfl
 |str x=>obtain⟨t,e⟩:=(show∃t,u=Value.str x t from r);cases e;rfl
 |iT b=>obtain⟨t,e⟩:=(show∃t,u=Value.bytes b t from r);cases e;rfl
 |nr b=>obtain⟨t,e⟩:=(show∃t,u=Value.float b t from r);cases e;rfl
 |ref a=>cases(show u=Value.ref a from r);rfl
 |ty n=>cases(show u=Value.type n from r);rfl
section
variable{P:Program}{w:World}{H H':Hp}{h h':Heap}{a C dx:Addr}{fs fs':List (Str×V)}
def wN(aJ:cP P w H h)(e:H a=some (.ins C dx fs)):∃mA,jG h a dx C mA/\(∀f,bJ (fs.lookup f) (mA f))/\PySem.Within mA (fs.map (·.1))/\fs.length<=1000/\H dx=some (.own a):=by
 obtain⟨d,z,ne,ob,mA,n,r,q⟩:=(show aP P w H h a (.ins C dx fs) from aJ a _ e);exact⟨mA,⟨ob,n,ne⟩,r,q,z,d⟩
end
structure gQ(K:Frag)(C:Addr):Prop where
 pg:plainGet K C Str.empty=true
 hd:hasDictIn K C=true
 po:plainOver K C=true
 sa:findIn K (.ref C) "__setattr__" =some (some (.builtin "object.__setattr__"))
def gQ.get{K:Frag}{C:Addr}(c:gQ K C)(f:Str):plainGet K C f=true:=c.pg
def aY(K:Frag)(C:Addr)(f:Str):Prop:=findIn K (.ref C) f=some none
def aY.Lr{K:Frag}{C:Addr}{f:Str}(n:aY K C f):takerIn K C f=some none:=by
 unfold takerIn;rw[show findIn K (.ref C) f=some none from n];rfl
structure Con(K:Frag)(C:Addr)(f:Str)(v:V)(u:Value):Prop where
 at_:findIn K (.ref C) f=some (some u)
 rel:RelV v u
 get:specialIn K u "__get__" =some none
 cp:PySem.W.copiedNames.contains f=false
structure Meth(K:Frag)(C:Addr)(m:Str)(f:Addr):Prop where
 at_:findIn K (.ref C) m=some (some (.ref f))
 fn:isFn K (.ref f)=true
 kp:keepIn K (.ref f)=true
section
variable{X:Cx}{zc:AE}{σ:St}{H:Hp}{s:Shared}{a C dx:Addr}{fs:List (Str×V)}{f:Str}{v:V}{A:Around}{E:AA}
def Yz{b:Bool}{Q:AA}(I:Inv X zc σ H s)(e:H a=some (.ins C dx fs))(c:gQ X.K C)(n:aY X.K C f)(l:fs.lookup f=some v)
  (h:∀u s',Inv X zc σ H s'->RelV v u->Q u s'):wpAny (model X.prog X.w) A (getAttr (.ref a) f b) Q E s:=by
 obtain⟨mA,O,r,_,_,_⟩:=wN I.aJ e;obtain⟨u,hu,ru⟩:=bJ.some_of (v:=v) (o:=mA f) (by rw[<-l];exact r f);exact UJ I.cN O (c.get f) c.hd n hu (XH ru) (h u _ (I.tok _) ru)
def JW{m:Str}{g:Addr}{pl:Sem Bool}{Q:Value×List Value->Shared->Prop}(I:Inv X zc σ H s)(e:H a=some (.ins C dx fs))(c:gQ X.K C)(k:Meth X.K C m g)(l:fs.lookup m=none)
  (h:Q (.ref g,[.ref a]) s):wpAny (model X.prog X.w) A (getMethod (.ref a) m pl) Q E s:=by
 obtain⟨mA,O,r,_,_,_⟩:=wN I.aJ e;have hn:mA m=none:=bJ.none_of (by rw[<-l];exact r m);exact Wu I.cN O (c.get m) k.at_ k.fn hn h
def Yy{y:V}{u:Value}{Q:Unit->Shared->Prop}(I:Inv X zc σ H s)(e:H a=some (.ins C dx fs))(c:gQ X.K C)(n:aY X.K C f)(hl:fs.length < 1000)(ry:RelV y u)
  (h:∀s',Inv X zc σ (upd H a (.ins C dx (Ge f y fs))) s'->Q .unit s'):wpAny (model X.prog X.w) A (setAttr (.ref a) f u) Q E s:=by
 obtain⟨mA,O,r,wi,_,ho⟩:=wN I.aJ e;have hz:(fs.map (·.1)).length<=sizeLine:=by rw[A3,D9];lia
 refine UI I.cN O c.sa c.po n.Lr c.hd wi hz λh' O' sb=>h _ ?_;have hd:∃o,h'.get? dx=some o:=let⟨o,_,_,e',_⟩:=O'.ns;⟨o,e'⟩;refine I.write (x:=a) (e:=dx) (by rw[e];exact True.intro) (.inr ho) (λb q hb z=>(sb.2 b hb).trans z) hd ?_;refine⟨by rw[Ao O.ne];exact ho, ?_,O.ne,O'.obj,_,O'.ns,λg=> ?_,λg hg=> ?_⟩
 ·have:=Kv f y fs;lia
 ·show bJ ((Ge f y fs).lookup g) (if g=f then some u else mA g);rw[Kw]
  by_cases q:g=f
  ·rw[if_pos q,if_pos q];exact ry
  ·rw[if_neg q,if_neg q];exact r g
 ·by_cases q:g=f
  ·rw[q];exact(xP f y fs).1
  ·refine(xP f y fs).2 g (wi g λz=>hg ?_);show(if g=f then some u else mA g)=none;rw[if_neg q];exact z
def Inv.made(I:Inv X zc σ H s):Inv X zc σ (upd (upd H s.heap.objs.size (.own (s.heap.objs.size + 1))) (s.heap.objs.size + 1) (.ins C s.heap.objs.size []))
  {s with heap:=(s.heap.push emptyDict).push (instObj C s.heap.objs.size)}:=by
 have e1:(s.heap.push emptyDict).get? s.heap.objs.size=some emptyDict:=C1 s.heap rfl;have e2:((s.heap.push emptyDict).push (instObj C s.heap.objs.size)).get? (s.heap.objs.size + 1)=some (instObj C s.heap.objs.size):=by
  have:=C1 (s.heap.push emptyDict) (o:=instObj C s.heap.objs.size) rfl
  rwa[N8]at this
 have e3:(s.heap.push emptyDict).Ns s.heap.objs.size (λ_=>none):=⟨emptyDict, #[],_,e1,rfl,(λe he=>absurd he (by simp)),λ_=>rfl⟩;have I1:=I.laid (a:=s.heap.objs.size) (o:=.own (s.heap.objs.size + 1)) (h':=s.heap.push emptyDict) (t':=s.toks) (λb u q=>A4 _ q) (B6 _) ⟨_,e1⟩;refine I1.laid (a:=s.heap.objs.size + 1) (o:=.ins C s.heap.objs.size []) (t':=s.toks) (λb u q=>A4 _ q) (T8 (N8 _ _)) ?_;have ne:s.heap.objs.size≠s.heap.objs.size + 1:=D8 (T9 _);refine⟨by rw[Ao ne,Bf],K5 _,ne,e2,λ_=>none,(Heap.Ns1.of_empty e3).at λo q=>A4 _ q,λ_=>True.intro,λy hy=>absurd rfl hy⟩
def UH{prog:Program}{w:World}{env:Env}{e:Expr}{f:Str}{pos:Pos}{s:Shared}{Q:AA}(hb:attributeBase e f env (eval e env)=eval e env)
  (h:wpAny (model prog w) A (eval e env) (λo s₁=>wpAny (model prog w) A (getAttr o f true) Q E s₁) E s):wpAny (model prog w) A (eval (.Attribute e f pos) env) Q E s:=
 Attribute_any_ h (by rw[arm_eval_Attribute,hb])
end
def Pt(K:Frag)(ta:TE)(f:Str):TE:=λ σ H Q=>ta σ H λx H1=>∃a C dx fs v,x=.ref a/\H1 a=some (.ins C dx fs)/\gQ K C/\aY K C f/\fs.lookup f=some v/\Q v H1
def Py(K:Frag)(ta tv:TE)(f:Str):TS:=λD σ H=>tv σ H λy H1=>ta σ H1 λx H2=>∃a C dx fs,x=.ref a/\H2 a=some (.ins C dx fs)/\gQ K C/\aY K C f/\fs.length < 1000/\
 D.nx σ (upd H2 a (.ins C dx (Ge f y fs)))
section
variable{X:Cx}{o e value:Expr}{f:Str}{pos pos' zg:Pos}{ta tv:TE}
def vZ(he:PE X e ta)(hb:attributeBase e f X.env (eval e X.env)=eval e X.env):PE X (.Attribute e f pos) (Pt X.K ta f):=by
 intro zc s σ H Q I h;refine UH hb (Ay (he zc s σ H _ I h) λu s1 ⟨x,H1,I1,rx,a,C,dx,fs,v,ex,ea,c,n,l,q⟩=> ?_);subst ex;obtain rfl:u=Value.ref a:=rx;exact Yz I1 ea c n l λu' s2 I2 ru=>⟨v,H1,I2,ru,q⟩
def vY(ha:PE X o ta)(hv:PE X value tv)(hs:swapsWith value (some (.Attribute o f pos')) pos.line X.env=pure false):PS X (.Assign [.Attribute o f pos'] value pos) (Py X.K ta tv f):=by
 intro zc s σ H D I h;refine W1 (Ay (hv zc s σ H _ I h) λu s1 ⟨y,H1,I1,ry,q⟩=>Ay (ha zc s1 σ H1 _ I1 q) λov s2 ⟨x,H2,I2,rx,a,C,dx,fs,ex,ea,c,n,l,q2⟩=> ?_) hs;subst ex;obtain rfl:ov=Value.ref a:=rx;exact Yy I2 ea c n l ry λs3 I3=>⟨σ,_,I3,q2⟩
end
section
variable{X:Cx}{zc:AE}{σ:St}{H:Hp}{s:Shared}{A:Around}{E:AA}{Q:AA}{c:Value}{b:Bool}
inductive eB(K:Frag)(H:Hp):V->Value->Prop where
 |aK:eB K H .aK (.type "NoneType")
 |bl (x:Bool):eB K H (.bl x) (.type "bool")
 |int (i:Int):eB K H (.int i) (.type "int")
 |str (x:Str):eB K H (.str x) (.type "str")
 |nr (x:UInt64):eB K H (.nr x) (.type "float")
 |lst {a:Addr} {xs:List V} (e:H a=some (.lst xs)):eB K H (.ref a) (.type "list")
 |aQ {a:Addr} {o:Obj} {xs:List V} (e:H a=some (.aQ o (.lst xs))):eB K H (.ref a) (.type "list")
 |tup {a:Addr} {xs:List V} (e:H a=some (.tup xs)):eB K H (.ref a) (.type "tuple")
 |dK {a:Addr} {kvs:List (Ae×V)} (e:H a=some (.dK kvs)):eB K H (.ref a) (.type "dict")
 |dT {a:Addr} {kvs:List (List Ae×V)} (e:H a=some (.dT kvs)):eB K H (.ref a) (.type "dict")
 |ins {a C dx:Addr} {fs:List (Str×V)} (e:H a=some (.ins C dx fs)) (cl:gQ K C) (ha:findIn K (.ref C) "__class__" =some (some (.builtin "object.__class__")))
   (hn:specialIn K (.builtin "object.__class__") "__get__" =some (some (.builtin "getset_descriptor.__get__"))) (htk:takesIn K (.builtin "object.__class__")=some true)
   (hm:mroIn K C (.type "object")=some true):eB K H (.ref a) (.ref C)
end
structure eM(k:Nat)(A:Around):Prop where
 hd:A.handled=none
 dp:A.depth + 3 * k + 5 < recursionLimit
 un:A.units + 16 * k + 200 < cLine
theorem eM.in1{k:Nat}{A:Around}(r:eM (k + 1) A):eM k A.in1:=
 ⟨r.hd,by have:=r.dp;show A.depth + 3 * k + 5 < _;lia,by have:=r.un;show A.units + 1 + 16 * k + 200 < _;lia⟩
def Yx{A:Around}{C:Addr}{us:List Value}{kw:List (Str×Value)}:(A.under (.builtin "type.__call__" ⟨.ref C::us,kw⟩)).depth=A.depth + 1:=by
 first|rfl|simp[Around.under,Code.weight,Code.isCreation,Code.isGuard,Code.isCaller,Code.frames,Code.isFrame,guardIds]
def Yw{A:Around}{C:Addr}{us:List Value}{kw:List (Str×Value)}:(A.under (.builtin "type.__call__" ⟨.ref C::us,kw⟩)).units=A.units + 1:=by
 first|rfl|simp[Around.under,Code.cUnits,Code.frames,Code.isFrame]
theorem eM.depth{k:Nat}{A:Around}(r:eM k A):A.depth < recursionLimit:=by have:=r.dp;lia
def qL:TA:=λ_ H Q=>Q [] H
def vJ(ta:TE)(tr:TA):TA:=λ σ H Q=>ta σ H λx H1=>tr σ H1 λxs H2=>Q (x::xs) H2
section
variable{X:Cx}{e:Expr}{es:List Expr}{te:TE}{t:TA}{pos:Pos}
def mB:PA X [] qL:=λ_ _ _ _ H Q I h=>Q4 ⟨[],H,I,.nil,h⟩
def iS(ha:PE X e te)(hr:PA X es t)(hs:starEach (e::es) X.env=(false,eval e X.env)::starEach es X.env:=by rfl):PA X (e::es) (vJ te t):=by
 intro pos zc s σ H Q I h;rw[hs];show wpAny _ _ (spliced ((false,eval e X.env)::backTo pos (starEach es X.env))) _ _ s;refine M9 (Ay (ha zc s σ H _ I h) λu s1 ⟨x,H1,I1,r1,q1⟩=> ?_);exact Ay (hr pos zc s1 σ H1 _ I1 q1) λus s2 ⟨xs,H2,I2,r2,q2⟩=>⟨x::xs,H2,I2,.cons r1 r2,q2⟩
def Pm(t:TA):TE:=λ σ H Q=>t σ H λxs H1=>xs.length<=sizeLine/\∀p,H1 p=none->Q (.ref p) (upd H1 p (.tup xs))
def Pq(t:TA):TE:=λ σ H Q=>t σ H λxs H1=>xs.length<=sizeLine/\∀p,H1 p=none->Q (.ref p) (upd H1 p (.lst xs))
def RW{x1}(h:PA X es t):PE X (.Tuple es x1 pos) (Pm t):=by
 intro zc s σ H Q I hq;refine wpAny_Tuple_spliced (Ay (h pos zc s σ H _ I hq) λus s1 ⟨xs,H1,I1,r,z,q⟩=>⟨by rw[<-r.length];exact z, ?_⟩);have hf:H1 s1.heap.objs.size=none:=I1.aJ.fresh (B6 _);refine⟨.ref s1.heap.objs.size,upd H1 s1.heap.objs.size (.tup xs),I1.laid (t':=s1.toks) (λb u e=>A4 _ e) (B6 _) ?_,rfl,q _ hf⟩;exact⟨z,us,r,⟨_,C1 _ rfl,rfl,_,rfl⟩⟩
def vX(h:PA X es t):PE X (.List es pos) (Pq t):=by
 intro zc s σ H Q I hq;refine wpAny_List_spliced (Ay (h pos zc s σ H _ I hq) λus s1 ⟨xs,H1,I1,r,z,q⟩=>⟨by rw[<-r.length];exact z, ?_⟩);have hf:H1 s1.heap.objs.size=none:=I1.aJ.fresh (B6 _);refine⟨.ref s1.heap.objs.size,upd H1 s1.heap.objs.size (.lst xs),I1.laid (t':=s1.toks) (λb u e=>A4 _ e) (B6 _) ?_,rfl,q _ hf⟩;exact⟨z,us,0,r,C1 _ rfl⟩
end
abbrev Sp:=List V->Hp->VK->XK->Prop
abbrev qf:=List Env->Hp->Shared->XK->Value->Shared->Prop
structure dG(P:Program)(w:World)(K:Frag)(mg:AB)(base:Heap)(A:Around)(outer:List Env)(s:Shared)(H:Hp):Prop where
 frames:A.frames=some outer
 mod:Mod K mg base
 bs:∀b o,base.get? b=some o->s.heap.get? b=some o/\H b=none
 iU:base.objs.size<=s.heap.objs.size
 cB:s.heap.FunFrames base outer
 kR:∀b∈gA outer,H b=none
 aJ:cP P w H s.heap
 bare:AllBare s.gens
def CE(outer:List Env)(P:Program)(w:World)(H:Hp)(s:Shared)(Q:VK)(u:Value)(s':Shared):Prop:=
 ∃v H',s'.os=s.os/\AllBare s'.gens/\Un (gA outer) [] H H' s.heap s'.heap/\cP P w H' s'.heap/\RelV v u/\Q v H'
def CR(CX:qf)(outer:List Env)(P:Program)(w:World)(H:Hp)(s:Shared)(Q:VK)(E:XK)(r:Result)(s':Shared):Prop:=
 match r with
 | .ok (.ret u)=>CE outer P w H s Q u s'
 | .ok _=>False
 | .error e=>CX outer H s E e s'
structure pE(P:Program)(w:World)(K:Frag)(mg:AB)(base:Heap)(CX:qf)(k:Nat)(f:Addr)(fd:FuncData)(ps:List Str)(sp:Sp):Prop where
 len:∀vs H Q E,sp vs H Q E->vs.length=ps.length
 run:∀(A:Around) (outer:List Env) (s:Shared) (H:Hp) (args:Args) (us:List Value) (vs:List V) (Q:VK) (E:XK),eM k A->dG P w K mg base A outer s H->BindsTo s fd args (ps.zip us)->Vals vs us->sp vs H Q E->
  codeAny (model P w) A (.call (.ref f) args) (CR CX outer P w H s Q E) s
def dG.make{P:Program}{w:World}{K:Frag}{mg:AB}{base:Heap}{A:Around}{outer:List Env}{s:Shared}{H:Hp}(e:dG P w K mg base A outer s H)(C:Addr)(us:List Value)(kw:List (Str×Value)):
  dG P w K mg base (A.under (.builtin "type.__call__" ⟨.ref C::us,kw⟩)) outer s H:=⟨by first|exact e.frames|(simpa[Around.under,Code.envs,Code.isFrame,pushEnvs] using e.frames),e.mod,e.bs,e.iU,e.cB,e.kR,e.aJ,e.bare⟩
theorem dG.in1{P:Program}{w:World}{K:Frag}{mg:AB}{base:Heap}{A:Around}{outer:List Env}{s:Shared}{H:Hp}(e:dG P w K mg base A outer s H):
  dG P w K mg base A.in1 outer s H:=⟨e.frames,e.mod,e.bs,e.iU,e.cB,e.kR,e.aJ,e.bare⟩
section
variable{X:Cx}{zc:AE}{σ:St}{H:Hp}{s s':Shared}
def Inv.vq(I:Inv X zc σ H s):dG X.prog X.w X.K X.mg X.base X.A X.stack s H:=
 ⟨I.ok.frames,I.ok.mod,I.bs,D4 I.ok.iU I.sz,I.stack,I.dX,I.aJ,I.bare⟩
def Inv.after{Q:VK}{u:Value}(I:Inv X zc σ H s)(h:CE X.stack X.prog X.w H s Q u s'):EP X zc σ Q u s':=by
 obtain⟨v,H',os,bare,un,aJ,r,q⟩:=h;obtain⟨hh,g,d,t,os'⟩:=s';obtain rfl:os'=s.os:=os;exact⟨v,H',I.call (h':=hh) (g':=g) (d':=d) (t':=t) (ch:=[]) un aJ bare (λb z=>absurd z (by simp)),r,q⟩
end
def Binds(K:Frag)(fd:FuncData)(ps:List Str)(ds:List Value):Prop:=
 ∀(s:Shared) (us:List Value),K.In s.heap->(us ++ ds).length=ps.length->BindsTo s fd ⟨us,[]⟩ (ps.zip (us ++ ds))
def Binds.all{K:Frag}{fd:FuncData}{ps:List Str}(h:∀us:List Value,us.length=ps.length->bindArgs fd ⟨us,[]⟩=pure (ps.zip us)):Binds K fd ps []:=λs us _ hl=>by
 rw[E4]at hl⊢;exact .of_eq (h us hl)
section
variable{X:Cx}{CX:qf}{k:Nat}{f C:Addr}{fd:FuncData}{ps:List Str}{sp:Sp}{dvs:List V}{ds:List Value}{E:XK}{x m:Str}{p pos zf:Pos}{e o:Expr}{es:List Expr}{ta:TE}{t:TA}
structure Mk(K:Frag)(C f:Addr):Prop where
 makes:makesIn K C=true
 init:findIn K (.ref C) "__init__" =some (some (.ref f))
 fn:isFn K (.ref f)=true
 kp:keepIn K (.ref C)=true
end
section
variable{X:Cx}{CX:qf}{k:Nat}{f C:Addr}{fd:FuncData}{ps ks:List Str}{sp:Sp}{E:XK}{x m:Str}{p pos zf gq:Pos}{e o:Expr}{es:List Expr}{kws:List Keyword}{te ta:TE}{t tk:TA}{nm:Option Str}
structure aaA(K:Frag)(fd:FuncData)(ps ks:List Str)(g:List Value->List Value->List Value)(gV:List V->List V->List V):Prop where
 to:∀(s:Shared) (us ws:List Value),K.In s.heap->(g us ws).length=ps.length->BindsTo s fd ⟨us,ks.zip ws⟩ (ps.zip (g us ws))
 rel:∀{vs:List V} {us:List Value} {zs:List V} {ws:List Value},Vals vs us->Vals zs ws->Vals (gV vs zs) (g us ws)
variable{g:List Value->List Value->List Value}{gV:List V->List V->List V}
end
structure aV(N P:List Str)(sc:Scope):Prop where
 kind:sc.kind=.function
 co:sc.isCoroutine=false
 gen:sc.isGenerator=false
 nd:N.Nodup
 pre:N.take P.length=P
 par:∀x∈P,sc.names.lookup x=some .local\/sc.names.lookup x=some .cell
 ym:∀y∈sc.names,y.2≠ .free
theorem Jy{kindOf:Str->Option NameKind}{x:Str}:∀{binds:List (Str×Value)} {m:AB},(∀v,(x,v)∉binds)->bindL kindOf binds m x=m x
 | [],_,_=>rfl
 |(n,v)::r,m,h=>by
  unfold bindL;rw[Jy λw hw=>h w (B9 _ hw)]
  split
  ·have:x≠n:=by rintro rfl;exact h v C8
   simp[this]
  ·rfl
theorem Jx{kindOf:Str->Option NameKind}{x:Str}:∀{binds:List (Str×Value)} {m:AB},(∀v,(x,v)∉binds)->bindC kindOf binds m x=m x
 | [],_,_=>rfl
 |(n,v)::r,m,h=>by
  unfold bindC;rw[Jx λw hw=>h w (B9 _ hw)]
  split
  ·rfl
  ·have:x≠n:=by rintro rfl;exact h v C8
   simp[this]
theorem Jw{kindOf:Str->Option NameKind}{x:Str}{v:Value}:∀{P:List Str} {vs:List Value} {i:Nat} {m:AB},P.Nodup->P[i]? =some x->vs[i]? =some v->kindOf x=some .local->
  bindL kindOf (P.zip vs) m x=some v
 | [],_,_,_,_,h,_,_=>by simp at h
 |_::_,[],_,_,_,_,h,_=>by simp at h
 |p::P,w::vs,0,m,nd,h1,h2,hk=>by
  simp at h1 h2;subst h1;subst h2;show bindL kindOf ((p,w)::P.zip vs) m p=_;unfold bindL;rw[Jy λv hv=>(K9.mp nd).1 (X7 hv).1,if_pos hk];simp
 |p::P,w::vs,i + 1,m,nd,h1,h2,hk=>by
  show bindL kindOf ((p,w)::P.zip vs) m x=_;unfold bindL;exact Jw (i:=i) (K9.mp nd).2 (by simpa using h1) (by simpa using h2) hk
theorem Jv{kindOf:Str->Option NameKind}{x:Str}{v:Value}:∀{P:List Str} {vs:List Value} {i:Nat} {m:AB},P.Nodup->P[i]? =some x->vs[i]? =some v->kindOf x≠some .local->
  bindC kindOf (P.zip vs) m x=some v
 | [],_,_,_,_,h,_,_=>by simp at h
 |_::_,[],_,_,_,_,h,_=>by simp at h
 |p::P,w::vs,0,m,nd,h1,h2,hk=>by
  simp at h1 h2;subst h1;subst h2;show bindC kindOf ((p,w)::P.zip vs) m p=_;unfold bindC;rw[Jx λv hv=>(K9.mp nd).1 (X7 hv).1,if_neg hk];simp
 |p::P,w::vs,i + 1,m,nd,h1,h2,hk=>by
  show bindC kindOf ((p,w)::P.zip vs) m x=_;unfold bindC;exact Jv (i:=i) (K9.mp nd).2 (by simpa using h1) (by simpa using h2) hk
noncomputable def start(N:List Str)(vs:List V):St:=vs.map some ++ List.replicate (N.length - vs.length) none
noncomputable def Ff(CX:qf)(P:Program)(w:World)(K:Frag)(mg:AB)(base:Heap)(N:List Str)(qual:Str)(scope:Scope)(f:Addr)(cd:Value)(A:Around)(outer:List Env)(s:Shared)(H:Hp)(E:XK):Cx where
 prog:=P
 w:=w
 K:=K
 mg:=mg
 base:=base
 A:=A.deeper (envOfC qual scope s.heap.objs.size f cd)
 N:=N
 s₀:=s
 H₀:=H
 env:=envOfC qual scope s.heap.objs.size f cd
 outer:=outer
 stack:=envOfC qual scope s.heap.objs.size f cd::outer
 ex:=[]
 calm:=true
 fn:=λ_=>true
 pn:=[]
 xe:=λe s'=>wpAny (model P w) (A.deeper (envOfC qual scope s.heap.objs.size f cd)) (leaving (envOfC qual scope s.heap.objs.size f cd) e) (λ_ qk=>CX outer H s E e qk) (λe' qk=>CX outer H s E e' qk) s'
def IG{sc:Scope}{n:Nat}{x:Str}(h:sc.names.lookup x=some .cell):∃c,(cellsFrom n sc.names []).lookup x=some c:=by
 have q:=ZC9 sc.names n [] (.inl h);exact M7.mp q
def XG{CX:qf}{P:Program}{w:World}{K:Frag}{mg:AB}{base:Heap}{N ps:List Str}{qual:Str}{scope:Scope}{f:Addr}{cd:Value}{A:Around}{outer:List Env}{s s1:Shared}{H:Hp}{E:XK}{us:List Value}{vs:List V}
  (S:aV N ps scope) (hd:A.handled=none) (e0:dG P w K mg base A outer s H) (hl:vs.length=ps.length) (r:Vals vs us)
  (x:InCallC s s.heap.objs.size (bindL (envOfC qual scope s.heap.objs.size f cd).kindOf (ps.zip us) λ_=>none) (cellsFrom (s.heap.objs.size + 1) scope.names []) (bindC (envOfC qual scope s.heap.objs.size f cd).kindOf (ps.zip us) λ_=>none) s1):
  Inv (Ff CX P w K mg base N qual scope f cd A outer s H E) [] (start N vs) H s1:=by
 have bZ:ps.length<=N.length:=by have:=K4 List.length S.pre;rw[W6]at this;lia
 obtain⟨h1,tk,rfl,hk⟩:=x.done;have AQ:∀b:Addr,b∉(Ff CX P w K mg base N qual scope f cd A outer s H E).ex:=λb z=>absurd (show b∈([]:List Addr) from z) (by simp);refine⟨⟨e0.mod,S.kind,rfl,rfl,B6 _,λy z c h1 h2=> ?_,λy hy=> ?_,λy c _ h=> ?_,λ_=>hd,Around.frames_deeper e0.frames,.inr ⟨rfl,rfl⟩,λb z=>absurd z (AQ b),e0.bs,e0.iU,λb _ _=>AQ b,λb z=>absurd z (AQ b),e0.cB,e0.kR⟩,
  rfl,e0.bare,Un.kept hk,⟨_,x.toInCall.ns,λi y v h1 h2 h3=> ?_⟩,λy c h=>⟨_,x.cell y c h⟩,e0.aJ.fresh (B6 _),λy c h=> ?_,λp hp=>absurd (show p∈([]:AE) from hp) (by simp),e0.aJ.kept hk, ?_⟩
 ·exact name_of_addr x.apart (O8 h1) (O8 h2)
 ·have hy:scope.names.lookup y=some .cell\/scope.names.lookup y=some .free:=hy;rcases hy with hy|hy
  ·exact IG hy
  ·exact absurd rfl (S.ym _ (O8 hy))
 ·exact Q2 (x.above y c (O8 h))
 ·have hi:i < vs.length:=by
   unfold start at h2
   by_cases hi:i < vs.length
   ·exact hi
   ·rw[K7 (by simpa using hi)]at h2;rw[L5]at h2
    split at h2 <;> cases h2
  have ha:vs[i]? =some v:=by
   unfold start at h2;rw[E9 (by simpa using hi),A9]at h2;cases e:vs[i]? with
   |none=>rw[e]at h2;cases h2
   |some a=>rw[e]at h2;cases h2;rfl
  obtain⟨u,hu,rv⟩:=r.get ha;have hp:ps[i]? =some y:=by
   rw[<-S.pre,List.getElem?_take_of_lt ()];exact h1
  have ndP:ps.Nodup:=by rw[<-S.pre];exact S.nd.sublist (List.take_sublist _ _)
  refine⟨u,rv, ?_⟩;rcases S.par y (J8 hp) with k|k
  ·exact .inl ⟨k,Jw ndP hp hu k⟩
  ·obtain⟨c,e⟩:=IG (n:=s.heap.objs.size + 1) k;refine .inr ⟨.inl k,c,e, ?_⟩;have q:=x.cell y c e;rw[Jv ndP hp hu (by show scope.names.lookup y≠_;rw[k];decide)]at q;exact q
 ·exact e0.aJ.fresh (Q2 (x.above y c (O8 h)))
 ·unfold start;show _=N.length;rw[B8,A3,M5];lia
section
variable{X:Cx}{x:Str}{p pos:Pos}{e:Expr}{es:List Expr}{t:TA}{id T:String}{r:List V->Hp->VK->Prop}
def Nj(r:List V->Hp->VK->Prop)(t:TA):TE:=λ σ H Q=>t σ H λvs H1=>r vs H1 Q
def IF(hc:bR X (.builtin id) r)(hg:Gl X x)(hm:X.mg x=none)(hv:bootBuiltins x=some (.builtin id))(ha:PA X (e::es) t)(hn:x≠ "__name__" :=by decide)(cW:AG x:=by decide)
  (he:starEach (e::es) X.env=(false,eval e X.env)::starEach es X.env:=by rfl) (bZ:(backTo pos (starEach es X.env)).any (·.1)=false:=by rfl):PE X (.Call (.Name x p) (e::es) [] pos) (Nj r t):=by
 intro zc s σ H Q I h;refine N0 (fU I hg hm hv ?_ hn cW);exact W7 (Ay (ha pos zc s σ H _ I h) λus s1 ⟨vs,H1,I1,r1,q1⟩=>hc zc s1 σ H1 vs us Q I1 r1 q1) he bZ
def XF(hc:bR X (.type T) r)(hg:Gl X x)(hm:X.mg x=none)(hv:bootBuiltins x=some (.type T))(ha:PA X (e::es) t)(hn:x≠ "__name__" :=by decide)(cW:AG x:=by decide)
  (he:starEach (e::es) X.env=(false,eval e X.env)::starEach es X.env:=by rfl) (bZ:(backTo pos (starEach es X.env)).any (·.1)=false:=by rfl):PE X (.Call (.Name x p) (e::es) [] pos) (Nj r t):=by
 intro zc s σ H Q I h;refine N0 (fU I hg hm hv ?_ hn cW);exact N4 (Ay (ha pos zc s σ H _ I h) λus s1 ⟨vs,H1,I1,r1,q1⟩=>hc zc s1 σ H1 vs us Q I1 r1 q1) he bZ
end
end L2
namespace HT
open PySem PyProof.Rows
section
open PySem.SeqAt
open PySem.AutoSeq1 (wpAny_loadPart')
open PySem.MeetsSeq PySem.MeetsSeq2 PySem.MeetsSeq3
end
section
variable{prog:Program}{w:World}{A:Around}{E:AA}{s:Shared}
noncomputable def Nq(n d:Nat):Option Int->Nat
 |none=>d
 |some v=>if v < 0 then(v + (n:Int)).toNat else min v.toNat n
end
end HT
namespace L2
open PySem PySem.Spec PyProof.Rows
abbrev TO:=St->Hp->(Option Int->Hp->Prop)->Prop
section
variable{X:Cx}{e:Expr}{te:TE}{lo hi:Option Expr}{tl th:TO}{pos p2:Pos}
def MO(X:Cx)(r:V->Option Int->Option Int->Hp->VK->Prop):Prop:=
 ∀(zc:AE) (s:Shared) (σ:St) (H:Hp) (x:V) (v vl vu:Value) (lo hi:Option Int) (sl:Addr) (Q:VK),Inv X zc σ H s->RelV x v->s.heap.IsSliceOf sl vl vu .none->IsPart vl lo->IsPart vu hi->r x lo hi H Q->
  ∃T id,typeLookup (.type T) "__getitem__" =pure (some (.builtin id))/\s.TypeIs v T/\wpAny (model X.prog X.w) X.A (getItem v (.ref sl)) (EP X zc σ Q) X.xe s
def MO.or{r r':V->Option Int->Option Int->Hp->VK->Prop}(h:MO X r)(h':MO X r'):MO X (λx lo hi H Q=>r x lo hi H Q\/r' x lo hi H Q):=by
 intro zc s σ H x v vl vu lo hi sl Q I rx hs pl pu q;rcases q with q|q
 ·exact h zc s σ H x v vl vu lo hi sl Q I rx hs pl pu q
 ·exact h' zc s σ H x v vl vu lo hi sl Q I rx hs pl pu q
end
noncomputable def tQ(n:Nat)(i:Int):Option Nat:=if 0<=i then(if i < n then some i.toNat else none) else if -(n:Int)<=i then some (i + n).toNat else none
def dM{α:Type}(xs:List α)(i:Int):Option α:=(tQ xs.length i).bind λj=>xs[j]?
def UG{n:Nat}{i:Int}{j:Nat}(h:tQ n i=some j):seqIndex? i n=some j/\j < n/\ -(n:Int)<=i/\i < n:=by
 unfold tQ at h
 by_cases h0:0<=i
 ·rw[if_pos h0]at h
  by_cases h1:i < n
  ·rw[if_pos h1]at h;have e:i.toNat=j:=K1 h;exact⟨by rw[seqIndex_of h0 h1,e],by lia,by lia,h1⟩
  ·rw[if_neg h1]at h;cases h
 ·rw[if_neg h0]at h
  by_cases h1: -(n:Int)<=i
  ·rw[if_pos h1]at h;have e:(i + n).toNat=j:=K1 h;exact⟨by rw[seqIndex_neg () h1,e],by lia,h1,by lia⟩
  ·rw[if_neg h1]at h;cases h
def wM{α:Type}{xs:List α}{i:Int}{v:α}(h:dM xs i=some v):∃j,seqIndex? i xs.length=some j/\xs[j]? =some v/\j < xs.length/\ -(xs.length:Int)<=i/\i < xs.length:=by
 unfold dM at h;cases e:tQ xs.length i with
 |none=>rw[e]at h;cases h
 |some j=>
  rw[e]at h;obtain⟨h1,h2,h3,h4⟩:=UG e;exact⟨j,h1,h,h2,h3,h4⟩
def Hy(b:Expr):Prop:=∀o i,subscripted b false o i=operate [o,i] (getItem o i)
def qI(X:Cx)(r:R2):Prop:=
 ∀(value slice:Expr) (zc:AE) (s:Shared) (σ:St) (H:Hp) (x y:V) (v u:Value) (Q:VK),Inv X zc σ H s->RelV x v->RelV y u->r x y H Q->
  subscripted slice false v u=operate [v,u] (getItem v u)->wpAny (model X.prog X.w) X.A (subscriptTail value slice v u) (EP X zc σ Q) X.xe s
def zD(X:Cx)(id:String)(r:V->List V->Hp->VK->Prop):Prop:=
 ∀(zc:AE) (s:Shared) (σ:St) (H:Hp) (x:V) (xs:List V) (v:Value) (us:List Value) (Q:VK),Inv X zc σ H s->RelV x v->Vals xs us->r x xs H Q->
  wpAny (model X.prog X.w) X.A (call (.builtin id) (v::us)) (EP X zc σ Q) X.xe s
section
variable{X:Cx}{a b:Expr}{ta tb:TE}{pos:Pos}
def qI.or{r r':R2}(h:qI X r)(h':qI X r'):qI X (λx y H Q=>r x y H Q\/r' x y H Q):=by
 intro value slice zc s σ H x y v u Q I rx ry q hs;rcases q with q|q
 ·exact h value slice zc s σ H x y v u Q I rx ry q hs
 ·exact h' value slice zc s σ H x y v u Q I rx ry q hs
def zD.or{id:String}{r r':V->List V->Hp->VK->Prop}(h:zD X id r)(h':zD X id r'):zD X id (λx xs H Q=>r x xs H Q\/r' x xs H Q):=by
 intro zc s σ H x xs v us Q I rx rs q;rcases q with q|q
 ·exact h zc s σ H x xs v us Q I rx rs q
 ·exact h' zc s σ H x xs v us Q I rx rs q
def QK{r:R2}(hr:qI X r)(ha:PE X a ta)(hb:PE X b tb)(hs:Hy b):PE X (.Subscript a b pos) (zV r ta tb):=by
 intro zc s σ H Q I h;exact Subscript_ (wQ ha hb I h λv u s2 x y H2 I2 rx ry q=>hr a b zc s2 σ H2 x y v u Q I2 rx ry q (hs _ _))
def PD(K:Frag):R2:=λx y H Q=>∃p xs i v,x=.ref p/\y=.int i/\cF K H p xs/\dM xs i=some v/\Q v H
def PB(K:Frag):R2:=λx y H Q=>∃p xs i v,x=.ref p/\y=.int i/\dD K H p xs/\dM xs i=some v/\Q v H
def PC:R2:=λx y H Q=>∃z i c,x=.str z/\y=.int i/\z.length<=sizeLine/\dM z.cps.toList i=some c/\Q (.str ⟨#[c]⟩) H
def UE:qI X (PD X.K):=by
 intro value slice zc s σ H x y v u Q I rx ry h hs;obtain⟨p,xs,i,z,rfl,rfl,hq,he,q⟩:=h;cases rx;obtain⟨t,rfl⟩:=ry;obtain⟨its,r,pl,hz⟩:=I.list hq;obtain⟨j,h1,h2,h3,h4,h5⟩:=wM he;obtain⟨w,ew,gJ⟩:=r.get h2;have hl:=r.length;have hn:=lV;have fin:EP X zc σ Q w s:=⟨z,H,I,gJ,q⟩
 by_cases h0:0<=i
 ·have hj:i.toNat=j:=by
   rw[seqIndex_of h0 h5]at h1;exact K1 h1
  exact item_listR pl.isList h0 () (by rw[hj];simpa using ew) fin hs
 ·have hj:(i + (its.toArray.size:Int)).toNat=j:=by
   rw[seqIndex_neg () h4]at h1;rw[D6,<-hl];exact K1 h1
  exact ZB7 (x:=w) pl.isList.typeIs slot_list_getitem.lookup
   (wpAny_getItem_list_neg (Q:=λr s'=>r=w/\EP X zc σ Q r s') pl.isList () (by rw[D6] <;> lia) () (by rw[hj];simpa using ew) ⟨rfl,fin⟩) hs
def RV:qI X (PB X.K):=by
 intro value slice zc s σ H x y v u Q I rx ry h hs;obtain⟨p,xs,i,z,rfl,rfl,hq,he,q⟩:=h;cases rx;obtain⟨t,rfl⟩:=ry;obtain⟨its,r,pl,hz⟩:=I.tuple hq;obtain⟨j,h1,h2,h3,h4,h5⟩:=wM he;obtain⟨w,ew,gJ⟩:=r.get h2;have hl:=r.length;have hn:=lV;have fin:EP X zc σ Q w s:=⟨z,H,I,gJ,q⟩;exact ZB7 (x:=w) pl.typeIs slot_tuple_getitem.lookup
  (getItem_tuple (j:=j) (Q:=λr s'=>r=w/\EP X zc σ Q r s') pl () () (by rw[D6,<-hl];exact h1) (by simpa using ew) ⟨rfl,fin⟩) hs
def RU:qI X PC:=by
 intro value slice zc s σ H x y v u Q I rx ry h hs;obtain⟨z,i,c,rfl,rfl,hz,he,q⟩:=h;obtain⟨t,rfl⟩:=rx;obtain⟨t',rfl⟩:=ry;obtain⟨j,h1,h2,h3,h4,h5⟩:=wM he;have hl:z.cps.toList.length=z.length:=by simp[Str.length]
 rw[hl]at h1 h4 h5;have hn:=lV;exact tail_any (typeIs_str s z t) slot_str_getitem.lookup (getItem_str (c:=c) (by
  have e1:decide (i < -(2 ^ 63:Int))=false:=C5 ();have e2:decide (i≥2 ^ 63)=false:=C5 ();rw[e1,e2,Bool.or_false]) (by rw[h1];simpa using h2) ⟨.str ⟨#[c]⟩,H,I.tok _,⟨_,rfl⟩,q⟩) hs
theorem Inv.lst{zc:AE}{σ:St}{H:Hp}{s:Shared}{p:Addr}{xs:List V}(I:Inv X zc σ H s)(h:H p=some (.lst xs)):
  ∃(its:List Value) (n:Nat),Vals xs its/\s.heap.get? p=some {cls:=.type "list",data:=.seq its.toArray n}/\xs.length<=sizeLine:=by
 obtain⟨z,its,n,r,e⟩:=I.aJ p _ h;exact⟨its,n,r,e,z⟩
noncomputable def Gk:V->Bool
 | .aK=>true
 | .bl _=>true
 | .int _=>true
 | .str _=>true
 |_=>false
def qC:V->V->Bool
 | .aK,.aK=>true
 | .bl a,.bl b=>a ==b
 | .bl a,.int b=>(if a then 1 else 0) ==b
 | .int a,.bl b=>a ==(if b then 1 else 0)
 | .int a,.int b=>a ==b
 | .str a,.str b=>a ==b
 |_,_=>false
def RT{A:Around}{s:Shared}{y x:V}{u v:Value}(ry:RelV y u)(rx:RelV x v)(fy:Gk y=true)(fx:Gk x=true):SeqAt.EqAt A s u v (qC y x):=by
 cases y with
 |aK=>
  cases ry;cases x with
  |aK=>cases rx;exact SeqAt.EqAt.same _
  |bl b=>cases rx;exact SeqAt.EqAt.none_bool b
  |int b=>obtain⟨t,rfl⟩:=rx;exact SeqAt.EqAt.none_int b t
  |str b=>obtain⟨t,rfl⟩:=rx;exact SeqAt.EqAt.none_str b t
  |_=>exact absurd (show false=true from fx) A7
 |bl a=>
  cases ry;cases x with
  |aK=>cases rx;exact SeqAt.EqAt.bool_none a
  |bl b=>cases rx;exact SeqAt.EqAt.bool_bool a b
  |int b=>obtain⟨t,rfl⟩:=rx;exact SeqAt.EqAt.bool_int a b t
  |str b=>obtain⟨t,rfl⟩:=rx;exact SeqAt.EqAt.bool_str a b t
  |_=>exact absurd (show false=true from fx) A7
 |int a=>
  obtain⟨t',rfl⟩:=ry;cases x with
  |aK=>cases rx;exact SeqAt.EqAt.int_none a t'
  |bl b=>cases rx;exact SeqAt.EqAt.int_bool a t' b
  |int b=>obtain⟨t,rfl⟩:=rx;exact SeqAt.EqAt.int_int a t' b t
  |str b=>obtain⟨t,rfl⟩:=rx;exact SeqAt.EqAt.int_str a t' b t
  |_=>exact absurd (show false=true from fx) A7
 |str a=>
  obtain⟨t',rfl⟩:=ry;cases x with
  |aK=>cases rx;exact SeqAt.EqAt.str_none a t'
  |bl b=>cases rx;exact SeqAt.EqAt.str_bool a t' b
  |int b=>obtain⟨t,rfl⟩:=rx;exact SeqAt.EqAt.str_int a t' b t
  |str b=>obtain⟨t,rfl⟩:=rx;exact SeqAt.EqAt.str_str a t' b t
  |_=>exact absurd (show false=true from fx) A7
 |_=>exact absurd (show false=true from fy) A7
def jj(x:V)(u:Value):Bool:=match u with
 | .none=>qC .aK x
 | .bool b=>qC (.bl b) x
 | .int i _=>qC (.int i) x
 | .str z _=>qC (.str z) x
 |_=>false
def FF{x y:V}{u:Value}(r:RelV y u)(f:Gk y=true):jj x u=qC y x:=by
 cases y with
 |aK=>cases r;rfl
 |bl b=>cases r;rfl
 |int i=>obtain⟨t,rfl⟩:=r;rfl
 |str z=>obtain⟨t,rfl⟩:=r;rfl
 |_=>exact absurd (show false=true from f) A7
theorem oX{x:V}:∀{xs:List V} {us:List Value},Vals xs us->xs.all Gk=true->us.any (jj x)=xs.any λy=>qC y x
 |_,_,.nil,_=>rfl
 |y::xs,u::us,.cons r t,f=>by
  rw[P7,D5]at f;rw[P0,P0,FF r f.1,oX t f.2]
theorem px{A:Around}{s:Shared}{x:V}{v:Value}(rx:RelV x v)(fx:Gk x=true):∀{xs:List V} {us:List Value},Vals xs us->xs.all Gk=true->∀u∈us,SeqAt.EqAt A s u v (jj x u)
 |_,_,.nil,_=>λu hu=>by cases hu
 |y::xs,u::us,.cons r t,f=>λu' hu=>by
  rw[P7,D5]at f;rcases C7.mp hu with rfl|hu
  ·rw[FF r f.1];exact RT r rx f.1 fx
  ·exact px rx fx t f.2 u' hu
def Mg(x:V)(xs:List V):Bool:=xs.any λy=>qC y x
def Nt(K:Frag)(neg:Bool):R2:=λx y H Q=>∃p xs,y=.ref p/\(cF K H p xs\/dD K H p xs)/\Gk x=true/\xs.all Gk=true/\Q (.bl (if neg then !Mg x xs else Mg x xs)) H
def XD:cH X (compareOp .In) (Nt X.K false):=by
 intro zc s σ H x y v u Q I rx ry h;obtain⟨p,xs,rfl,hq,fx,fs,q⟩:=h;cases ry;rcases hq with hq|hq
 ·obtain⟨its,r,pl,hz⟩:=I.list hq;refine SeqAt.in_listAt (jj x) pl.isList (λw hw=>px rx fx r fs w (by simpa using hw)) ⟨.bl _,H,I,rfl, ?_⟩;rw[show its.toArray.any (jj x)=its.any (jj x) by simp,oX r fs];exact q
 ·obtain⟨its,r,pl,hz⟩:=I.tuple hq;refine SeqAt.in_tupleAt (jj x) pl (λw hw=>px rx fx r fs w (by simpa using hw)) ⟨.bl _,H,I,rfl, ?_⟩;rw[show its.toArray.any (jj x)=its.any (jj x) by simp,oX r fs];exact q
def ZI:cH X (compareOp .NotIn) (Nt X.K true):=by
 intro zc s σ H x y v u Q I rx ry h;obtain⟨p,xs,rfl,hq,fx,fs,q⟩:=h;cases ry;rcases hq with hq|hq
 ·obtain⟨its,r,pl,hz⟩:=I.list hq;refine SeqAt.notIn_listAt (jj x) pl.isList (λw hw=>px rx fx r fs w (by simpa using hw)) ⟨.bl _,H,I,rfl, ?_⟩;rw[show its.toArray.any (jj x)=its.any (jj x) by simp,oX r fs];exact q
 ·obtain⟨its,r,pl,hz⟩:=I.tuple hq;refine SeqAt.notIn_tupleAt (jj x) pl (λw hw=>px rx fx r fs w (by simpa using hw)) ⟨.bl _,H,I,rfl, ?_⟩;rw[show its.toArray.any (jj x)=its.any (jj x) by simp,oX r fs];exact q
def ZH:cH X (compareOp .NotIn) (λx y H Q=>∃i j,x=.str i/\y=.str j/\Q (.bl (!(!(Builtin.Str.occurrences j i 0 j.length 1).isEmpty))) H):=by
 intro zc s σ H x y v u Q I rx ry h;obtain⟨i,j,rfl,rfl,q⟩:=h;obtain⟨t,rfl⟩:=rx;obtain⟨t',rfl⟩:=ry;exact notIn_str ⟨.bl _,H,I,rfl,q⟩
def KO:bR X (.builtin "len") (λxs H Q=>∃p ys,xs= [.ref p]/\(cF X.K H p ys\/dD X.K H p ys)/\Q (.int ys.length) H):=by
 intro zc s σ H xs us Q I r h;obtain⟨p,ys,rfl,hq,q⟩:=h;obtain⟨u,rfl,rx⟩:=ri r;cases rx;have hn:=lV;rcases hq with hq|hq
 ·obtain⟨its,r',pl,hz⟩:=I.list hq;have zj:=r'.length;exact Calls.call_len_list pl.isList (by simp only[D6] <;> lia) ⟨.int ys.length,H,I.tok _,⟨s.toks + 1,by rw[D6,zj]⟩,q⟩
 ·obtain⟨its,r',pl,hz⟩:=I.tuple hq;have zj:=r'.length;exact len_tuple pl (by simp only[D6] <;> lia) ⟨.int ys.length,H,I.tok _,⟨s.toks + 1,by rw[D6,zj]⟩,q⟩
def ZG:bR X (.builtin "len") (λxs H Q=>∃z,xs= [.str z]/\z.length<=sizeLine/\Q (.int z.length) H):=by
 intro zc s σ H xs us Q I r h;obtain⟨z,rfl,hz,q⟩:=h;obtain⟨u,rfl,t,rfl⟩:=ri r;have hn:=lV;exact len_str () ⟨.int z.length,H,I.tok _,⟨_,rfl⟩,q⟩
def bR.or{f:Value}{r r':List V->Hp->VK->Prop}(h:bR X f r)(h':bR X f r'):bR X f (λxs H Q=>r xs H Q\/r' xs H Q):=by
 intro zc s σ H xs us Q I rs q;rcases q with q|q
 ·exact h zc s σ H xs us Q I rs q
 ·exact h' zc s σ H xs us Q I rs q
def KN:bR X (.type "list") (λxs H Q=>∃p ys,xs= [.ref p]/\(cF X.K H p ys\/dD X.K H p ys)/\∀l,H l=none->Q (.ref l) (upd H l (.lst ys))):=by
 intro zc s σ H xs us Q I r h;obtain⟨p,ys,rfl,hq,q⟩:=h;obtain⟨u,rfl,rx⟩:=ri r;cases rx;have fin:∀(its:List Value),Vals ys its->ys.length<=sizeLine->∀(h':Heap) (c':Nat),(∀b o',s.heap.get? b=some o'->h'.get? b=some o')->
   h'.get? s.heap.objs.size=some {cls:=.type "list",dict:=none,data:=.seq its.toArray c',slots:= #[]}->EP X zc σ Q (.ref s.heap.objs.size) {s with heap:=h'}:=λits r' hz h' c' kp e=>
  ⟨.ref s.heap.objs.size,_,I.laid (t':=s.toks) kp (B6 _) (show aP X.prog X.w _ h' _ (.lst ys) from⟨hz,its,c',r',e⟩),rfl,q _ (I.aJ.fresh (B6 _))⟩
 rcases hq with hq|hq
 ·obtain⟨its,r',pl,hz⟩:=I.list hq;have zj:=r'.length;obtain⟨o,ho,hc,n,hd⟩:=pl.isList;exact call_list_seq p (.inl rfl) ho hc hd (λh' c' kp e=>fin its r' hz h' c' kp e) (by simp only[D6] <;> lia)
 ·obtain⟨its,r',pl,hz⟩:=I.tuple hq;have zj:=r'.length;obtain⟨o,ho,hc,n,hd⟩:=pl;exact call_list_seq p (.inr rfl) ho hc hd (λh' c' kp e=>fin its r' hz h' c' kp e) (by simp only[D6] <;> lia)
def KZ:bR X (.type "tuple") (λxs H Q=>∃p ys,xs= [.ref p]/\((cF X.K H p ys/\∀l,H l=none->Q (.ref l) (upd H l (.tup ys)))\/(dD X.K H p ys/\Q (.ref p) H))):=by
 intro zc s σ H xs us Q I r h;obtain⟨p,ys,rfl,h⟩:=h;obtain⟨u,rfl,rx⟩:=ri r;cases rx;rcases h with⟨hq,q⟩|⟨hq,q⟩
 ·obtain⟨its,r',pl,hz⟩:=I.list hq;have zj:=r'.length;refine call_tuple_list pl.isList (λh' kp=> ?_) (by simp only[D6] <;> lia);have I1:Inv X zc σ H {s with heap:=h'}:=I.kept (t':=s.toks) kp;have I2:Inv X zc σ (upd H h'.objs.size (.tup ys)) {s with heap:=h'.push {cls:=.type "tuple",data:=.seq its.toArray}}:=
   I1.laid (t':=s.toks) (λb o e=>A4 _ e) (B6 _) (show aP X.prog X.w _ _ _ (.tup ys) from⟨hz,its,r',IsTup.new _ _⟩)
  exact⟨.ref h'.objs.size,_,I2,rfl,q _ (I1.aJ.fresh (B6 _))⟩
 ·obtain⟨its,r',pl,hz⟩:=I.tuple hq;exact call_tuple_same pl ⟨.ref p,H,I,rfl,q⟩
def LI(K:Frag)(T:String)(x:V)(H:Hp):Prop:=match x with
 | .str _=>T= "str"
 | .int _=>T= "int"
 | .ref p=>(T= "list" /\∃xs,cF K H p xs)\/(T= "tuple" /\∃o,K.lookup p=some o/\o.cls=.type "tuple" /\o.dict=none)\/
   (T= "dict" /\((∃kvs,H p=some (.dK kvs))\/∃kvs,H p=some (.dT kvs)))\/(T= "set" /\∃S n,H p=some (.set S n))
 |_=>False
def RS{zc:AE}{σ:St}{H:Hp}{s:Shared}{T:String}{x:V}{v:Value}(I:Inv X zc σ H s)(r:RelV x v)(ty:LI X.K T x H):
  s.TypeIs v T/\∀a,v=.ref a->∃ob,s.heap.get? a=some ob/\ob.dict=none:=by
 cases x with
 |str z=>
  obtain⟨t,rfl⟩:=r;cases(show T= "str" from ty);exact⟨typeIs_str s z t,λ_ e=>nomatch e⟩
 |int i=>
  obtain⟨t,rfl⟩:=r;cases(show T= "int" from ty);exact⟨typeIs_int s i t,λ_ e=>nomatch e⟩
 |ref p=>
  cases r;rcases ty with⟨rfl,xs,hq⟩|⟨rfl,o,hk,hc,hd⟩|⟨rfl,hk⟩|⟨rfl,S,n,hk⟩
  ·obtain⟨its,_,pl,_⟩:=I.list hq;refine⟨pl.isList.typeIs,λa e=> ?_⟩;cases e;obtain⟨o,n,e,c,hd,_⟩:=pl;exact⟨o,e,hd⟩
  ·refine⟨⟨o,I.cN p o hk,hc⟩,λa e=> ?_⟩;cases e;exact⟨o,I.cN _ o hk,hd⟩
  ·have z:∃o,s.heap.get? p=some o/\o.ExactDict:=by
    rcases hk with⟨kvs,hk⟩|⟨kvs,hk⟩
    ·obtain⟨_,_,_,_,o,_,_,e,ex,_⟩:=I.aJ p _ hk;exact⟨o,e,ex⟩
    ·obtain⟨_,_,_,_,o,_,_,e,ex,_⟩:=I.aJ p _ hk;exact⟨o,e,ex⟩
   obtain⟨o,e,ex⟩:=z;refine⟨⟨o,e,ex.1⟩,λa e2=> ?_⟩;cases e2;exact⟨o,e,ex.2.1⟩
  ·obtain⟨o,_,_,_,e,ex,_⟩:=I.aJ p _ hk;refine⟨⟨o,e,ex.1⟩,λa e2=> ?_⟩;cases e2;exact⟨o,e,ex.2.1⟩
 |_=>exact False.elim ty
def tBM(K:Frag)(T:String)(r:V->List V->Hp->VK->Prop)(to:TE)(t:TA):TE:=λ σ H Q=>to σ H λx H1=>LI K T x H1/\t σ H1 λxs H2=>r x xs H2 Q
variable{o e:Expr}{es:List Expr}{to:TE}{t:TA}{name:Str}{zf zd:Pos}{T id:String}{r:V->List V->Hp->VK->Prop}
def rh(pa:PlainAttrs T)(slot:Slot T name id)(NJ:typeOf (.builtin id)=pure (.type "method_descriptor"))(hm:zD X id r)(ho:PE X o to)(ha:PA X (e::es) t)
  (af:attributeBase o name X.env (eval o X.env)=eval o X.env:=by rfl)
  (az:((backTo zd (starEach (e::es) X.env)).all (λx=> !x.1) && (backToKw zd (keywordEach [] X.env)).all (λx=>x.1.isSome)
   && decide ((e::es).length + ([]:List Keyword).length + (if([]:List Keyword).isEmpty then 0 else 1) < 30))=true:=by rfl)
  (ae:(zf.endLine ==zd.line)=true:=by rfl) (hs:starEach (e::es) X.env=(false,eval e X.env)::starEach es X.env:=by rfl) (ag:(backTo zd (starEach es X.env)).any (·.1)=false:=by rfl):
  PE X (.Call (.Attribute o name zf) (e::es) [] zd) (tBM X.K T r to t):=by
 intro zc s σ H Q I h;refine wpAny_Call_method_late af az ae rfl (Ay (ho zc s σ H _ I h) λv s1 ⟨x,H1,I1,r1,ty,q1⟩=> ?_);obtain⟨h1,h2⟩:=RS I1 r1 ty;refine⟨T,id,pa,slot,NJ,h1,h2, ?_⟩;have hA:=ha zd zc s1 σ H1 _ I1 q1;rw[hs]at hA⊢;refine N9 (by show(false || (backTo zd (starEach es X.env)).any (·.1))=false;rw[ag] <;> rfl) (T3 ?_);exact Ay hA λus s2 ⟨vs,H2,I2,r2,q2⟩=>hm zc s2 σ H2 x vs v us Q I2 r1 r2 q2
end
def MtM(X:Cx)(id:String)(r:V->List V->Hp->VK->Prop):Prop:=
 ∀(zc:AE) (s:Shared) (σ:St) (H:Hp) (x:V) (xs:List V) (v:Value) (us:List Value) (Q:VK),Inv X zc σ H s->RelV x v->Vals xs us->r x xs H Q->
  wpAny (model X.prog X.w) X.A (call (.builtin id) (v::us)) (EP X zc σ Q) X.xe s
def Vals.one:∀{x:V} {us:List Value},Vals [x] us->∃u,us= [u]/\RelV x u
 |_,_,.cons r .nil=>⟨_,rfl,r⟩
def Vals.two{x y:V}{us:List Value}(h:Vals [x,y] us):∃u v,us= [u,v]/\RelV x u/\RelV y v:=by
 cases h with
 |cons r t=>
  cases t with
  |cons q t=>
   cases t;exact⟨_,_,rfl,r,q⟩
def Vals.zero:∀{us:List Value},Vals [] us->us= []
 |_,.nil=>rfl
theorem Vals.dropLast{xs:List V}{us:List Value}(h:Vals xs us):Vals xs.dropLast us.dropLast:=by
 induction h with
 |nil=>exact .nil
 |cons r t ih=>
  cases t with
  |nil=>exact .nil
  |cons q t'=>exact .cons r ih
theorem Vals.eraseIdx:∀{xs:List V} {us:List Value} (i:Nat),Vals xs us->Vals (xs.eraseIdx i) (us.eraseIdx i)
 |_,_,_,.nil=> .nil
 |_,_,0,.cons _ t=>t
 |_,_,i + 1,.cons r t=> .cons r (Vals.eraseIdx i t)
theorem Vals.rep{xs:List V}{us:List Value}(h:Vals xs us):∀k:Nat,Vals (List.replicate k xs).flatten (List.replicate k us).flatten
 |0=> .nil
 |k + 1=>by
  rw[L9,L9,P2,P2];exact Vals.append h (Vals.rep h k)
theorem Ju{α:Type}:∀(l:List α) (i:Nat),(l.eraseIdx i).length<=l.length
 | [],_=>B6 _
 |_::_,0=>L7 _
 |_::r,i + 1=>OU (Ju r i)
theorem Jt(its:List Value):∀(k:Nat) (zm:List Value),
  List.foldl (λx1 x2=>x1 ++ x2) zm.toArray (List.replicate k its.toArray)=(zm ++ (List.replicate k its).flatten).toArray
 |0,zm=>by simp
 |k + 1,zm=>by
  have e:zm.toArray ++ its.toArray=(zm ++ its).toArray:=by simp
  have e2:(zm ++ its) ++ (List.replicate k its).flatten=zm ++ (List.replicate (k + 1) its).flatten:=by
   rw[L9,P2,K6]
  rw[<-e2,<-Jt its k (zm ++ its),<-e,L9,OP]
section
variable{X:Cx}{zc:AE}{σ:St}{H:Hp}{s:Shared}{l b:Addr}{xs ys zs:List V}
def Inv.CW{its its':List Value}{n:Nat}{f:Array Value->Array Value}{t':Nat}(I:Inv X zc σ H s)(hH:H l=some (.lst xs))
  (e:s.heap.get? l=some {cls:=.type "list",data:=.seq its.toArray n}) (hf:f its.toArray=its'.toArray) (hv:Vals ys its') (hz:ys.length<=sizeLine):
  Inv X zc σ (upd H l (.lst ys)) {s with heap:=s.heap.update l (Obj.mapSeq f),toks:=t'}:=by
 have q:=PySem.IsL.update e f;rw[hf]at q;refine I.write (x:=l) (e:=l) (by rw[hH];exact trivial) (.inl rfl) (λb' u hb hu=>(L0 s.heap (Obj.mapSeq f) (Ne.symm hb)).trans hu) ⟨_,q⟩ ?_;exact⟨hz,its',_,hv,q⟩
def Inv.vj{its:List Value}{t':Nat}(I:Inv X zc σ H s)(hv:Vals ys its)(hz:ys.length<=sizeLine):
  Inv X zc σ (upd H s.heap.objs.size (.lst ys)) {s with heap:=s.heap.push {cls:=.type "list",data:=.seq its.toArray},toks:=t'}:=
 I.laid (λ_ _ q=>A4 _ q) (B6 _) ⟨hz,its,0,hv,C1 _ rfl⟩
theorem Inv.fresh(I:Inv X zc σ H s):H s.heap.objs.size=none:=I.aJ.fresh (B6 _)
def Inv.vi(I:Inv X zc σ H s)(hH:H l=some (.lst xs)):xs.length<=sizeLine/\∃(its:List Value) (n:Nat),Vals xs its/\xs.length=its.length/\s.heap.get? l=some {cls:=.type "list",data:=.seq its.toArray n}:=by
 obtain⟨z,its,n,r,e⟩:=I.aJ l _ hH;exact⟨z,its,n,r,r.length,e⟩
def Ws{n:Nat}(h:n<=sizeLine):Builtin.List.listTooLong n=false:=by
 unfold Builtin.List.listTooLong;exact C5 ()
end
section
variable{X:Cx}
def wL:V->List V->Hp->VK->Prop:=λx vs H Q=>∃l xs y,x=.ref l/\vs= [y]/\H l=some (.lst xs)/\xs.length < sizeLine/\Q .aK (upd H l (.lst (xs ++ [y])))
def xO:MtM X "list.append" wL:=by
 intro zc s σ H x vs v us Q I rx rv h;obtain⟨l,xs,y,rfl,rfl,hH,hz,q⟩:=h;cases rx;obtain⟨u,rfl,ru⟩:=rv.one;obtain⟨z,its,n,r,hl,e⟩:=I.vi hH;refine MH F.slot_list_append ⟨_,e,rfl⟩ F.entry_list_append (F.args_list_append_2 _ _) (PySem.list_append l its.toArray n u (by rw[D6];lia)) ⟨e, ?_⟩;refine⟨.aK,_,I.CW (its':=its ++ [u]) hH e (by simp) (r.append (.cons ru .nil)) ?_,rfl,q⟩;rw[B8,List.length_singleton];lia
def RQ:V->List V->Hp->VK->Prop:=λx vs H Q=>∃l xs i k y,x=.ref l/\vs= [.int i]/\H l=some (.lst xs)/\ -(2 ^ 63)<=i/\i < 2 ^ 63/\seqIndex? i xs.length=some k/\xs[k]? =some y/\Q y (upd H l (.lst (xs.eraseIdx k)))
def Wr:MtM X "list.pop" RQ:=by
 intro zc s σ H x vs v us Q I rx rv h;obtain⟨l,xs,i,k,y,rfl,rfl,hH,h1,h2,hk,hy,q⟩:=h;cases rx;obtain⟨u,rfl,ru⟩:=rv.one;obtain⟨t,rfl⟩:=ru;obtain⟨z,its,n,r,hl,e⟩:=I.vi hH;obtain⟨w,hw,gJ⟩:=r.get hy;refine MH F.slot_list_pop ⟨_,e,rfl⟩ F.entry_list_pop (F.args_list_pop_2 _ _)
  (MeetsSeq.list_pop_at l its.toArray n i t k w (fitsIndex_both h1 h2) (by rw[D6,<-hl];exact hk) (by rw[<-S5];exact hw) (by rw[D6];lia)) ⟨e, ?_⟩
 refine⟨y,_,I.CW (its':=its.eraseIdx k) hH e ?_ (r.eraseIdx k) ?_,gJ,q⟩
 ·show its.toArray.eraseIdxIfInBounds k=(its.eraseIdx k).toArray;rw[List.eraseIdxIfInBounds_toArray]
 ·have:=Ju xs k;lia
def Pz:R2:=λx y H Q=>∃l k xs,x=.ref l/\y=.int k/\H l=some (.lst xs)/\ -(2 ^ 63)<=k/\k < 2 ^ 63/\xs.length * k.toNat<=sizeLine/\
 ∀p,H p=none->Q (.ref p) (upd H p (.lst (List.replicate k.toNat xs).flatten))
def UD{α:Type}(xs:List α)(k:Nat):(List.replicate k xs).flatten.length=k * xs.length:=by
 induction k with
 |zero=>simp
 |succ k ih=>rw[L9,P2,B8,ih,Nat.succ_mul,Nat.add_comm]
def RP:cH X (binaryOp .Mult) Pz:=by
 intro zc s σ H x y v u Q I rx ry h;obtain⟨l,k,xs,rfl,rfl,hH,h1,h2,hz,q⟩:=h;cases rx;obtain⟨t,rfl⟩:=ry;obtain⟨z,its,n,r,hl,e⟩:=I.vi hH;have zj:its.toArray.size * k.toNat<=sizeLine:=by rw[D6,<-hl];exact hz
 have fh:¬its.toArray.size * k.toNat > (2 ^ 63 - 1) / 8:=by
  have:(sizeLine:Nat)<=(2 ^ 63 - 1) / 8:=by decide
  lia
 have dk:¬(!Builtin.List.listFitsIndex k)=true:=by
  rw[fitsIndex_both h1 h2];exact A7
 have bp:¬Builtin.List.listTooLong (its.toArray.size * k.toNat)=true:=by
  rw[Ws zj];exact A7
 have ft:List.foldl (λx1 x2=>x1 ++ x2) #[] (List.replicate (if its.toArray.isEmpty=true then 0 else k.toNat) its.toArray)=(List.replicate k.toNat its).flatten.toArray:=by
  have f0:∀m:Nat,List.foldl (λx1 x2=>x1 ++ x2) #[] (List.replicate m its.toArray)=(List.replicate m its).flatten.toArray:=λm=>by
   have:=Jt its m [];rw[R8]at this;exact this
  rw[f0];cases its with
  |nil=>simp
  |cons a r'=>rw[if_neg (by simp)]
 refine wpAny_binaryOp_repeat_ref (T:= "list") (U:= "int") ⋯ ⟨_,e,rfl⟩ (λs'=>typeIs_int s' k t) noFill_list_mul F.fills_int_mul F.slot_int_rmul repeat_list F.slot_int_index.lookup
  (MH F.slot_int_rmul (typeIs_int s k t) F.entry_int_rmul (F.args_int_rmul_2 _ _) (int___rmul___int_list k t l its.toArray n)
   ⟨e,rfl,⟨_,e,rfl⟩,MH F.slot_list_mul ⟨_,e,rfl⟩ F.entry_list_mul (F.args_list_mul_2 _ _) (AutoListH.list___mul___list_int_3 l its.toArray n k t dk fh bp) ⟨e, ?_⟩⟩)
 rw[ft];exact⟨.ref _,_,I.vj (t':=s.toks) (r.rep k.toNat) (by rw[UD,Nat.mul_comm];exact hz),rfl,q _ I.fresh⟩
end
section
variable{prog:Program}{w:World}{A:Around}{E:AA}{s:Shared}
end
section
variable{X:Cx}
end
end L2
namespace Att
open PySem PySem.W PySem.Calls PyProof.Rows
def W'{P:Params}{h:Heap}:∀(ns:List Int) (vs:List Value),WellAll P h vs (ns.map WData.int)->IntsAre vs ns:=by
 intro ns
 induction ns with
 |nil=>
  intro vs w;rw[O0]at w;cases w;exact .nil
 |cons n ns ih=>
  intro vs w;rw[B3]at w;cases w with
  |cons a b=>
   cases a;exact .cons _ _ (ih _ b)
def XA{l:OpenLaw}{n:Nat}(hn:l.most=some n){P:Params}{h:Heap}{args:List WData}{vals:List Value}
  (bj:l.row.toRowW.claim.pre args=true) (NG:WellAll P h vals args):
  ∃a vs ns,vals= [Value.ref a]/\args= [WData.list (ns.map WData.int)]/\h.get? a=some {cls:=.type "list",data:=.seq vs.toArray}/\IntsAre vs ns/\ns.length<=n:=by
 have hsh:WShape.hasAll [] args [.list .int]=true:=(pre_splitW bj).1;have hc:l.pre.holds [] {args:=args}=true:=(pre_splitW bj).2;obtain⟨d,r,rfl,h1,h2⟩:=hasAllW_cons hsh;obtain rfl:=hasAllW_nil h2;obtain⟨xs,rfl,h3⟩:=hasW_list h1;obtain⟨ns,rfl⟩:=items_int h3;have zj:ns.length<=n:=by
  unfold OpenLaw.pre at hc;have h4:(WTm.not (.lt (.lit (.int (n:Int))) (.len (.arg 0)))).holds [] {args:=[.list (ns.map .int)]}=true:=by
   have h4:=(holds_andW hc).1;rw[hn]at h4;exact h4
  have h5:=condW_of h4 (w_not (w_lt w_lit (w_len_list (w_arg rfl))));rw[A3]at h5;refine Nat.le_of_not_lt λq=> ?_;have q':(n:Int) < ((ns.length:Nat):Int):=by lia
  first
   |(rw[C9 q']at h5;exact absurd h5 ⋯)
   |(simp at h5;lia)
 cases NG with
 |cons w1 w2=>
  cases w2;cases w1 with
  |list ho bf=>exact⟨_,_,ns,rfl,rfl,ho,W' ns _ bf,zj⟩
def Xz(l:OpenLaw)(args:List WData):l.row.toRowW.claim.post args (.bool true) args=true:=
 postW_of (r:=l.row.toRowW) (X:=(true ==true))
  (show WShape.has [] (.bool true) .bool=true by first|rfl|decide|simp[WShape.has,WShape.arms,WShape.armsAll])
  (show(WTm.eq .res (.lit (.bool true))).value [] {args:=args,res:=some (.bool true),after:=args}=some (.bool (true ==true)) from w_eq_bool (w_res rfl) w_lit) rfl
def iG{l:OpenLaw}{n:Nat}{q:Program}{loose:List Str}{XP:(AB)->Heap->Prop}{YP:World->Heap->Prop}{d:DefRec}
  (hn:l.most=some n) (BG:d.params.defaults= [])
  (call:∀(w:World) (s₀ s₁:Shared) (mg mb:AB) (fa:Addr) (o:Obj) (pm cd doc:Value) (a:Addr) (vs:List Value) (ns:List Int),
   Ground q loose [] XP w s₀ mg mb s₁.heap->YP w s₁.heap->
   s₁.heap.get? fa=some o->o.data=.func (docDef d.name d.params d.body d.scope pm cd doc)->s₁.heap.CodeRec cd d.name->mg d.name=some (.ref fa)->
   s₁.heap.get? a=some {cls:=.type "list",data:=.seq vs.toArray}->IntsAre vs ns->ns.length<=n->s₁.gens= #[]->
   codeAny (model l.prog w) callerA (.call (.ref fa) ⟨[.ref a],[]⟩) (λr s'=>r=.ok (.ret (.bool true))/\OldK s₁.heap s'.heap/\s'.os=s₁.os/\AllBare s'.gens) s₁):
  WalkO q loose XP YP l.row.toRowW d [] (λf vs=>PySem.call f vs):=by
 intro w s₀ s₁ mg mb G Y fa o pm cd doc dV kV ho hd bO hD hmg hg args vals as bj aaG hrd NG hlo;obtain rfl:dV=.none:=Dflts.none hD BG;obtain rfl:kV=.none:=Dflts.noKw hD;obtain⟨a,vs,ns,rfl,rfl,bb,hints,zj⟩:=XA hn bj NG;refine enter_call (R1 (call w s₀ s₁ mg mb fa o pm cd doc a vs ns G Y ho (fd_plain hd) bO hmg bb hints zj hg) λr s' hq=> ?_);obtain⟨rfl,h2,h3,h4⟩:=hq;exact⟨.inl ⟨.bool true,.bool true,[],rfl,λ_=>rfl,.bool true,Xz l _,λ_=>⟨List.Pairwise.nil,λ_ hm=>(nomatch hm)⟩⟩,h2,h3,h4⟩
section
variable{prog:Program}{w:World}{A:Around}{E:AA}{s:Shared}{K:Frag}
end
end Att
namespace L2
open PySem PySem.Spec PyProof.Rows
theorem Js:∀{vs:List Value} {ns:List Int},IntsAre vs ns->Vals (ns.map V.int) vs
 |_,_,.nil=> .nil
 |_,_,.cons n t h=> .cons ⟨t,rfl⟩ (Js h)
def yg(H:Hp):Prop:=∀b,H b=none\/∃o xs,H b=some (.aQ o (.lst xs))
def Wq{P:Program}{w:World}{K:Frag}{mg mb:AB}{CX:qf}{k:Nat}{fa a:Addr}{fd:FuncData}{x:Str}{sp:Sp}{s₁:Shared}{vs:List Value}{ns:List Int}
  (KX:K.In s₁.heap) (NM:s₁.heap.Ns mainGlobals mg) (hb:s₁.heap.Ns builtinsNs mb) (hbb:∀x:Str,x≠ "__name__" ->mb x=bootBuiltins x) (dg:s₁.heap.NoLimit) (hg:s₁.gens= #[])
  (ha:s₁.heap.get? a=some {cls:=.type "list",data:=.seq vs.toArray}) (hi:IntsAre vs ns) (hl:ns.length<=sizeLine) (hr:eM k callerA)
  (F:∀base:Heap,K.In base->base.Ns mainGlobals mg->pE P w K mg base CX k fa fd [x] sp) (ck:∀(s:Shared) (u:Value),BindsTo s fd ⟨[u],[]⟩ [(x,u)])
  (tV:∀H:Hp,yg H->cF K H a (ns.map V.int)->sp [.ref a] H (λv _=>v=.bl true) λ_ _ _=>False)
  (NX:∀H e s',CX [] H s₁ (λ_ _ _=>False) e s'->False):
  codeAny (model P w) callerA (.call (.ref fa) ⟨[.ref a],[]⟩) (λr s'=>r=.ok (.ret (.bool true))/\OldK s₁.heap s'.heap/\s'.os=s₁.os/\AllBare s'.gens) s₁:=by
 have rv:=Js hi;have eh:=hi.length
 
 have core:∀H:Hp,yg H->cF K H a (ns.map V.int)->cP P w H s₁.heap->(∀b,H b≠none->b=a)->(H a≠none->K.lookup a=none)->
   codeAny (model P w) callerA (.call (.ref fa) ⟨[.ref a],[]⟩) (λr s'=>r=.ok (.ret (.bool true))/\OldK s₁.heap s'.heap/\s'.os=s₁.os/\AllBare s'.gens) s₁:=by
  intro H hO hS aJ hA hK;have aq:∀{b:Addr} {o:Obj},s₁.heap.get? b=some o->H b=none->(fK s₁.heap H).get? b=some o:=λe n=>WB e n;have AQ:∀{b:Addr} {o:Obj} {es:Array DictEntry} {ep:Nat},s₁.heap.get? b=some o->o.data=.dict es ep->H b=none:=λ{b o es ep} e d=>by
   cases q:H b with
   |none=>rfl
   |some u=>
    have e':b=a:=hA b (by rw[q];simp);subst e';rw[ha]at e;cases e;have d':Data.seq vs.toArray _=Data.dict es ep:=d;cases d'
  have LX:∀{b:Addr} {m:AB},s₁.heap.Ns b m->(fK s₁.heap H).Ns b m:=λ{b m} ⟨o,es,ep,e,d,r⟩=>⟨o,es,ep,aq e (AQ e d),d,r⟩;have hKb:K.In (fK s₁.heap H):=λb o e=>aq (KX b o e) (by
   cases q:H b with
   |none=>rfl
   |some u=>
    have e':b=a:=hA b (by rw[q];simp);subst e';rw[hK (by rw[q];simp)]at e;cases e)
  have hM:Mod K mg (fK s₁.heap H):=⟨hKb,LX NM,⟨mb,LX hb,hbb⟩,let⟨mc,h1,h2⟩:=dg;⟨mc,LX h1,h2⟩⟩;have e0:dG P w K mg (fK s₁.heap H) callerA [] s₁ H:=⟨rfl,hM,λb o e=>UR e,T8 (XT _ _),trivial,λb hb=>absurd (show b∈([]:List Addr) from hb) (by simp),aJ,.of_eq hg⟩;refine R1 ((F _ hKb (LX NM)).run callerA [] s₁ H ⟨[.ref a],[]⟩ [.ref a] [.ref a] _ _ hr e0 (ck s₁ (.ref a)) (.cons rfl .nil) (tV H hO hS)) λr s' h=> ?_;cases r with
  |error e=>exact(NX H e s' h).elim
  |ok fl=>
   cases fl with
   |next=>exact False.elim h
   |brk=>exact False.elim h
   |cont=>exact False.elim h
   |ret u=>
    obtain⟨v,H',os,bare,un,fm,r',q⟩:=h;have q':v=.bl true:=q;subst q';obtain rfl:u=Value.bool true:=r';refine⟨rfl,OldK.of_keep λb o e=> ?_,os,bare⟩;cases q:H b with
    |none=>exact un.keep b o e q (by intro z;exact absurd (show b∈([]:List Addr) from z) (by simp)) (by simp)
    |some u=>
     rcases hO b with z|⟨ob,xs,z⟩
     ·rw[q]at z;cases z
     ·have z2:=un.cC b ob _ z;obtain⟨e1,_⟩:=aJ b _ z;obtain⟨e2,_⟩:=fm b _ z2;rw[e]at e1;cases e1;exact e2
 cases hk:K.lookup a with
 |some o=>
  
  have e:=KX a o hk;rw[ha]at e;cases e;refine core (λ_=>none) (λ_=> .inl rfl) (.inr ⟨_,vs.toArray,_,hk,rfl,rfl,rfl,by rw[D6,eh];exact hl,by simpa using rv⟩) (λb u z=>by have z':(none:Option HO)=some u:=z;cases z') (λb z=>absurd rfl z) λz=>absurd rfl z
 |none=>
  refine core (λb=>if b=a then some (.aQ {cls:=.type "list",data:=.seq vs.toArray} (.lst (ns.map V.int))) else none) (λb=> ?_) (.inl (.inr ⟨{cls:=.type "list",data:=.seq vs.toArray},if_pos rfl⟩)) (λb u z=> ?_) (λb z=> ?_) λ_=>hk
  ·by_cases hb:b=a
   ·exact .inr ⟨_,_,if_pos hb⟩
   ·exact .inl (if_neg hb)
  ·by_cases hb:b=a
   ·have z':=(if_pos hb).symm.trans z;cases z';subst hb;exact⟨ha,by rw[A3];exact hl,vs,_,rv,ha⟩
   ·have z':=(if_neg hb).symm.trans z;cases z'
  ·by_cases hb:b=a
   ·exact hb
   ·exact absurd (if_neg hb) z
def UC{l:PySem.W.OpenLaw}{n k:Nat}{q:Program}{loose:List Str}{XP:(AB)->Heap->Prop}{YP:World->Heap->Prop}{d:DefRec}{K:Params->Frag}{CX:World->qf}{sp:World->Sp}{x:Str}
  (hn:l.most=some n) (Mj:n<=sizeLine) (BG:d.params.defaults= []) (hr:eM k callerA)
  (hY:∀(w:World) (h:Heap),YP w h->(K w.params).In h)
  (F:∀(w:World) (mg:AB) (fa:Addr) (h:Heap),(K w.params).In h->h.Ns mainGlobals mg->mg d.name=some (.ref fa)->
   ∃fd:FuncData,(∀(s:Shared) (u:Value),BindsTo s fd ⟨[u],[]⟩ [(x,u)])/\
    ∀base:Heap,(K w.params).In base->base.Ns mainGlobals mg->pE l.prog w (K w.params) mg base (CX w) k fa fd [x] (sp w))
  (tV:∀(w:World) (H:Hp) (a:Addr) (ns:List Int),ns.length<=n->yg H->cF (K w.params) H a (ns.map V.int)->sp w [.ref a] H (λv _=>v=.bl true) λ_ _ _=>False)
  (NX:∀(w:World) (H:Hp) (s:Shared) (e:Value) (s':Shared),CX w [] H s (λ_ _ _=>False) e s'->False):
  PySem.W.WalkO q loose XP YP l.row.toRowW d [] (λf vs=>PySem.call f vs):=by
 refine Att.iG hn BG λw s₀ s₁ mg mb fa o pm cd doc a vs ns G Y ho hd bO hmg bb hints zj hg=> ?_;have KX:=hY w _ Y;obtain⟨fd,hb,hF⟩:=F w mg fa _ KX G.T.g hmg;exact Wq KX G.T.g G.T.b G.T.builtins G.T.nolimit hg bb hints (D4 zj Mj) hr hF hb (λH hO hS=>tV w H a ns zj hO hS) λH e s'=>NX w H s₁ e s'
noncomputable def iR(s:Stmt):Arguments:=match s with
 | .FunctionDef _ a _ _ _ _ _ _ _ _=>a
 |_=>{posonlyargs:=[],args:=[],vararg:=none,kwonlyargs:=[],kw_defaults:=[],kwarg:=none,defaults:=[]}
def Ft(s:Stmt):List Stmt:=match s with
 | .FunctionDef _ _ b _ _ _ _ _ _ _=>b
 |_=> []
def Cc(s:Stmt):Scope:=match s with
 | .FunctionDef _ _ _ _ _ _ sc _ _ _=>sc
 |_=>{kind:=.function,names:=[],isGenerator:=false,isCoroutine:=false}
abbrev MW:qf:=λ_ _ _ _ _ _=>False
abbrev E0:XK:=λ_ _ _=>False
structure bC(K:Frag)(x qual:Str)(st:Stmt)(f:Addr)(fd:FuncData):Prop where
 ex:∃(oc:Value) (od:Option Addr) (kV doc pm:Value) (an:Option Addr) (zp ct:Value) (tE:Array (Option Value)),
  fd=fnOf x qual (iR st) (Ft st) (Cc st) .none kV doc pm an zp ct/\K.lookup f=some ⟨oc,od,.func fd,tE⟩/\codeIn K zp qual=true
 kp:keepIn K (.ref f)=true
section
variable{P:Program}{w:World}{K:Frag}{mg:AB}{base:Heap}
def bC.binds{x qual:Str}{st:Stmt}{f:Addr}{fd:FuncData}{ps:List Str}(F:bC K x qual st f fd)
  (h:∀(kV doc pm:Value) (an:Option Addr) (zp ct:Value) (us:List Value),us.length=ps.length->bindArgs (fnOf x qual (iR st) (Ft st) (Cc st) .none kV doc pm an zp ct) ⟨us,[]⟩=pure (ps.zip us)):Binds K fd ps []:=by
 obtain⟨oc,od,kV,doc,pm,an,zp,ct,tE,rfl,lk,bO⟩:=F.ex;exact .all (h kV doc pm an zp ct)
def vW{x qual:Str}{st:Stmt}{f:Addr}{oc:Value}{od an:Option Addr}{tE:Array (Option Value)}{kV doc pm zp ct:Value}(l:K.lookup f=some ⟨oc,od,.func (fnOf x qual (iR st) (Ft st) (Cc st) .none kV doc pm an zp ct),tE⟩)
  (c:codeIn K zp qual=true) (k:keepIn K (.ref f)=true):bC K x qual st f (fnOf x qual (iR st) (Ft st) (Cc st) .none kV doc pm an zp ct):=⟨⟨oc,od,kV,doc,pm,an,zp,ct,tE,rfl,l,c⟩,k⟩
end
section
variable{X:Cx}
def pv(i:Nat){x:Str}{pos:Pos}(hN:X.N[i]? =some x:=by rfl)(hv:Fm X.env.scope x:=by trivial)(hd:AG x:=by decide)
  (bO:(x ==("__classdict__" :Str))=false:=by decide):PE X (.Name x pos) (qK i):=Fd hN hv hd bO
end
def aB(H H':Hp):Prop:=∀b o,H b=some o->H' b=some o
def aB.refl(H:Hp):aB H H:=λ_ _ h=>h
def aB.trans{H H1 H2:Hp}(a:aB H H1)(b:aB H1 H2):aB H H2:=λc o h=>b c o (a c o h)
def aB.free{H H':Hp}(e:aB H H'){l:Addr}(h:H' l=Option.none):H l=Option.none:=by
 cases q:H l with
 |none=>rfl
 |some o=>
  rw[e l o q]at h;cases h
def aB.seq{K:Frag}{H H':Hp}{a:Addr}{xs:List V}(e:aB H H')(h:cF K H a xs):cF K H' a xs:=by
 rcases h with(h|⟨o,h⟩)|h
 ·exact .inl (.inl (e _ _ h))
 ·exact .inl (.inr ⟨o,e _ _ h⟩)
 ·exact .inr h
end L2
namespace L3
open PySem PySem.Spec PyProof.Rows L2
variable{K:Frag}{fd:FuncData}{mg:AB}{us:List Value}{base:Heap}{H:Hp}{X:Cx}{pos:Pos}{v:V}
abbrev Sg:=L2.St
inductive D where
 |aK|bl (b:Bool)|int (i:Int)|str (x:Str)|lst (ds:List D)|tup (ds:List D)|aE (kvs:List (Ae×D))
 |uU (c:Str) (ns:List Str) (vs:List D)|obj (c:Str) (ns:List Str) (vs:List D)
structure Xn where
 c:Str
 ns:List Str
 vs:List D
inductive R(α:Type) where
 |ok (a:α)|ex (x:Xn)|no
namespace R
noncomputable def bind{α β:Type}(r:R α)(k:α->R β):R β:=match r with
 | .ok a=>k a
 | .ex x=> .ex x
 | .no=> .no
@[simp] theorem aI{α β:Type}(a:α)(k:α->R β):(R.ok a).bind k=k a:=rfl
@[simp] theorem kB{α β:Type}(x:Xn)(k:α->R β):(R.ex x).bind k=.ex x:=rfl
@[simp] theorem ky{α β:Type}(k:α->R β):(R.no).bind k=.no:=rfl
end R
inductive Tn where
 |sh (d:D)|lst (ts:List Tn)|tup (ts:List Tn)|aE (zk:List (Ae×Tn))|obj (c:Str) (ns:List Str) (ts:List Tn)
mutual
noncomputable def Tn.d:Tn->D
 | .sh d=>d
 | .lst ts=> .lst (Tn.ds ts)
 | .tup ts=> .tup (Tn.ds ts)
 | .aE zk=> .aE (Tn.ks zk)
 | .obj c ns ts=> .obj c ns (Tn.ds ts)
noncomputable def Tn.ds:List Tn->List D
 | []=> []
 |t::ts=>t.d::Tn.ds ts
noncomputable def Tn.ks:List (Ae×Tn)->List (Ae×D)
 | []=> []
 |(k,t)::ts=>(k,t.d)::Tn.ks ts
end
noncomputable def Tn.of:D->Tn
 | .lst ds=> .lst (ds.map .sh)
 | .aE kvs=> .aE (kvs.map λp=>(p.1,.sh p.2))
 | .obj c ns vs=> .obj c ns (vs.map .sh)
 |d=> .sh d
theorem Tn.kj:∀ds:List D,Tn.ds (ds.map .sh)=ds
 | []=>rfl
 |d::ds=>by
  show(Tn.sh d).d::Tn.ds (ds.map .sh)=_;rw[Tn.kj ds];rfl
theorem Tn.ui:∀kvs:List (Ae×D),Tn.ks (kvs.map λp=>(p.1,Tn.sh p.2))=kvs
 | []=>rfl
 |(k,d)::kvs=>by
  show(k,(Tn.sh d).d)::Tn.ks (kvs.map λp=>(p.1,Tn.sh p.2))=_;rw[Tn.ui kvs];rfl
theorem Tn.pI:∀zk:List (Ae×Tn),(Tn.ks zk).map (·.1)=zk.map (·.1)
 | []=>rfl
 |(k,t)::zk=>by show k::(Tn.ks zk).map (·.1)=_;rw[Tn.pI zk];rfl
theorem Tn.pH:∀zk:List (Ae×Tn),(Tn.ks zk).map (·.2)=Tn.ds (zk.map (·.2))
 | []=>rfl
 |(k,t)::zk=>by show t.d::(Tn.ks zk).map (·.2)=_;rw[Tn.pH zk];rfl
def Tn.eI(d:D):(Tn.of d).d=d:=by
 cases d with
 |lst ds=>show D.lst (Tn.ds (ds.map .sh))=_;rw[Tn.kj]
 |aE kvs=>show D.aE (Tn.ks (kvs.map λp=>(p.1,.sh p.2)))=_;rw[Tn.ui]
 |obj c ns vs=>show D.obj c ns (Tn.ds (vs.map .sh))=_;rw[Tn.kj]
 |_=>rfl
inductive W where
 |sh (d:D)|ow (d:D)|tr (t:Tn)
def W.d:W->D
 | .sh d=>d
 | .ow d=>d
 | .tr t=>t.d
@[simp] theorem W.dQ(d:D):(W.sh d).d=d:=rfl
@[simp] theorem W.vG(d:D):(W.ow d).d=d:=rfl
@[simp] theorem W.aaI(t:Tn):(W.tr t).d=t.d:=rfl
def ClsAt(K:Frag)(c:Str)(C:Addr):Prop:=nsIn K mainGlobals c=some (some (.ref C))
noncomputable def XO(a C:Addr)(dx:Option Addr):HO:=.ext λh=>∃us sl,h.get? a=some ⟨.ref C,dx,.fields us,sl⟩/\us[2]? =some .none
mutual
inductive aM(K:Frag)(G:Hp):V->D->Prop where
 |aK:aM K G .aK .aK
 |bl (b:Bool):aM K G (.bl b) (.bl b)
 |int (i:Int):aM K G (.int i) (.int i)
 |str (x:Str):aM K G (.str x) (.str x)
 |lst {a:Addr} {vs:List V} {ds:List D} (h:cF K G a vs) (r:aC K G vs ds):aM K G (.ref a) (.lst ds)
 |tup {a:Addr} {vs:List V} {ds:List D} (h:dD K G a vs) (r:aC K G vs ds):aM K G (.ref a) (.tup ds)
 |dP {a C:Addr} {o:Obj} {c:Str} (hc:ClsAt K c C) (h:G a=some (.aQ o (XO a C none))):aM K G (.ref a) (.uU c [] [])
 |dO {a C d:Addr} {o:Obj} {c:Str} {ns:List Str} {us:List V} {vs:List D} (hc:ClsAt K c C) (h:G a=some (.aQ o (XO a C (some d)))) (hd:G d=some (.xd (ns.zip us))) (hl:ns.length=us.length) (r:aC K G us vs):aM K G (.ref a) (.uU c ns vs)
 |aE {a:Addr} {kvs:List (Ae×V)} {aA:List (Ae×D)} (h:Rd G a (.dK kvs)) (hk:kvs.map (·.1)=aA.map (·.1)) (r:aC K G (kvs.map (·.2)) (aA.map (·.2))):aM K G (.ref a) (.aE aA)
 |obj {a C dx:Addr} {c:Str} {ns:List Str} {us:List V} {vs:List D} (hc:ClsAt K c C) (h:G a=some (.ins C dx (ns.zip us))) (hl:ns.length=us.length) (r:aC K G us vs):aM K G (.ref a) (.obj c ns vs)
inductive aC(K:Frag)(G:Hp):List V->List D->Prop where
 |nil:aC K G [] []
 |cons {v:V} {d:D} {vs:List V} {ds:List D} (h:aM K G v d) (r:aC K G vs ds):aC K G (v::vs) (d::ds)
end
abbrev AS:=Addr->Prop
mutual
inductive Ow(K:Frag)(G H:Hp):V->Tn->AS->Prop where
 |sh {v:V} {d:D} {S:AS} (h:aM K G v d):Ow K G H v (.sh d) S
 |lst {a:Addr} {vs:List V} {ts:List Tn} {S S1:AS} (h:H a=some (.lst vs)) (ha:S a) (sub:∀b,S1 b->S b/\b≠a) (r:aR K G H vs ts S1):Ow K G H (.ref a) (.lst ts) S
 |tup {a:Addr} {vs:List V} {ts:List Tn} {S S1:AS} (h:H a=some (.tup vs)) (ha:S a) (sub:∀b,S1 b->S b/\b≠a) (r:aR K G H vs ts S1):Ow K G H (.ref a) (.tup ts) S
 |aE {a:Addr} {kvs:List (Ae×V)} {zk:List (Ae×Tn)} {S S1:AS} (h:H a=some (.dK kvs)) (hk:kvs.map (·.1)=zk.map (·.1)) (ha:S a) (sub:∀b,S1 b->S b/\b≠a) (r:aR K G H (kvs.map (·.2)) (zk.map (·.2)) S1):Ow K G H (.ref a) (.aE zk) S
 |obj {a C dx:Addr} {c:Str} {ns:List Str} {us:List V} {ts:List Tn} {S S1:AS} (hc:ClsAt K c C) (h:H a=some (.ins C dx (ns.zip us))) (hl:ns.length=us.length) (ha:S a) (sub:∀b,S1 b->S b/\b≠a) (r:aR K G H us ts S1):Ow K G H (.ref a) (.obj c ns ts) S
inductive aR(K:Frag)(G H:Hp):List V->List Tn->AS->Prop where
 |nil {S:AS}:aR K G H [] [] S
 |cons {v:V} {t:Tn} {vs:List V} {ts:List Tn} {S S1 S2:AS} (h:Ow K G H v t S1) (r:aR K G H vs ts S2) (dj:∀b,S1 b->S2 b->False) (s1:∀b,S1 b->S b) (s2:∀b,S2 b->S b):aR K G H (v::vs) (t::ts) S
end
def aB.jb{H H':Hp}{a:Addr}{u:HO}(e:aB H H')(h:Rd H a u):Rd H' a u:=by
 rcases h with h|⟨o,h⟩
 ·exact .inl (e _ _ h)
 ·exact .inr ⟨o,e _ _ h⟩
def aB.tupS{H H':Hp}{a:Addr}{xs:List V}(e:aB H H')(h:dD K H a xs):dD K H' a xs:=by
 rcases h with(h|⟨o,h⟩)|h
 ·exact .inl (.inl (e _ _ h))
 ·exact .inl (.inr ⟨o,e _ _ h⟩)
 ·exact .inr h
mutual
theorem aM.mono{G G':Hp}(e:aB G G'):∀{v:V} {d:D},aM K G v d->aM K G' v d
 |_,_,.aK=> .aK
 |_,_,.bl b=> .bl b
 |_,_,.int i=> .int i
 |_,_,.str x=> .str x
 |_,_,.lst h r=> .lst (e.seq h) (aC.mono e r)
 |_,_,.tup h r=> .tup (aB.tupS e h) (aC.mono e r)
 |_,_,.dP hc h=> .dP hc (e _ _ h)
 |_,_,.dO hc h hd hl r=> .dO hc (e _ _ h) (e _ _ hd) hl (aC.mono e r)
 |_,_,.aE h hk r=> .aE (aB.jb e h) hk (aC.mono e r)
 |_,_,.obj hc h hl r=> .obj hc (e _ _ h) hl (aC.mono e r)
theorem aC.mono{G G':Hp}(e:aB G G'):∀{vs:List V} {ds:List D},aC K G vs ds->aC K G' vs ds
 |_,_,.nil=> .nil
 |_,_,.cons h r=> .cons (aM.mono e h) (aC.mono e r)
end
theorem aC.length{G:Hp}:∀{vs:List V} {ds:List D},aC K G vs ds->vs.length=ds.length
 |_,_,.nil=>rfl
 |_,_,.cons _ r=>by rw[B4,B4,r.length]
theorem aC.append{G:Hp}:∀{vs ws:List V} {ds es:List D},aC K G vs ds->aC K G ws es->aC K G (vs ++ ws) (ds ++ es)
 |_,_,_,_,.nil,s=>s
 |_,_,_,_,.cons h r,s=> .cons h (r.append s)
theorem aC.get{G:Hp}:∀{vs:List V} {ds:List D} {i:Nat} {d:D},aC K G vs ds->ds[i]? =some d->∃v,vs[i]? =some v/\aM K G v d
 |_,_,_,_,.nil,e=>by simp at e
 |_,_,0,_,.cons h _,e=>by simp at e;subst e;exact⟨_,rfl,h⟩
 |_,_,i + 1,d,.cons _ r,e=>by
  obtain⟨u,h1,h2⟩:=aC.get (i:=i) (d:=d) r (by simpa using e);exact⟨u,by simpa using h1,h2⟩
theorem aC.take{G:Hp}:∀{vs:List V} {ds:List D} (n:Nat),aC K G vs ds->aC K G (vs.take n) (ds.take n)
 |_,_,0,_=> .nil
 |_,_,_ + 1,.nil=> .nil
 |_,_,n + 1,.cons h r=> .cons h (aC.take n r)
theorem aC.set{G:Hp}{d:D}(h:aM K G v d):∀{vs:List V} {ds:List D} (i:Nat),aC K G vs ds->aC K G (vs.set i v) (ds.set i d)
 |_,_,_,.nil=> .nil
 |_,_,0,.cons _ r=> .cons h r
 |_,_,i + 1,.cons q r=> .cons q (aC.set h i r)
mutual
theorem Ow.mono{G G' H H':Hp}(e:aB G G'):∀{v:V} {d:Tn} {S S':AS},Ow K G H v d S->(∀b o,S b->H b=some o->H' b=some o)->(∀b,S b->S' b)->Ow K G' H' v d S'
 |_,_,_,_,.sh h,_,_=> .sh (h.mono e)
 |_,_,_,_,.lst h ha sub r,f,i=> .lst (f _ _ ha h) (i _ ha) (λb hb=>⟨i b (sub b hb).1,(sub b hb).2⟩) (aR.mono e r (λb o hb q=>f b o (sub b hb).1 q) λ_ q=>q)
 |_,_,_,_,.tup h ha sub r,f,i=> .tup (f _ _ ha h) (i _ ha) (λb hb=>⟨i b (sub b hb).1,(sub b hb).2⟩) (aR.mono e r (λb o hb q=>f b o (sub b hb).1 q) λ_ q=>q)
 |_,_,_,_,.aE h hk ha sub r,f,i=> .aE (f _ _ ha h) hk (i _ ha) (λb hb=>⟨i b (sub b hb).1,(sub b hb).2⟩) (aR.mono e r (λb o hb q=>f b o (sub b hb).1 q) λ_ q=>q)
 |_,_,_,_,.obj hc h hl ha sub r,f,i=> .obj hc (f _ _ ha h) hl (i _ ha) (λb hb=>⟨i b (sub b hb).1,(sub b hb).2⟩) (aR.mono e r (λb o hb q=>f b o (sub b hb).1 q) λ_ q=>q)
theorem aR.mono{G G' H H':Hp}(e:aB G G'):∀{vs:List V} {ds:List Tn} {S S':AS},aR K G H vs ds S->(∀b o,S b->H b=some o->H' b=some o)->(∀b,S b->S' b)->aR K G' H' vs ds S'
 |_,_,_,_,.nil,_,_=> .nil
 |_,_,_,_,.cons h r dj s1 s2,f,i=> .cons (Ow.mono e h (λb o hb q=>f b o (s1 b hb) q) λ_ q=>q) (aR.mono e r (λb o hb q=>f b o (s2 b hb) q) λ_ q=>q) dj (λb q=>i b (s1 b q)) λb q=>i b (s2 b q)
end
mutual
theorem Ow.has{G G' H:Hp}(e:aB G G'):∀{v:V} {d:Tn} {S:AS},Ow K G H v d S->(∀b o,S b->H b=some o->G' b=some o)->aM K G' v d.d
 |_,_,_,.sh h,_=>h.mono e
 |_,_,_,.lst h ha sub r,f=> .lst (cF.of (f _ _ ha h)) (aR.has e r λb o hb q=>f b o (sub b hb).1 q)
 |_,_,_,.tup h ha sub r,f=> .tup (dD.of (f _ _ ha h)) (aR.has e r λb o hb q=>f b o (sub b hb).1 q)
 |_,_,_,.aE h hk ha sub r,f=> .aE (.inl (f _ _ ha h)) (by rw[Tn.pI];exact hk) (by rw[Tn.pH];exact aR.has e r λb o hb q=>f b o (sub b hb).1 q)
 |_,_,_,.obj hc h hl ha sub r,f=> .obj hc (f _ _ ha h) hl (aR.has e r λb o hb q=>f b o (sub b hb).1 q)
theorem aR.has{G G' H:Hp}(e:aB G G'):∀{vs:List V} {ds:List Tn} {S:AS},aR K G H vs ds S->(∀b o,S b->H b=some o->G' b=some o)->aC K G' vs (Tn.ds ds)
 |_,_,_,.nil,_=> .nil
 |_,_,_,.cons h r dj s1 s2,f=> .cons (Ow.has e h λb o hb q=>f b o (s1 b hb) q) (aR.has e r λb o hb q=>f b o (s2 b hb) q)
end
theorem aR.of{G H:Hp}:∀{vs:List V} {ds:List D} {S:AS},aC K G vs ds->aR K G H vs (ds.map .sh) S
 |_,_,_,.nil=> .nil
 |_,_,_,.cons h r=> .cons (S1:=λ_=>False) (S2:=λ_=>False) (.sh h) (aR.of r) (λ_ z _=>z) (λ_ z=>z.elim) λ_ z=>z.elim
theorem aR.off{G H:Hp}:∀{vs:List V} {ds:List D} {S:AS},aR K G H vs (ds.map .sh) S->aC K G vs ds
 |_,[],_,h=>by cases h;exact .nil
 |_,d::ds,_,h=>by
  cases h with
  |cons h r dj s1 s2=>
   cases h with
   |sh h=>exact .cons h (aR.off r)
theorem aR.length{G H:Hp}:∀{vs:List V} {ds:List Tn} {S:AS},aR K G H vs ds S->vs.length=ds.length
 |_,_,_,.nil=>rfl
 |_,_,_,.cons _ r _ _ _=>by rw[B4,B4,r.length]
def Ow.list{G H:Hp}{a:Addr}{vs:List V}{ds:List D}{S:AS}(h:H a=some (.lst vs))(ha:S a)(r:aC K G vs ds):Ow K G H (.ref a) (Tn.of (.lst ds)) S:=
 .lst (S1:=λ_=>False) h ha (λ_ z=>z.elim) (.of r)
def Ow.ku{G H:Hp}{ds:List D}{S:AS}(t:Ow K G H v (Tn.of (.lst ds)) S):∃a vs,v=.ref a/\S a/\H a=some (.lst vs)/\aC K G vs ds:=by
 cases t with
 |lst h ha sub r=>exact⟨_,_,rfl,ha,h,r.off⟩
def FD(aA:List (Ae×D)):(aA.map λp=>(p.1,Tn.sh p.2)).map (·.2)=(aA.map (·.2)).map Tn.sh:=by
 rw[J7,J7];rfl
def Hx(aA:List (Ae×D)):(aA.map λp=>(p.1,Tn.sh p.2)).map (·.1)=aA.map (·.1):=by
 rw[J7];rfl
def Ow.dict{G H:Hp}{a:Addr}{kvs:List (Ae×V)}{aA:List (Ae×D)}{S:AS}(h:H a=some (.dK kvs))(hk:kvs.map (·.1)=aA.map (·.1))(ha:S a)(r:aC K G (kvs.map (·.2)) (aA.map (·.2))):Ow K G H (.ref a) (Tn.of (.aE aA)) S:=
 .aE (S1:=λ_=>False) h (by rw[Hx];exact hk) ha (λ_ z=>z.elim) (by rw[FD];exact .of r)
def Ow.cE{G H:Hp}{aA:List (Ae×D)}{S:AS}(t:Ow K G H v (Tn.of (.aE aA)) S):∃a kvs,v=.ref a/\S a/\H a=some (.dK kvs)/\kvs.map (·.1)=aA.map (·.1)/\aC K G (kvs.map (·.2)) (aA.map (·.2)):=by
 generalize e:Tn.of (.aE aA)=t' at t;cases t with
 |aE h hk ha sub r=>
  injection e with e
  subst e;rw[FD]at r;rw[Hx]at hk;exact⟨_,_,rfl,ha,h,hk,r.off⟩
 |_=>cases e
structure Step(G H G' H':Hp):Prop where
 hh:aB H H'
 gh:aB G' H'
 gg:aB G G'
 nw:∀b,G b=none->H b≠none->G' b=none
theorem Step.refl{G H:Hp}(h:aB G H):Step G H G H:=⟨aB.refl _,h,aB.refl _,λ_ e _=>e⟩
theorem Step.trans{G H G1 H1 G2 H2:Hp}(a:Step G H G1 H1)(b:Step G1 H1 G2 H2):Step G H G2 H2:=
 ⟨a.hh.trans b.hh,b.gh,a.gg.trans b.gg,λc e n=>b.nw c (a.nw c e n) λz=>n (a.hh.free z)⟩
def jV{p:Addr}(h:H p=none)(o:HO):aB H (upd H p o):=λb u q=>by rw[Ao (Ep q h)];exact q
def yD{G H:Hp}(h:aB G H)(p:Addr)(o:HO):aB (upd G p o) (upd H p o):=λb u q=>by
 by_cases e:b=p
 ·subst e;rw[Bf]at q⊢;exact q
 ·rw[Ao e]at q⊢;exact h b u q
def Step.new{G H:Hp}(h:aB G H){p:Addr}(e:H p=none)(o:HO):Step G H (L2.upd G p o) (L2.upd H p o):=
 ⟨jV e o,yD h p o,jV (h.free e) o,λb n z=>by
  by_cases q:b=p
  ·subst q;exact absurd e z
  ·rw[Ao q];exact n⟩
def Step.own{G H:Hp}(h:aB G H){p:Addr}(e:H p=none)(o:HO):Step G H G (L2.upd H p o):=
 ⟨jV e o,h.trans (jV e o),aB.refl _,λ_ n _=>n⟩
open Classical in
def Dk(G H:Hp)(S:AS):Hp:=λb=>if S b then H b else G b
def WP(K:Frag)(G H:Hp)(w:W)(Q:VK):Prop:=match w with
 | .sh d=>∀v G' H',Step G H G' H'->aM K G' v d->Q v H'
 | .ow d=>∀v S G' H',Step G H G' H'->(∀a,S a->H a=none/\G' a=none/\H' a≠none)->Ow K G' H' v (Tn.of d) S->Q v H'
 | .tr t=>∀v S G' H',Step G H G' H'->(∀a,S a->H a=none/\G' a=none/\H' a≠none)->Ow K G' H' v t S->Q v H'
structure jl where
 p:Xn->Hp->Hp->Prop
 mono:∀x G H G' H',Step G H G' H'->p x G H->p x G' H'
def MV:jl:=⟨λ_ _ _=>False,λ_ _ _ _ _ _ h=>h⟩
abbrev Ax:=Sg->jl
def Cm:Ax:=λ_=>MV
def Out(K:Frag)(EX:jl)(G H:Hp)(r:R W)(Q:VK):Prop:=match r with
 | .ok w=>WP K G H w Q
 | .ex x=>EX.p x G H
 | .no=>False
section
variable{K:Frag}{EX:jl}{G H G' H':Hp}{Q Q':VK}{w:W}
def WP.mono(s:Step G H G' H')(h:WP K G H w Q):WP K G' H' w Q:=by
 cases w with
 |sh d=>exact λv G2 H2 s2 r=>h v G2 H2 (s.trans s2) r
 |ow d=>exact λv S G2 H2 s2 fr t=>h v S G2 H2 (s.trans s2) (λa ha=>⟨s.hh.free (fr a ha).1,(fr a ha).2⟩) t
 |tr d=>exact λv S G2 H2 s2 fr t=>h v S G2 H2 (s.trans s2) (λa ha=>⟨s.hh.free (fr a ha).1,(fr a ha).2⟩) t
theorem Out.mono{r:R W}(s:Step G H G' H')(h:Out K EX G H r Q):Out K EX G' H' r Q:=by
 cases r with
 |ok w=>exact WP.mono s h
 |ex x=>exact EX.mono _ _ _ _ _ s h
 |no=>exact h
def WP.join{t:Tn}{S:AS}(h:∀v G' H',Step G H G' H'->aM K G' v t.d->Q v H')(s:Step G H G' H')(fr:∀a,S a->H a=none/\G' a=none/\H' a≠none)(t:Ow K G' H' v t S):Q v H':=by
 have sg:aB G' (Dk G' H' S):=λb o q=>by
  unfold Dk
  split
  ·rename_i hb;rw[(fr b hb).2.1]at q;cases q
  ·exact q
 refine h v (Dk G' H' S) H' ⟨s.hh,λb o q=> ?_,s.gg.trans sg,λb n z=> ?_⟩ (t.has sg λb o hb q=> ?_)
 ·unfold Dk at q
  split at q
  ·exact q
  ·exact s.gh b o q
 ·unfold Dk
  split
  ·rename_i hb;exact absurd (fr b hb).1 z
  ·exact s.nw b n z
 ·unfold Dk;rw[if_pos hb];exact q
def WP.intro(h:∀v G' H',Step G H G' H'->aM K G' v w.d->Q v H'):WP K G H w Q:=by
 cases w with
 |sh d=>exact h
 |ow d=>exact λv S G' H' s fr t=>WP.join (t:=Tn.of d) (by rw[Tn.eI];exact h) s fr t
 |tr d=>exact λv S G' H' s fr t=>WP.join h s fr t
theorem WP.sh(h:WP K G H (.sh w.d) Q):WP K G H w Q:=WP.intro h
def WP.use{d:D}(h:WP K G H (.sh d) Q)(s:aB G H)(r:aM K G v d):Q v H:=h v G H (Step.refl s) r
end
inductive ExcAt(K:Frag)(G:Hp):Value->Option Addr->Xn->Prop where
 |bare {C:Addr} {c:Str} (hc:ClsAt K c C):ExcAt K G (.ref C) none ⟨c,[],[]⟩
 |iA {C d:Addr} {c:Str} {ns:List Str} {us:List V} {vs:List D} (hc:ClsAt K c C) (hd:G d=some (.xd (ns.zip us))) (hl:ns.length=us.length) (r:aC K G us vs):ExcAt K G (.ref C) (some d) ⟨c,ns,vs⟩
def bW(K:Frag)(E:XK):jl:=⟨λx G H=>∀cls dx G' H',Step G H G' H'->ExcAt K G' cls dx x->E cls dx H',λ_ _ _ _ _ s h cls dx G2 H2 s2=>h cls dx G2 H2 (s.trans s2)⟩
def nE(K:Frag)(EX:jl):XK:=λcls dx H=>∃x G,aB G H/\ExcAt K G cls dx x/\EX.p x G H
def nE.of{E:XK}{cls:Value}{dx:Option Addr}(h:nE K (bW K E) cls dx H):E cls dx H:=by
 obtain⟨x,G,s,e,q⟩:=h;exact q cls dx G H (Step.refl s) e
def bW.in{EX:jl}{G H:Hp}{x:Xn}(q:EX.p x G H):(bW K (nE K EX)).p x G H:=λ_ _ G' H' st e=>⟨x,G',st.gh,e,EX.mono _ _ _ _ _ st q⟩
abbrev DE:=List (Option D)
abbrev FE:=DE->R W
abbrev FT:=DE->R Bool
abbrev FA:=DE->R (List D)
structure aU(K:Frag)(G:Hp)(σ:Sg)(δ:DE):Prop where
 len:σ.length=δ.length
 get:∀(i:Nat) (d:D),δ[i]? =some (some d)->∃v,σ[i]? =some (some v)/\aM K G v d
theorem aU.mono{G G':Hp}{σ:Sg}{δ:DE}(e:aB G G')(h:aU K G σ δ):aU K G' σ δ:=⟨h.len,λi d q=>by
 obtain⟨v,e1,r⟩:=h.get i d q;exact⟨v,e1,r.mono e⟩⟩
def tD(K:Frag)(EX:Ax)(f:FE):TE:=λ σ H Q=>∃G δ,aB G H/\aU K G σ δ/\Out K (EX σ) G H (f δ) Q
def eG(K:Frag)(EX:Ax)(f:FT):TT:=λ σ H Q=>∃G δ,aB G H/\aU K G σ δ/\match f δ with
 | .ok b=>∀G' H',Step G H G' H'->Q b H'
 | .ex x=>(EX σ).p x G H
 | .no=>False
def gv(K:Frag)(EX:Ax)(f:FA):TA:=λ σ H Q=>∃G δ,aB G H/\aU K G σ δ/\match f δ with
 | .ok ds=>∀vs G' H',Step G H G' H'->aC K G' vs ds->Q vs H'
 | .ex x=>(EX σ).p x G H
 | .no=>False
abbrev ED(X:Cx)(EX:Ax)(e:Expr)(f:FE):Prop:=PE X e (tD X.K EX f)
abbrev TD(X:Cx)(EX:Ax)(e:Expr)(f:FT):Prop:=PT X e (eG X.K EX f)
abbrev AD(X:Cx)(EX:Ax)(es:List Expr)(f:FA):Prop:=PA X es (gv X.K EX f)
def PE.imp{e:Expr}{t t':TE}(h:PE X e t)(i:∀σ H Q,t' σ H Q->t σ H Q):PE X e t':=λzc s σ H Q I q=>h zc s σ H Q I (i σ H Q q)
def PT.imp{e:Expr}{t t':TT}(h:PT X e t)(i:∀σ H Q,t' σ H Q->t σ H Q):PT X e t':=λzc s σ H Q I q=>h zc s σ H Q I (i σ H Q q)
def PW.imp{e:Expr}{t t':TT}(h:PW X e t)(i:∀σ H Q,t' σ H Q->t σ H Q):PW X e t':=λwh zc s σ H Q I q=>h wh zc s σ H Q I (i σ H Q q)
def PA.imp{e:List Expr}{t t':TA}(h:PA X e t)(i:∀σ H Q,t' σ H Q->t σ H Q):PA X e t':=λpos zc s σ H Q I q=>h pos zc s σ H Q I (i σ H Q q)
def PS.imp{e:Stmt}{t t':TS}(h:PS X e t)(i:∀D σ H,t' D σ H->t D σ H):PS X e t':=λzc s σ H D I q=>h zc s σ H D I (i D σ H q)
def gO.imp{e:List Stmt}{t t':TS}(h:gO X e t)(i:∀D σ H,t' D σ H->t D σ H):gO X e t':=λzc s σ H D I q=>h zc s σ H D I (i D σ H q)
section
variable{K:Frag}{EX:Ax}{G H:Hp}{σ:Sg}{δ:DE}{Q:VK}
def tD.seq{f:FE}{k:W->R W}{P:VK}(g:aB G H)(s:aU K G σ δ)(h:Out K (EX σ) G H ((f δ).bind k) Q)
  (i:∀w v G' H',f δ=.ok w->Step G H G' H'->aM K G' v w.d->Out K (EX σ) G' H' (k w) Q->P v H'):tD K EX f σ H P:=by
 refine⟨G,δ,g,s, ?_⟩;cases e:f δ with
 |ok w=>
  rw[e]at h;exact WP.intro λv G' H' st r=>i w v G' H' e st r (Out.mono st h)
 |ex x=>rw[e]at h;exact h
 |no=>rw[e]at h;exact h
def eG.seq{f:FT}{k:Bool->R W}{P:Bool->Hp->Prop}(g:aB G H)(s:aU K G σ δ)(h:Out K (EX σ) G H ((f δ).bind k) Q)
  (i:∀b G' H',f δ=.ok b->Step G H G' H'->Out K (EX σ) G' H' (k b) Q->P b H'):eG K EX f σ H P:=by
 refine⟨G,δ,g,s, ?_⟩;cases e:f δ with
 |ok w=>
  rw[e]at h;exact λG' H' st=>i w G' H' e st (Out.mono st h)
 |ex x=>rw[e]at h;exact h
 |no=>rw[e]at h;exact h
abbrev AF:=List D->R W
def gv.seq{f:FA}{k:AF}{P:List V->Hp->Prop}(g:aB G H)(s:aU K G σ δ)(h:Out K (EX σ) G H ((f δ).bind k) Q)
  (i:∀ds vs G' H',f δ=.ok ds->Step G H G' H'->aC K G' vs ds->Out K (EX σ) G' H' (k ds) Q->P vs H'):gv K EX f σ H P:=by
 refine⟨G,δ,g,s, ?_⟩;cases e:f δ with
 |ok w=>
  rw[e]at h;exact λvs G' H' st r=>i w vs G' H' e st r (Out.mono st h)
 |ex x=>rw[e]at h;exact h
 |no=>rw[e]at h;exact h
end
def sZ{EX:jl}{G H:Hp}{Q:VK}{ds:List D}{vs:List V}(o:Out K EX G H (.ok (.ow (.lst ds))) Q)(g:aB G H)(r:aC K G vs ds):∀p,H p=none->Q (.ref p) (upd H p (.lst vs)):=
 λp hp=>o (.ref p) (λb=>b=p) G _ (Step.own g hp _) (λa e=>by subst e;exact⟨hp,g.free hp,by rw[Bf];simp⟩) (.list Bf rfl r)
end L3
namespace L3
open PySem PySem.Spec PyProof.Rows L2
variable{K:Frag}{fd:FuncData}{mg:AB}{us:List Value}{base:Heap}{H:Hp}{X:Cx}{pos:Pos}{v:V}
def yi(A:Around)(h:Heap):Prop:=A.handled=none\/∃(x:Addr) (o:Obj) (us:Array Value),A.handled=some (.ref x)/\h.get? x=some o/\o.data=.fields us/\us[2]? =some .none
def yi.kept{A:Around}{h h':Heap}(z:yi A h)(k:∀(x:Addr) (o:Obj),A.handled=some (.ref x)->h.get? x=some o->h'.get? x=some o):yi A h':=by
 rcases z with z|⟨x,o,us,e,g,r⟩
 ·exact .inl z
 ·exact .inr ⟨x,o,us,e,k x o e g,r⟩
section
variable{prog:Program}{w:World}{A:Around}{E:AA}{s:Shared}
end
structure Tr(h:Heap)(a C:Addr)(dx:Option Addr)(fl:Value)(T:Addr):Prop where
 ob:∃o us,h.get? a=some o/\o.cls=.ref C/\o.dict=dx/\o.data=.fields us/\us[1]? =some (.ref T)/\us[2]? =some .none
 ne:T≠a
 tb:∃o us,h.get? T=some o/\o.data=.fields us/\us[3]? =some fl
structure bQ(xs fr:List Addr)(h h':Heap):Prop where
 same:∀b o,b∉xs->b∉fr->h.get? b=some o->h'.get? b=some o
 slot:∀b o,b∉xs->h.get? b=some o->∃sl,h'.get? b=some {o with slots:=sl}
def bQ.trans{xs ys fr:List Addr}{h1 h2 h3:Heap}(a:bQ xs fr h1 h2)(b:bQ ys fr h2 h3):bQ (xs ++ ys) fr h1 h3:=
 ⟨λc o n m e=>b.same c o (λz=>n (B7 _ z)) m (a.same c o (λz=>n (F2 _ z)) m e),λc o n e=>by
  obtain⟨sl,e1⟩:=a.slot c o (λz=>n (F2 _ z)) e;obtain⟨Nm,e2⟩:=b.slot c _ (λz=>n (B7 _ z)) e1;exact⟨Nm,e2⟩⟩
def bQ.of_same{xs fr:List Addr}{h h':Heap}(k:∀b o,b∉xs->h.get? b=some o->h'.get? b=some o):bQ xs fr h h':=
 ⟨λb o n _ e=>k b o n e,λb o n e=>⟨o.slots,k b o n e⟩⟩
def Wo(o:Obj)(f:Array Value->Array Value):(o.mapFields f).dict=o.dict:=by
 obtain⟨c,d,dt,sl⟩:=o;cases dt <;> rfl
section
variable{M:Model}{A:Around}{E:AA}{s:Shared}{env:Env}{outer:List Env}{base:Heap}{L a C:Addr}{dx:Option Addr}{Q:Unit->Shared->Prop}
def Hw{o:Obj}{us:Array Value}{head:Value}{b:Bool}(uO:A.frames=some (env::outer))(hl:s.heap.FunFrames base (env::outer))(hf:env.frame=some L)
  (he:s.heap.get? a=some o) (hc:o.cls=.ref C) (hx:o.dict=dx) (hd:o.data=.fields us) (hz:1 < us.size) (c2:us[2]? =some .none)
  (h:∀h' T,s.heap.objs.size<=T->bQ [a] (gA (env::outer)) s.heap h'->Tr h' a C dx (rawInt L) T->Q .unit {s with heap:=h'}):
  wpAny M A (do let fv<-frameOf env;let pl<-entryPlaceOf L b;let en<-EntryCells.newEntry head fv .none (rawInt L) .none pl;setField (.ref a) 1 en) Q E s:=by
 have nfr:a∉gA (env::outer):=λhm=>by
  obtain⟨_,u,hu,hn⟩:=hl.mem hm;rw[he]at hu;cases hu;exact hn us hd
 refine A5 (wpAny_frameOf_fun uO hl hf λh1 so=> ?_);refine A5 (wpAny_entryPlaceOf λpl bZ=> ?_);unfold EntryCells.newEntry newFields;refine A5 (Z6 ?_ (bZ.sizeOk5 _ _ _ _ _));have e1:h1.get? a=some o:=(so.2.1 a nfr).trans he;generalize hT:({cls:=.type "traceback",dict:=none,data:=.fields ([head,.ref L,.none,rawInt L,.none] ++ (if pl.isEmpty then List.replicate 6 Value.none else pl)).toArray}:Obj)=oT;have eT:oT.data=.fields ([head,.ref L,.none,rawInt L,.none] ++ (if pl.isEmpty then List.replicate 6 Value.none else pl)).toArray:=by rw[<-hT]
 have e2:(h1.push oT).get? a=some o:=A4 oT e1;refine OI e2 hd hz ?_;have sz:h1.objs.size=s.heap.objs.size:=so.1;have Mb:a < s.heap.objs.size:=A6 he;have neT:h1.objs.size≠a:=λz=>absurd Mb (by rw[<-z,sz];exact F3 _);have d3:=Y8 hd (·.setIfInBounds 1 (Value.ref h1.objs.size));refine h _ h1.objs.size (by rw[sz];exact B6 _) ⟨λb u n m e=> ?_,λb u n e=> ?_⟩ ⟨⟨_,_,S6 _ e2 (W2 d3),(Obj.cls_mapFields _ _).trans hc,(Wo _ _).trans hx,d3, ?_, ?_⟩,neT,⟨oT,_, ?_,eT, ?_⟩⟩
 ·have nb:a≠b:=λz=>n (by simp[z]);rw[L0 _ _ nb];exact A4 oT ((so.2.1 b m).trans e)
 ·have nb:a≠b:=λz=>n (by simp[z]);obtain⟨sl,es⟩:=so.2.2 b u e;exact⟨sl,by rw[L0 _ _ nb];exact A4 oT es⟩
 ·simp[hz]
 ·rw[<-c2];simp
 ·rw[L0 _ _ (Ne.symm neT)];exact C1 h1 (W2 eT)
 ·first|(simp;done)|(rcases bZ with rfl|⟨_,_,_,_,_,_,_,rfl⟩ <;> simp)
def Yv{o:Obj}{us:Array Value}(uO:A.frames=some (env::outer))(hl:s.heap.FunFrames base (env::outer))(hf:env.frame=some L)
  (he:s.heap.get? a=some o) (hc:o.cls=.ref C) (hx:o.dict=dx) (hd:o.data=.fields us) (h1:us[1]? =some .none) (c2:us[2]? =some .none)
  (h:∀h' T,s.heap.objs.size<=T->bQ [a] (gA (env::outer)) s.heap h'->Tr h' a C dx (rawInt L) T->Q .unit {s with heap:=h'}):wpAny M A (noteFrame (.ref a) env) Q E s:=by
 unfold noteFrame;simp only[hf];refine A5 (MK he hd h1 ?_);rw[if_neg ⋯];exact Hw uO hl hf he hc hx hd (P8.mp h1).1 c2 h
def Jr{T0:Addr}(uO:A.frames=some (env::outer))(hl:s.heap.FunFrames base (env::outer))(hf:env.frame=some L)(t:Tr s.heap a C dx .none T0)
  (h:∀h' T,s.heap.objs.size<=T->bQ [a,T0] (gA (env::outer)) s.heap h'->Tr h' a C dx (rawInt L) T->Q .unit {s with heap:=h'}):wpAny M A (noteFrame (.ref a) env) Q E s:=by
 obtain⟨⟨o,us,he,hc,hx,hd,h1,c2⟩,ne,⟨oT,ws,hT,qz,h3⟩⟩:=t;unfold noteFrame;simp only[hf];refine A5 (MK he hd h1 ?_);rw[if_pos (show(Value.ref T0 != Value.none)=true from by simp)];refine A5 (MK hT qz h3 ?_);rw[if_neg (show¬((Value.none ==rawInt L)=true) from by simp[rawInt])];refine A5 (OI hT qz (P8.mp h3).1 ?_);have tB:∀b,b≠T0->(s.heap.update T0 (Obj.mapFields (·.setIfInBounds 3 Value.none))).get? b=s.heap.get? b:=λb hb=>L0 _ _ (Ne.symm hb);have dq:∀b u,s.heap.get? b=some u->(∀zs,u.data≠ .fields zs)->b≠T0:=λb u hb hn q=>by
  subst q;rw[hT]at hb;cases hb;exact hn ws qz
 refine Hw (s:={s with heap:=s.heap.update T0 (Obj.mapFields (·.setIfInBounds 3 Value.none))}) uO (hl.of_keeps λb u hb hn=>⟨u,(tB b (dq b u hb hn)).trans hb,rfl⟩) hf ((tB a (Ne.symm ne)).trans he) hc hx hd (P8.mp h1).1 c2 λh' T n k tr=>h h' T ?_ ?_ tr
 ·have zz:(s.heap.update T0 (Obj.mapFields (·.setIfInBounds 3 Value.none))).objs.size=s.heap.objs.size:=OT _ _ _;rw[<-zz];exact n
 ·have na:∀b,b∉ [a,T0]->b∉ [a]:=λb nb z=>nb (by rw[D7.mp z];exact C8);have nT:∀b,b∉ [a,T0]->b≠T0:=λb nb z=>nb (by rw[z];simp);exact⟨λb u nb m e=>k.same b u (na b nb) m ((tB b (nT b nb)).trans e),λb u nb e=>k.slot b u (na b nb) ((tB b (nT b nb)).trans e)⟩
def LG{T:Addr}{fl:Value}(t:Tr s.heap a C dx fl T)(h:∀h',(∀b o,b∉ [T]->s.heap.get? b=some o->h'.get? b=some o)->Tr h' a C dx .none T->Q .unit {s with heap:=h'}):wpAny M A (setFlight (.ref a) none) Q E s:=by
 obtain⟨⟨o,us,he,hc,hx,hd,h1,c2⟩,ne,⟨oT,ws,hT,qz,h3⟩⟩:=t;have sz3:3 < ws.size:=(P8.mp h3).1;unfold setFlight;refine A5 (MK he hd h1 ?_);rw[if_pos (show(Value.ref T != Value.none)=true from by simp)];refine OI hT qz sz3 (h _ (λb u n e=> ?_) ⟨⟨o,us, ?_,hc,hx,hd,h1,c2⟩,ne,⟨_,_,S6 _ hT (W2 (Y8 qz _)),Y8 qz _, ?_⟩⟩)
 ·rw[L0 _ _ (λz=>n (by simp[z]))];exact e
 ·rw[L0 _ _ ne];exact he
 ·simp[sz3]
end
def kf(P:Program)(w:World):qf:=λouter H s E e s'=>∃a C dx T H',e=.ref a/\s'.os=s.os/\AllBare s'.gens/\Un (gA outer) [] H H' s.heap s'.heap/\cP P w H' s'.heap/\
 Tr s'.heap a C dx .none T/\H' a=none/\H' T=none/\s.heap.objs.size<=a/\s.heap.objs.size<=T/\E (.ref C) dx H'
section
variable{X:Cx}{zc:AE}{σ:Sg}{H H':Hp}{s s':Shared}
def Inv.settle{ch:List Addr}{h2:Heap}(I:Inv X zc σ H s)(I':Inv X zc σ H' s')(n:∀b∈ch,s.heap.objs.size<=b/\H' b=none)(k:bQ ch (gA X.stack) s'.heap h2):Inv X zc σ H' {s' with heap:=h2}:=by
 have qh:∀b u,H' b=some u->b∉ch/\b∉gA X.stack:=λb u e=>⟨λz=>(by rw[(n b z).2]at e;cases e),λz=>(by rw[I'.dX b z]at e;cases e)⟩;refine I'.step (g':=s'.gens) (d':=s'.drawn) (t':=s'.toks) (ch:=ch) (λb hb=> ?_) (λb o h1 h2 h3 e _=>k.same b o h3 (λz=> ?_) e) (λb o _ _ h3 e _=>k.slot b o h3 e) (λ_ _ _ _ z=>z) (λb o h3 e=> ?_) (λ_ _ z=>z) (λ_ _ _ z=>z) (λb ps z=>⟨#[],by rw[z];simp⟩) (λm hm=> ?_) (λb u e=> ?_) I'.bare
 ·have lb:=(n b hb).1;refine⟨.inr (D4 I.sz lb),λz=> ?_,λx c e z=> ?_,λp hp z=> ?_⟩
  ·exact absurd (C6 I.lt lb) (by rw[z];exact F3 _)
  ·obtain⟨v,hv⟩:=I.cell x c e;exact absurd (C6 hv.lt lb) (by rw[z];exact F3 _)
  ·exact absurd (C6 (A6 (I.pin p hp).1) lb) (by rw[z];exact F3 _)
 ·rcases C7.mp (I'.dH b z) with z|z
  ·exact h1 z
  ·exact h2 z
 ·obtain⟨sl,q⟩:=k.slot b o h3 e;exact⟨_,q⟩
 ·obtain⟨o,es,ep,ho,r⟩:=hm;have nl:X.env.locals∉ch:=λz=>absurd (C6 I.lt (n _ z).1) (F3 _);obtain⟨sl,q⟩:=k.slot _ o nl ho;exact⟨_,es,ep,q,r⟩
 ·refine(I'.aJ b u e).cX (λc v hc q=> ?_) (λ_ z=>z) λ_ _ z=>z;rcases hc with rfl|hc
  ·exact k.same c v (qh c u e).1 (qh c u e).2 q
  ·exact k.same c v (qh c _ hc).1 (qh c _ hc).2 q
def Inv.raised{E:XK}{e:Value}(I:Inv X zc σ H s)(c:kf X.prog X.w X.stack H s E e s'):∃a C dx T H',e=.ref a/\Inv X zc σ H' s'/\Tr s'.heap a C dx .none T/\H' a=none/\H' T=none/\s.heap.objs.size<=a/\s.heap.objs.size<=T/\E (.ref C) dx H':=by
 obtain⟨a,C,dx,T,H',e1,os,br,un,aJ,tr,n1,n2,z1,z2,q⟩:=c;exact⟨a,C,dx,T,H',e1,I.um (ch:=[]) os un aJ br (λb z=>absurd z (by simp)),tr,n1,n2,z1,z2,q⟩
end
section
variable{cm:Bool}{P:Program}{w:World}{K:Frag}{mg:AB}{base:Heap}{N:List Str}{qual:Str}{scope:Scope}{f:Addr}{cd:Value}{A:Around}{outer:List Env}{s0:Shared}{H0:Hp}{E E':XK}
def Xy{zc:AE}{σ:Sg}{s s':Shared}{e:Value}(I:Inv ({Ff (kf P w) P w K mg base N qual scope f cd A outer s0 H0 E with calm:=cm}:Cx) zc σ H s)
  (c:kf P w ({Ff (kf P w) P w K mg base N qual scope f cd A outer s0 H0 E with calm:=cm}:Cx).stack H s E' e s') (i:∀cls dx H',E' cls dx H'->E cls dx H'):({Ff (kf P w) P w K mg base N qual scope f cd A outer s0 H0 E with calm:=cm}:Cx).xe e s':=by
 obtain⟨a,C,dx,T,H',rfl,I',tr,n1,n2,z1,z2,q⟩:=Inv.raised I c;show wpAny (model P w) _ (leaving _ _) _ _ s';unfold leaving;refine A5 (Jr I'.ok.frames I'.stack rfl tr λh1 T2 z3 k1 t1=> ?_);refine LG t1 λh2 k2 t2=> ?_;have sV:H' T2=none:=I'.aJ.fresh z3;have J:Inv ({Ff (kf P w) P w K mg base N qual scope f cd A outer s0 H0 E with calm:=cm}:Cx) zc σ H' {s' with heap:=h2}:=by
  refine Inv.settle (ch:=[a,T] ++ [T2]) I I' (λb hb=> ?_) (k1.trans (bQ.of_same k2));have:b=a\/b=T\/b=T2:=by simpa using hb
  rcases this with rfl|rfl|rfl
  ·exact⟨z1,n1⟩
  ·exact⟨z2,n2⟩
  ·exact⟨D4 (D4 (B6 _) z1) (D4 (Q2 (A6 tr.ob.choose_spec.choose_spec.1)) z3),sV⟩
 exact⟨a,C,dx,T2,H',rfl,J.os,J.bare,J.base,J.aJ,t2,n1,sV,D4 I.sz z1,D4 I'.sz z3,i _ _ _ q⟩
def ZF{zc:AE}{σ:Sg}{H H':Hp}{s s':Shared}{a C:Addr}{dx:Option Addr}{o:Obj}{us:Array Value}(I:Inv ({Ff (kf P w) P w K mg base N qual scope f cd A outer s0 H0 E with calm:=cm}:Cx) zc σ H s)
  (I':Inv ({Ff (kf P w) P w K mg base N qual scope f cd A outer s0 H0 E with calm:=cm}:Cx) zc σ H' s') (he:s'.heap.get? a=some o) (hc:o.cls=.ref C) (hx:o.dict=dx) (hd:o.data=.fields us) (h1:us[1]? =some .none) (c2:us[2]? =some .none) (n1:H' a=none) (z1:s.heap.objs.size<=a) (q:E (.ref C) dx H'):
  ({Ff (kf P w) P w K mg base N qual scope f cd A outer s0 H0 E with calm:=cm}:Cx).xe (.ref a) s':=by
 show wpAny (model P w) _ (leaving _ _) _ _ s';unfold leaving;refine A5 (Yv I'.ok.frames I'.stack rfl he hc hx hd h1 c2 λh1 T2 z3 k1 t1=> ?_);refine LG t1 λh2 k2 t2=> ?_;have sV:H' T2=none:=I'.aJ.fresh z3;have J:Inv ({Ff (kf P w) P w K mg base N qual scope f cd A outer s0 H0 E with calm:=cm}:Cx) zc σ H' {s' with heap:=h2}:=by
  refine Inv.settle (ch:=[a] ++ [T2]) I I' (λb hb=> ?_) (k1.trans (bQ.of_same k2));have:b=a\/b=T2:=by simpa using hb
  rcases this with rfl|rfl
  ·exact⟨z1,n1⟩
  ·exact⟨D4 z1 (D4 (Q2 (A6 he)) z3),sV⟩
 exact⟨a,C,dx,T2,H',rfl,J.os,J.bare,J.base,J.aJ,t2,n1,sV,D4 I.sz z1,D4 I'.sz z3,q⟩
end
section
variable{prog:Program}{w:World}{A:Around}{E:AA}{h:Heap}{g:Array GenState}{d:Drawn}{t:Nat}{os:OsState}
variable{nm q:Str}{C N:Addr}{bs bm qE:List Value}{ax:Bool}{sn:List Str}{sub:List Value}{ab:Bool}{col:Option Bool}{dd:Option Addr}{k0 k1 k2 k3 k5:Option Value}{B newId ai:String}
def Xx(FB:ExcBaseFacts B newId ai qE)(T:OwnTail h qE bm){mN:AB}{fI:Addr}{oI:Obj}{Q:PySem.Fin->Shared->Prop}
  (hC:h.get? C=some (excClassObj nm q C N bs bm ax sn sub ab col dd k0 k1 k2 k3 k5 newId)) (hn:h.Ns N mN) (hi:mN "__init__" =some (.ref fI)) (ho:h.get? fI=some oI) (hf:oI.cls=.type "function")
  (z:∀h' e,Heap.MadeExcOf h h' e (.ref C) us->h.objs.size<=e->wpAny (model prog w) A (call (.ref fI) (.ref e::us)) (λr s'=>r=.none/\Q (.done (.ret (.ref e))) s') E ⟨h',g,d,t,os⟩) (hu:us.length<=sizeLine):
  wpAny (model prog w) A (Builtin.«type.__call__» ⟨.ref C::us,[]⟩) Q E ⟨h,g,d,t,os⟩:=by
 wp_walk using O4 hC,wpAny_madeBy_exc hC
 refine Z4 (V1 _ FB.quiet) (wpAny_check_new_subT FB T hC ?_);refine codeAny_exc_new_subT FB T hC ?_ hu;show wpAny _ _ _ _ _ _;generalize e1:({cls:=.type "tuple",data:=.seq us.toArray}:Obj)=o1;generalize e2:({cls:=.ref C,data:=.fields #[.ref h.objs.size,.none,.none,.none,.bool false,.none]}:Obj)=o2;have up:∀b o,h.get? b=some o->((h.push o1).push o2).get? b=some o:=λb o e=>A4 _ (A4 _ e);have ge:((h.push o1).push o2).get? (h.objs.size + 1)=some o2:=by
  have:=C1 (h.push o1) (o:=o2) (by rw[<-e2];rfl)
  rwa[N8]at this
 have gt:((h.push o1).push o2).get? h.objs.size=some o1:=A4 _ (C1 h (by rw[<-e1];rfl));have uT:=up _ _ hC;have NO:((h.push o1).push o2).Ns N mN:=hn.keeps up;have cl:o2.cls=.ref C:=by rw[<-e2]
 have tX:List.contains (Value.ref C::bm) (.ref C)=true:=S7.mpr (.head _);unfold isInstance
 repeat (first|(with_reducible refine O4 ge ?_;rw[cl])|(with_reducible refine Y0 uT ?_;rw[tX])|wp_step)
 change wpAny _ _ (mroOf (.ref C) >>=λl=>lookupAlong l _) _ _ _;refine A5 (wpAny_mroOf_exc uT ?_);rw[lookupAlong_cons];refine A5 (wpAny_classOwn_exc uT NO ?_);rw[hi];refine F0 (S3 (A5 ?_));unfold bindSpecial;refine A5 (wpAny_typeOf (T:= "function") ⟨_,up _ _ ho,hf⟩ ?_);rw[if_pos ⋯];refine F0 (A5 (F5 (z _ (h.objs.size + 1) ⟨up,Q3 (L7 _),h.objs.size,by rw[e2];exact ge,Q3 (B6 _),by rw[e1];exact gt⟩ (L7 _)) (λr s' hr=> ?_) λ_ _ x=>x));obtain⟨rfl,hQ⟩:=hr
 wp_walk
 exact hQ
def Wn(FB:ExcBaseFacts B newId ai qE)(T:OwnTail h qE bm){mN:AB}{fI:Addr}{oI:Obj}{Q:AA}
  (hC:h.get? C=some (excClassObj nm q C N bs bm ax sn sub ab col dd k0 k1 k2 k3 k5 newId)) (hn:h.Ns N mN) (hi:mN "__init__" =some (.ref fI)) (ho:h.get? fI=some oI) (hf:oI.cls=.type "function")
  (z:∀h' e,Heap.MadeExcOf h h' e (.ref C) us->h.objs.size<=e->wpAny (model prog w) (A.under (.builtin "type.__call__" ⟨.ref C::us,[]⟩)) (call (.ref fI) (.ref e::us)) (λr s'=>r=.none/\Q (.ref e) s') E ⟨h',g,d,t,os⟩) (hu:us.length<=sizeLine):
  wpAny (model prog w) A (call (.ref C) us) Q E ⟨h,g,d,t,os⟩:=by
 have f1:=tc_lookup;have f2:=tc_bind (.ref C);have Dh:Shared.TypeIs ⟨h,g,d,t,os⟩ (.ref C) "type" :=⟨_,hC,rfl⟩;refine W8 (codeAny_of_tree (?_:wpAny _ _ (callAny (.ref C) _) _ _ _))
 wp_walk using O4 hC
 refine⟨rfl, ?_⟩;exact ZA6 (V1 _ nofun) entry_typeCall (Z5 hC (Xx FB T hC hn hi ho hf (λh' e hm hz=>z h' e hm hz) hu))
def Jq{M:Model}{env:Env}{s:Shared}{x:Sem Value}{Q:Flow->Shared->Prop}(hb:bm.contains (.type "BaseException")=true)(hh:A.handled=none)
  (z:wpAny M A x (λv s1=>∃e t dx,v=.ref e/\s1.heap.get? C=some (excClassObj nm q C N bs bm ax sn sub ab col dd k0 k1 k2 k3 k5 newId)/\
   s1.heap.get? e=some {cls:=.ref C,dict:=dx,data:=.fields #[.ref t,.none,.none,.none,.bool false,.none]}/\E (.ref e) s1) E s):wpAny M A (raiseStmt env (some x) none) Q E s:=by
 have hcB:(Value.ref C::bm).contains (.type "BaseException")=true:=by rw[N1,hb,MM]
 unfold raiseStmt;refine A5 (F5 z (λv s1 z1=> ?_) λ_ _ y=>y);obtain⟨e,t,dx,rfl,hC,he,hE⟩:=z1;obtain⟨hp,g,d,tk,os⟩:=s1
 repeat (first|with_reducible refine O4 he ?_|with_reducible refine O4 hC ?_|(with_reducible refine Y0 hC ?_;rw[hcB])|wp_step)
 exact wpAny_raiseNew_none hh hE
end
section
variable{X:Cx}{EX:Ax}{a b c:Expr}{f g h:FE}{pos:Pos}
noncomputable def Aa(i:Nat):FE:=λ δ=>match δ[i]? with
 |some (some d)=> .ok (.sh d)
 |_=> .no
def eC(d:D):FE:=λ_=> .ok (.sh d)
def Ac(i:Nat){x:Str}(hN:X.N[i]? =some x:=by rfl)(hv:Fm X.env.scope x:=by trivial)(hd:AG x:=by decide)
  (bO:(x ==("__classdict__" :Str))=false:=by decide):ED X EX (.Name x pos) (Aa i):=
 PE.imp (Fd hN hv hd bO) λ σ H Q ⟨G,δ,g,s,o⟩=>by
  unfold Aa at o
  split at o
  ·rename_i d e;obtain⟨v,e1,r⟩:=s.get i d e;exact⟨v,e1,WP.use o g r⟩
  ·exact o.elim
def yC{e:Expr}{d:D}(he:PE X e (tC v))(hd:∀G,aM X.K G v d):ED X EX e (eC d):=
 PE.imp he λ σ H Q ⟨G,δ,g,s,o⟩=>WP.use o g (hd G)
def Am{i:Int}{j pos}:ED X EX (.Constant (.int i) j pos) (eC (.int i)):=yC Su λ_=> .int i
def iJ{b:Bool}{j pos}:ED X EX (.Constant (.bool b) j pos) (eC (.bl b)):=yC QY λ_=> .bl b
def iw{j pos}:ED X EX (.Constant .none j pos) (eC .aK):=yC Ss λ_=> .aK
def lU{x:Str}{j pos}:ED X EX (.Constant (.str x) j pos) (eC (.str x)):=yC Sr λ_=> .str x
def jF{x:Str}{i:Int}{t:Tok}(hg:Gl X x)(hm:X.mg x=some (.int i t))(hd:AG x:=by decide):ED X EX (.Name x pos) (eC (.int i)):=yC (HD (v:=.int i) hg hm ⟨t,rfl⟩ hd) λ_=> .int i
def Hv{x:Str}{z:Str}{t:Tok}(hg:Gl X x)(hm:X.mg x=some (.str z t))(hd:AG x:=by decide):ED X EX (.Name x pos) (eC (.str z)):=yC (HD (v:=.str z) hg hm ⟨t,rfl⟩ hd) λ_=> .str z
def rD(K:Frag)(r:D->D->R W):R2:=λx y H Q=>∃(EX:jl) (G:Hp) (a b:D),aB G H/\aM K G x a/\aM K G y b/\Out K EX G H (r a b) Q
abbrev Ee(X:Cx)(f:Value->Value->Sem Value)(r:D->D->R W):Prop:=cH X f (rD X.K r)
def Ag(r:D->D->R W)(f g:FE):FE:=λ δ=>(f δ).bind λa=>(g δ).bind λb=>r a.d b.d
def two{r:D->D->R W}{σ:Sg}{Q:VK}(q:tD K EX (Ag r f g) σ H Q):zV (rD K r) (tD K EX f) (tD K EX g) σ H Q:=by
 obtain⟨G,δ,g0,s0,o⟩:=q;exact tD.seq g0 s0 o λw v G1 H1 _ bM r1 o1=>tD.seq bM.gh (s0.mono bM.gg) o1 λw2 v2 G2 H2 _ aT r2 o2=>⟨_,G2,w.d,w2.d,aT.gh,r1.mono aT.gg,r2,o2⟩
def Aq{op:Operator}{r:D->D->R W}(ho:Ee X (binaryOp op) r)(ha:ED X EX a f)(hb:ED X EX b g):ED X EX (.BinOp a op b pos) (Ag r f g):=
 PE.imp (DS ho ha hb) λ_ _ _ q=>two q
def jf{op:CmpOp}{r:D->D->R W}(ho:Ee X (compareOp op) r)(ha:ED X EX a f)(hb:ED X EX b g)(hm:behindInMarks op b=false):ED X EX (.Compare a [op] [b] pos) (Ag r f g):=
 PE.imp (UL ho ha hb hm) λ_ _ _ q=>two q
noncomputable def Dw:D->R Bool
 | .bl b=> .ok b
 |_=> .no
def Aj(f:FE):FT:=λ δ=>(f δ).bind λw=>Dw w.d
def Hu{σ:Sg}{Q:Bool->Hp->Prop}(q:eG K EX (Aj f) σ H Q):tD K EX f σ H λx H'=>∃k,x=.bl k/\Q k H':=by
 obtain⟨G,δ,g0,s0,o⟩:=q;refine⟨G,δ,g0,s0, ?_⟩;unfold Aj at o;cases e:f δ with
 |ok w=>
  rw[e]at o;simp only[R.aI]at o;refine WP.intro λv G' H' st r=> ?_;revert r o;cases w.d with
  |bl k=>intro o r;cases r;exact⟨k,rfl,o G' H' st⟩
  |_=>intro o _;exact False.elim o
 |ex x=>rw[e]at o;exact o
 |no=>rw[e]at o;exact o
def Cf{op:CmpOp}{r:D->D->R W}(ho:Ee X (compareOp op) r)(ha:ED X EX a f)(hb:ED X EX b g)(hm:behindInMarks op b=false):TD X EX (.Compare a [op] [b] pos) (Aj (Ag r f g)):=
 PT.imp (UK ho ha hb hm) λ σ H Q q=>two (Hu q)
def mR(r r':D->D->R W)(f g h:FE):FE:=λ δ=>(f δ).bind λa=>(g δ).bind λb=>(r a.d b.d).bind λz=>(Dw z.d).bind λk=>
 if k=true then(h δ).bind λc=>r' b.d c.d else .ok (.sh (.bl false))
def DP{r r':D->D->R W}{σ:Sg}{Q:VK}(q:tD K EX (mR r r' f g h) σ H Q):wa (rD K r) (rD K r') (tD K EX f) (tD K EX g) (tD K EX h) σ H Q:=by
 obtain⟨G,δ,g0,s0,o⟩:=q;refine tD.seq g0 s0 o λw v G1 H1 _ bM r1 o1=>tD.seq bM.gh (s0.mono bM.gg) o1 λw2 v2 G2 H2 _ aT r2 o2=>⟨EX σ,G2,w.d,w2.d,aT.gh,r1.mono aT.gg,r2, ?_⟩;revert o2;cases r w.d w2.d with
 |ok z=>
  intro o2;refine WP.intro λv3 G3 H3 ja r3=> ?_;have o2:Out K (EX σ) G2 H2 ((Dw z.d).bind λk=>if k=true then(h δ).bind λc=>r' w2.d c.d else .ok (.sh (.bl false))) Q:=o2;revert r3 o2;cases z.d with
  |bl k=>
   intro r3 o2;cases r3;refine⟨k,rfl, ?_⟩;cases k with
   |true=>
    rw[if_pos rfl];have o3:Out K (EX σ) G2 H2 ((h δ).bind λc=>r' w2.d c.d) Q:=o2;exact tD.seq ja.gh (s0.mono (bM.gg.trans (aT.gg.trans ja.gg))) (o3.mono ja) λw4 v4 G4 H4 _ qj r4 o4=>⟨_,G4,w2.d,w4.d,qj.gh,r2.mono (ja.gg.trans qj.gg),r4,o4⟩
   |false=>
    rw[if_neg A7];have o3:WP K G2 H2 (.sh (.bl false)) Q:=o2;exact(o3.mono ja).use ja.gh (.bl false)
  |_=>intro _ o2;exact False.elim o2
 |ex x=>exact λo2=>o2
 |no=>exact λo2=>o2
def IE{op jc:CmpOp}{r r':D->D->R W}(ho:Ee X (compareOp op) r)(dJ:Ee X (compareOp jc) r')(ha:ED X EX a f)(hb:ED X EX b g)(hc:ED X EX c h)
  (hm:lastMarks [op,jc] [b,c]=false:=by with_unfolding_all rfl):ED X EX (.Compare a [op,jc] [b,c] pos) (mR r r' f g h):=
 PE.imp (Ww ho dJ ha hb hc hm) λ_ _ _ q=>DP q
def Wm{op jc:CmpOp}{r r':D->D->R W}(ho:Ee X (compareOp op) r)(dJ:Ee X (compareOp jc) r')(ha:ED X EX a f)(hb:ED X EX b g)(hc:ED X EX c h)
  (hm:lastMarks [op,jc] [b,c]=false:=by with_unfolding_all rfl):TD X EX (.Compare a [op,jc] [b,c] pos) (Aj (mR r r' f g h)):=
 PT.imp (Wv ho dJ ha hb hc hm) λ_ _ _ q=>DP (Hu q)
abbrev TW(X:Cx)(EX:Ax)(e:Expr)(f:FT):Prop:=PW X e (eG X.K EX f)
variable{p q:FT}{Cu:List Expr}
def Dz(p q:FT):FT:=λ δ=>(p δ).bind λb=>if b=true then q δ else .ok false
def Fy(p q:FT):FT:=λ δ=>(p δ).bind λb=>if b=true then .ok true else q δ
def Bx(p:FT):FT:=λ δ=>(p δ).bind λb=> .ok (!b)
def wK(ha:TD X EX a p):TW X EX (.BoolOp .And [a] pos) p:=UO ha
def iu(ha:TD X EX a p):TW X EX (.BoolOp .Or [a] pos) p:=Sq ha
def eG.two{σ:Sg}{Q:Bool->Hp->Prop}{k:Bool->DE->R Bool}{P:Bool->Hp->Prop}(h:eG K EX (λ δ=>(p δ).bind λb=>k b δ) σ H Q)
  (i:∀b H',eG K EX (k b) σ H' Q->P b H'):eG K EX p σ H P:=by
 obtain⟨G,δ,g0,s0,o⟩:=h;refine⟨G,δ,g0,s0, ?_⟩;cases e:p δ with
 |ok b=>
  simp only[e,R.aI]at o;refine λG' H' st=>i b H' ⟨G',δ,st.gh,s0.mono st.gg, ?_⟩;cases e2:k b δ with
  |ok c=>rw[e2]at o;exact λG2 H2 aT=>o G2 H2 (st.trans aT)
  |ex x=>rw[e2]at o;exact(EX σ).mono _ _ _ _ _ st o
  |no=>rw[e2]at o;exact o
 |ex x=>simp only[e,R.kB]at o;exact o
 |no=>simp only[e,R.ky]at o
def eG.now{σ:Sg}{Q:Bool->Hp->Prop}{c:Bool}(h:eG K EX (λ_=> .ok c) σ H Q):Q c H:=by
 obtain⟨G,δ,g0,s0,o⟩:=h;exact o G H (Step.refl g0)
def vV(ha:TD X EX a p)(hb:TW X EX (.BoolOp .And (b::Cu) pos) q):TW X EX (.BoolOp .And (a::b::Cu) pos) (Dz p q):=
 PW.imp (So ha hb) λ σ H Q h=>eG.two (k:=λb δ=>if b=true then q δ else .ok false) h λb H' h'=>by
  cases b with
  |true=>rw[if_pos rfl];exact h'
  |false=>rw[if_neg A7];exact eG.now h'
def fP(ha:TD X EX a p)(hb:TW X EX (.BoolOp .Or (b::Cu) pos) q):TW X EX (.BoolOp .Or (a::b::Cu) pos) (Fy p q):=
 PW.imp (QX ha hb) λ σ H Q h=>eG.two (k:=λb δ=>if b=true then .ok true else q δ) h λb H' h'=>by
  cases b with
  |true=>rw[if_pos rfl];exact eG.now h'
  |false=>rw[if_neg A7];exact h'
def Fk{e:Expr}(h:TW X EX e p):TD X EX e p:=h.pt
def mz(ha:TD X EX a p):TD X EX (.UnaryOp .Not a pos) (Bx p):=
 PT.imp (FK ha) λ σ H Q h=>eG.two (k:=λb _=> .ok (!b)) h λb H' h'=>eG.now h'
def Fv(f g:FE):FE:=λ δ=>(f δ).bind λa=>(Dw a.d).bind λk=>if k=true then g δ else .ok (.sh (.bl false))
def eOr(f g:FE):FE:=λ δ=>(f δ).bind λa=>(Dw a.d).bind λk=>if k=true then .ok (.sh (.bl true)) else g δ
def qQ(f:FE):FE:=λ δ=>(f δ).bind λa=>(Dw a.d).bind λk=> .ok (.sh (.bl (!k)))
def ir{op}(h:ED X EX a f):ED X EX (.BoolOp op [a] pos) f:=Sn h
def tD.iE{σ:Sg}{Q:VK}{k:Bool->DE->R W}{P:Bool->Hp->Prop}(h:tD K EX (λ δ=>(f δ).bind λa=>(Dw a.d).bind λc=>k c δ) σ H Q)
  (i:∀c H',tD K EX (k c) σ H' Q->P c H'):tD K EX f σ H λx H'=>∃c,x=.bl c/\P c H':=by
 obtain⟨G,δ,g0,s0,o⟩:=h;refine tD.seq g0 s0 o λw v G1 H1 _ bM r1 o1=> ?_;revert r1 o1;cases w.d with
 |bl c=>intro r1 o1;cases r1;exact⟨c,rfl,i c H1 ⟨G1,δ,bM.gh,s0.mono bM.gg,o1⟩⟩
 |_=>intro _ o1;exact False.elim o1
def tD.now{σ:Sg}{Q:VK}{d:D}(h:tD K EX (λ_=> .ok (.sh d)) σ H Q)(r:∀G,aM K G v d):Q v H:=by
 obtain⟨G,δ,g0,s0,o⟩:=h;exact WP.use o g0 (r G)
def fT(ha:ED X EX a f)(hb:ED X EX (.BoolOp .And (b::Cu) pos) g):ED X EX (.BoolOp .And (a::b::Cu) pos) (Fv f g):=
 PE.imp (Sm ha hb) λ σ H Q h=>tD.iE (k:=λk δ=>if k=true then g δ else .ok (.sh (.bl false))) h λc H' h'=>by
  cases c with
  |true=>rw[if_pos rfl];exact h'
  |false=>rw[if_neg A7];exact tD.now h' λ_=> .bl false
def FC(ha:ED X EX a f):ED X EX (.UnaryOp .Not a pos) (qQ f):=
 PE.imp (Sk ha) λ σ H Q h=>tD.iE (k:=λk _=> .ok (.sh (.bl (!k)))) h λc H' h'=>tD.now h' λ_=> .bl (!c)
def BY(p:FT)(f g:FE):FE:=λ δ=>(p δ).bind λk=>if k=true then f δ else g δ
def vI(hc:TD X EX c p)(ha:ED X EX a f)(hb:ED X EX b g):ED X EX (.IfExp c a b pos) (BY p f g):=
 PE.imp (WA hc ha hb) λ σ H Q ⟨G,δ,g0,s0,o⟩=>eG.seq g0 s0 o λk G' H' _ st o'=>by
  cases k with
  |true=>rw[if_pos rfl];exact⟨G',δ,st.gh,s0.mono st.gg,o'⟩
  |false=>rw[if_neg A7];exact⟨G',δ,st.gh,s0.mono st.gg,o'⟩
noncomputable def Bw:D->R Bool
 | .aK=> .ok false
 | .bl b=> .ok b
 | .int i=> .ok (i != 0)
 | .str x=>if x.length<=16777216 then .ok ((x.length:Int) != 0) else .no
 | .lst ds=> .ok (!ds.isEmpty)
 | .tup ds=> .ok (!ds.isEmpty)
 |_=> .no
def Bb(f:FE):FT:=λ δ=>(f δ).bind λw=>Bw w.d
def IC{G:Hp}{vs:List V}{ds:List D}(r:aC K G vs ds):(!ds.isEmpty)= !vs.isEmpty:=by cases r <;> rfl
def RO{G H:Hp}{d:D}{k:Bool}(g:aB G H)(r:aM K G v d)(e:Bw d=.ok k):ye K v H k:=by
 cases r with
 |aK=>cases e;rfl
 |bl b=>cases e;rfl
 |int i=>cases e;rfl
 |str x=>
  have e:(if x.length<=16777216 then R.ok ((x.length:Int) != 0) else .no)=.ok k:=e
  split at e
  ·rename_i hz;cases e;exact⟨by rw[D9];exact hz,rfl⟩
  ·cases e
 |lst h r=>cases e;exact .inl ⟨_,g.seq h,IC r⟩
 |tup h r=>cases e;exact .inr (.inl ⟨_,aB.tupS g h,IC r⟩)
 |dP _ _=>cases e
 |dO _ _ _ _ _=>cases e
 |aE _ _ _=>cases e
 |obj _ _ _ _=>cases e
def gB(ha:ED X EX a f)(he:∀whole,isTrue a X.env whole=(do let v<-whole;standAt a.pos;holding [v] (truthy v)):=by intro _;rfl):TD X EX a (Bb f):=
 PT.imp (IH ha he) λ σ H Q ⟨G,δ,g0,s0,o⟩=>by
  refine⟨G,δ,g0,s0, ?_⟩;unfold Bb at o;cases e:f δ with
  |ok w=>
   rw[e]at o;simp only[R.aI]at o;refine WP.intro λv G' H' st r=> ?_;cases e2:Bw w.d with
   |ok k=>rw[e2]at o;exact⟨k,RO st.gh r e2,o G' H' st⟩
   |ex x=>rw[e2]at o;exfalso;revert e2;cases w.d <;> simp only[Bw] <;> intro e2 <;> first|cases e2|(split at e2 <;> cases e2)
   |no=>rw[e2]at o;exact o.elim
  |ex x=>rw[e]at o;exact o
  |no=>rw[e]at o;exact o
variable{e:Expr}{es:List Expr}{fa:FA}
def Ad:FA:=λ_=> .ok []
def Ab(f:FE)(fa:FA):FA:=λ δ=>(f δ).bind λw=>(fa δ).bind λds=> .ok (w.d::ds)
def As:AD X EX [] Ad:=PA.imp mB λ σ H Q ⟨G,δ,g0,s0,o⟩=>o [] G H (Step.refl g0) .nil
def Ah(ha:ED X EX e f)(hr:AD X EX es fa)(hs:starEach (e::es) X.env=(false,eval e X.env)::starEach es X.env:=by rfl):AD X EX (e::es) (Ab f fa):=
 PA.imp (iS ha hr hs) λ σ H Q ⟨G,δ,g0,s0,o⟩=>by
  refine⟨G,δ,g0,s0, ?_⟩;unfold Ab at o;cases e1:f δ with
  |ok w=>
   rw[e1]at o;simp only[R.aI]at o;refine WP.intro λv G' H' st r=>⟨G',δ,st.gh,s0.mono st.gg, ?_⟩;cases e2:fa δ with
   |ok ds=>rw[e2]at o;exact λvs G2 H2 aT r2=>o (v::vs) G2 H2 (st.trans aT) (.cons (r.mono aT.gg) r2)
   |ex x=>rw[e2]at o;exact(EX σ).mono _ _ _ _ _ st o
   |no=>rw[e2]at o;exact o
  |ex x=>rw[e1]at o;exact o
  |no=>rw[e1]at o;exact o
def Ds(fa:FA):FE:=λ δ=>(fa δ).bind λds=>if ds.length<=16777216 then .ok (.sh (.tup ds)) else .no
def Dq(fa:FA):FE:=λ δ=>(fa δ).bind λds=>if ds.length<=16777216 then .ok (.ow (.lst ds)) else .no
def mQ{x1}(ha:AD X EX es fa):ED X EX (.Tuple es x1 pos) (Ds fa):=
 PE.imp (RW ha) λ σ H Q ⟨G,δ,g0,s0,o⟩=>gv.seq g0 s0 o λds vs G' H' _ st r o'=>by
  split at o'
  ·rename_i hz;refine⟨by rw[r.length,D9];exact hz,λp hp=>o' (.ref p) _ _ (Step.new st.gh hp _) (.tup (dD.of Bf) (r.mono (jV (st.gh.free hp) _)))⟩
  ·exact o'.elim
def my(ha:AD X EX es fa):ED X EX (.List es pos) (Dq fa):=
 PE.imp (vX ha) λ σ H Q ⟨G,δ,g0,s0,o⟩=>gv.seq g0 s0 o λds vs G' H' _ st r o'=>by
  split at o'
  ·rename_i hz;refine⟨by rw[r.length,D9];exact hz,λp hp=>sZ o' st.gh r p hp⟩
  ·exact o'.elim
def rDc(K:Frag)(fn:AF):List V->Hp->VK->Prop:=λvs H Q=>∃(EX:jl) (G:Hp) (ds:List D),aB G H/\aC K G vs ds/\Out K EX G H (fn ds) Q
abbrev Et(X:Cx)(v:Value)(fn:AF):Prop:=bR X v (rDc X.K fn)
def Av(fn:AF)(fa:FA):FE:=λ δ=>(fa δ).bind fn
def Ht{fn:AF}{σ:Sg}{Q:VK}(q:tD K EX (Av fn fa) σ H Q):Nj (rDc K fn) (gv K EX fa) σ H Q:=by
 obtain⟨G,δ,g0,s0,o⟩:=q;exact gv.seq g0 s0 o λds vs G' H' _ st r o'=>⟨_,G',ds,st.gh,r,o'⟩
variable{x:Str}{pp:Pos}{id T:String}{fn:AF}
def Eb(hc:Et X (.builtin id) fn)(hg:Gl X x)(hm:X.mg x=none)(hv:bootBuiltins x=some (.builtin id))(ha:AD X EX (e::es) fa)(hn:x≠ "__name__" :=by decide)(cW:AG x:=by decide)
  (he:starEach (e::es) X.env=(false,eval e X.env)::starEach es X.env:=by rfl) (bZ:(backTo pos (starEach es X.env)).any (·.1)=false:=by rfl):ED X EX (.Call (.Name x pp) (e::es) [] pos) (Av fn fa):=
 PE.imp (IF hc hg hm hv ha hn cW he bZ) λ_ _ _ q=>Ht q
def Jp(hc:Et X (.type T) fn)(hg:Gl X x)(hm:X.mg x=none)(hv:bootBuiltins x=some (.type T))(ha:AD X EX (e::es) fa)(hn:x≠ "__name__" :=by decide)(cW:AG x:=by decide)
  (he:starEach (e::es) X.env=(false,eval e X.env)::starEach es X.env:=by rfl) (bZ:(backTo pos (starEach es X.env)).any (·.1)=false:=by rfl):ED X EX (.Call (.Name x pp) (e::es) [] pos) (Av fn fa):=
 PE.imp (XF hc hg hm hv ha hn cW he bZ) λ_ _ _ q=>Ht q
def Ba:D->D->R W
 | .lst ds,.int i=>match dM ds i with|some d=> .ok (.sh d)|none=> .no
 | .tup ds,.int i=>match dM ds i with|some d=> .ok (.sh d)|none=> .no
 | .str z,.int i=>if z.length<=16777216 then(match dM z.cps.toList i with|some c=> .ok (.sh (.str ⟨#[c]⟩))|none=> .no) else .no
 |_,_=> .no
theorem aC.dM{G:Hp}{vs:List V}{ds:List D}{i:Int}{d:D}(r:aC K G vs ds)(h:L2.dM ds i=some d):∃v,L2.dM vs i=some v/\aM K G v d:=by
 unfold L2.dM at h⊢;rw[r.length];cases e:tQ ds.length i with
 |none=>rw[e]at h;cases h
 |some j=>rw[e]at h;exact r.get h
def PR:qI X (rD X.K Ba):=by
 intro value slice zc s σ H x y v u Q I rx ry h hs;obtain⟨EX,G,a,b,g,ra,rb,o⟩:=h;cases rb with
 |int i=>
  cases ra with
  |lst h r=>
   simp only[Ba]at o
   split at o
   ·rename_i d e;obtain⟨v,e1,r1⟩:=aC.dM r e;exact UE value slice zc s σ H _ _ _ _ Q I rx ry ⟨_,_,i,v,rfl,rfl,g.seq h,e1,WP.use o g r1⟩ hs
   ·exact o.elim
  |tup h r=>
   simp only[Ba]at o
   split at o
   ·rename_i d e;obtain⟨v,e1,r1⟩:=aC.dM r e;exact RV value slice zc s σ H _ _ _ _ Q I rx ry ⟨_,_,i,v,rfl,rfl,aB.tupS g h,e1,WP.use o g r1⟩ hs
   ·exact o.elim
  |str z=>
   simp only[Ba]at o
   split at o
   ·rename_i hz
    split at o
    ·rename_i c e;exact RU value slice zc s σ H _ _ _ _ Q I rx ry ⟨z,i,c,rfl,rfl,by rw[D9];exact hz,e,WP.use o g (.str _)⟩ hs
    ·exact o.elim
   ·exact o.elim
  |_=>exact False.elim o
 |_=>cases ra <;> exact False.elim o
def Ca(ha:ED X EX a f)(hb:ED X EX b g)(hs:Hy b:=by intro _ _;rfl):ED X EX (.Subscript a b pos) (Ag Ba f g):=
 PE.imp (QK PR ha hb hs) λ_ _ _ q=>two q
end
end L3
namespace L2
open PySem PySem.Spec PyProof.Rows
section
variable{κ:Type} [DecidableEq κ]
noncomputable def Co(kvs:List (κ×V))(k:κ):Option V:=(kvs.find? λkv=>decide (kv.1=k)).map (·.2)
noncomputable def El(kvs:List (κ×V))(k:κ)(v:V):List (κ×V):=
 if(kvs.any λkv=>decide (kv.1=k))=true then kvs.map (λkv=>if kv.1=k then(kv.1,v) else kv) else kvs ++ [(k,v)]
noncomputable def gK(kvs:List (κ×V))(k:κ):List (κ×V):=kvs.filter λkv=>decide (kv.1≠k)
def kQ{p:κ×V}{r:List (κ×V)}{k:κ}(e:p.1=k):Co (p::r) k=some p.2:=by simp[Co,Q1,e]
def jU{p:κ×V}{r:List (κ×V)}{k:κ}(e:¬p.1=k):Co (p::r) k=Co r k:=by simp[Co,Q1,e]
theorem pq(k:κ):∀kvs:List (κ×V),(kvs.any λkv=>decide (kv.1=k))=(Co kvs k).isSome
 | []=>rfl
 |p::r=>by
  rw[P0]
  by_cases e:p.1=k
  ·simp only[kQ e,C9 e,OG,Option.isSome_some]
  ·rw[jU e,C5 e,Bool.false_or];exact pq k r
theorem IB(k j:κ)(y:V):∀kvs:List (κ×V),Co (kvs.map λkv=>if kv.1=k then(kv.1,y) else kv) j=(Co kvs j).map λx=>if j=k then y else x
 | []=>rfl
 |p::r=>by
  have ih:=IB k j y r;rw[B3]
  by_cases h:p.1=k
  ·rw[if_pos h]
   by_cases e:p.1=j
   ·rw[kQ (p:=(p.1,y)) e,kQ e,M3,if_pos (e.symm.trans h)]
   ·rw[jU (p:=(p.1,y)) e,jU e,ih]
  ·rw[if_neg h]
   by_cases e:p.1=j
   ·rw[kQ (p:=p) e,kQ e,M3,if_neg (λz=>h (e.trans z))]
   ·rw[jU (p:=p) e,jU e,ih]
theorem Jo(k j:κ)(y:V):∀kvs:List (κ×V),Co kvs k=none->Co (kvs ++ [(k,y)]) j=if j=k then some y else Co kvs j
 | [],_=>by
  by_cases e:k=j
  ·rw[if_pos e.symm];exact kQ (p:=(k,y)) e
  ·rw[if_neg (λz=>e z.symm)];exact jU (p:=(k,y)) e
 |p::r,hn=>by
  rw[Q7];have hk:¬p.1=k:=λz=>by rw[kQ z]at hn;cases hn
  rw[jU hk]at hn;have ih:=Jo k j y r hn
  by_cases e:p.1=j
  ·rw[kQ e,kQ e,if_neg (λz=>hk (e.trans z))]
  ·rw[jU e,jU e,ih]
def Wl(kvs:List (κ×V))(k j:κ)(y:V):Co (El kvs k y) j=if j=k then some y else Co kvs j:=by
 unfold El
 by_cases a:(kvs.any λkv=>decide (kv.1=k))=true
 ·rw[if_pos a,IB];rw[pq]at a
  by_cases e:j=k
  ·obtain⟨x,hx⟩:=M7.mp a;rw[if_pos e,e,hx,M3,if_pos rfl]
  ·rw[if_neg e];cases Co kvs j with
   |none=>rfl
   |some x=>rw[M3,if_neg e]
 ·rw[if_neg a];refine Jo k j y kvs ?_;rw[pq]at a;cases q:Co kvs k with
  |none=>rfl
  |some x=>rw[q]at a;exact(a rfl).elim
def LF(kvs:List (κ×V))(k:κ)(v:V):(El kvs k v).length<=kvs.length + 1:=by
 unfold El
 split
 ·rw[A3];lia
 ·rw[B8,B4,K2];lia
def bJ.bY{o:Option V}{u:Option Value}(r:bJ o u):o.isSome=u.isSome:=by
 cases o with
 |none=>cases u with
  |none=>rfl
  |some _=>exact(show False from r).elim
 |some _=>cases u with
  |none=>exact(show False from r).elim
  |some _=>rfl
theorem bJ.getD{o:Option V}{u:Option Value}{d:V}{d':Value}(r:bJ o u)(rd:RelV d d'):RelV (o.getD d) (u.getD d'):=by
 cases o with
 |none=>cases u with
  |none=>exact rd
  |some _=>exact(show False from r).elim
 |some _=>cases u with
  |none=>exact(show False from r).elim
  |some _=>exact r
def KV.val{kvs:List (κ×V)}{vs:List (κ×Value)}(r:KV kvs vs)(k:κ):bJ (Co kvs k) (valueAt vs k):=by
 unfold KV at r
 induction r with
 |nil=>exact True.intro
 | @cons p q ps qs h t ih=>
  obtain⟨h1,h2⟩:=h
  by_cases e:p.1=k
  ·have e':q.1=k:=h1.symm.trans e;have b:valueAt (q::qs) k=some q.2:=by simp[valueAt,Q1,e']
   rw[kQ e,b];exact h2
  ·have e':¬q.1=k:=λz=>e (h1.trans z);have b:valueAt (q::qs) k=valueAt qs k:=by simp[valueAt,Q1,e']
   rw[jU e,b];exact ih
theorem KV.any{kvs:List (κ×V)}{vs:List (κ×Value)}(r:KV kvs vs)(k:κ):(kvs.any λkv=>decide (kv.1=k))=vs.any λkv=>decide (kv.1=k):=by
 unfold KV at r
 induction r with
 |nil=>rfl
 |cons h t ih=>rw[P0,P0,ih,h.1]
def KV.ve{kvs:List (κ×V)}{vs:List (κ×Value)}(r:KV kvs vs)(k:κ){y:V}{u:Value}(ry:RelV y u):
  KV (kvs.map λkv=>if kv.1=k then(kv.1,y) else kv) (vs.map λkv=>if kv.1=k then(kv.1,u) else kv):=by
 unfold KV at r⊢
 induction r with
 |nil=>exact .nil
 | @cons p q ps qs h t ih=>
  rw[B3,B3];refine .cons ?_ ih;obtain⟨h1,h2⟩:=h
  by_cases e:p.1=k
  ·rw[if_pos e,if_pos (h1.symm.trans e)];exact⟨h1,ry⟩
  ·rw[if_neg e,if_neg (λz=>e (h1.trans z))];exact⟨h1,h2⟩
def KV.put{kvs:List (κ×V)}{vs:List (κ×Value)}(r:KV kvs vs)(k:κ){y:V}{u:Value}(ry:RelV y u):KV (El kvs k y) (stored vs k u):=by
 unfold El stored;rw[r.any k]
 by_cases e:(vs.any λkv=>decide (kv.1=k))=true
 ·rw[if_pos e,if_pos e];exact r.ve k ry
 ·rw[if_neg e,if_neg e];exact Paired.snoc r ⟨rfl,ry⟩
def KV.drop{kvs:List (κ×V)}{vs:List (κ×Value)}(r:KV kvs vs)(k:κ):KV (gK kvs k) (without vs k):=by
 unfold KV at r⊢;unfold gK without
 induction r with
 |nil=>exact .nil
 | @cons p q ps qs h t ih=>
  obtain⟨h1,h2⟩:=h;rw[Q8,Q8]
  by_cases e:p.1=k
  ·have a:¬decide (p.1≠k)=true:=by simp[e]
   have b:¬decide (q.1≠k)=true:=by simp[h1.symm.trans e]
   rw[if_neg a,if_neg b];exact ih
  ·have e':¬q.1=k:=λz=>e (h1.trans z);have a:decide (p.1≠k)=true:=by simp[e]
   have b:decide (q.1≠k)=true:=by simp[e']
   rw[if_pos a,if_pos b];exact .cons ⟨h1,h2⟩ ih
def KV.keys{kvs:List (κ×V)}{vs:List (κ×Value)}(r:KV kvs vs):kvs.map (·.1)=vs.map (·.1):=by
 unfold KV at r
 induction r with
 |nil=>rfl
 |cons h t ih=>rw[B3,B3,ih,h.1]
theorem KV.length{kvs:List (κ×V)}{vs:List (κ×Value)}(r:KV kvs vs):kvs.length=vs.length:=X2 r
def Wk(kvs:List (κ×V))(k:κ):(gK kvs k).length<=kvs.length:=M6 _ _
end
def fO{P:Program}{w:World}{k:Ae}{u:Value}(r:RelV (kV k) u):(Ec P w).is k u=true:=by
 cases k with
 |inl i=>obtain⟨t,e⟩:=(show∃t,u=Value.int i t from r);subst e;exact Zh P w i t
 |inr x=>obtain⟨t,e⟩:=(show∃t,u=Value.str x t from r);subst e;exact Zg P w x t
theorem Jn{P:Program}{w:World}:∀{ks:List Ae} {us:List Value},Vals (ks.map kV) us->ItemsAre (Ec P w) ks us
 | [],_,r=>by rw[O0]at r;cases r;exact .nil
 |k::ks,_,r=>by
  rw[B3]at r;cases r with
  |cons h t=>exact .cons (fO h) (Jn t)
abbrev KT(H:Hp):List (List Ae×V)->List (List Ae×Addr×Value)->Prop:=Paired λp q=>p.1=q.1/\H q.2.1=some (.tup (p.1.map kV))/\RelV p.2 q.2.2
def KT.val{kvs:List (List Ae×V)}{xs:List (List Ae×Addr×Value)}(r:KT H kvs xs)(k:List Ae):bJ (Co kvs k) ((atKey xs k).map (·.2)):=by
 induction r with
 |nil=>exact True.intro
 | @cons p q ps qs h t ih=>
  obtain⟨h1,_,h2⟩:=h
  by_cases e:p.1=k
  ·have e':q.1=k:=h1.symm.trans e;have b:atKey (q::qs) k=some q.2:=by simp[atKey,Q1,e']
   rw[kQ e,b];exact h2
  ·have e':¬q.1=k:=λz=>e (h1.trans z);have b:atKey (q::qs) k=atKey qs k:=by simp[atKey,Q1,e']
   rw[jU e,b];exact ih
def KT.ve{kvs:List (List Ae×V)}{xs:List (List Ae×Addr×Value)}(r:KT H kvs xs)(k:List Ae){y:V}{u:Value}(ry:RelV y u):
  KT H (kvs.map λkv=>if kv.1=k then(kv.1,y) else kv) (xs.map (putAt k u)):=by
 induction r with
 |nil=>exact .nil
 | @cons p q ps qs h t ih=>
  rw[B3,B3];refine .cons ?_ ih;obtain⟨h1,h2,h3⟩:=h;unfold putAt
  by_cases e:p.1=k
  ·rw[if_pos e,if_pos (h1.symm.trans e)];exact⟨h1,h2,ry⟩
  ·rw[if_neg e,if_neg (λz=>e (h1.trans z))];exact⟨h1,h2,h3⟩
def KT.put{kvs:List (List Ae×V)}{xs:List (List Ae×Addr×Value)}(r:KT H kvs xs)(k:List Ae){b:Addr}{y:V}{u:Value}(hb:H b=some (.tup (k.map kV)))(ry:RelV y u):
  KT H (El kvs k y) (storedH xs k b u):=by
 have e:(kvs.any λkv=>decide (kv.1=k))=(atKey xs k).isSome:=by
  rw[pq,(r.val k).bY,Z7]
 unfold El storedH;rw[e]
 by_cases q:(atKey xs k).isSome=true
 ·rw[if_pos q,if_pos q];exact r.ve k ry
 ·rw[if_neg q,if_neg q];exact Paired.snoc r ⟨rfl,hb,ry⟩
def KT.keeps{H H':Hp}{kvs:List (List Ae×V)}{xs:List (List Ae×Addr×Value)}(r:KT H kvs xs)(ht:∀b ys,H b=some (.tup ys)->H' b=some (.tup ys)):KT H' kvs xs:=
 Paired.vh r λ_ _ z=>⟨z.1,ht _ _ z.2.1,z.2.2⟩
section
variable{P:Program}{w:World}{H:Hp}{h:Heap}{a:Addr}
def DO{u:HO}(ok:cP P w H h)(e:Rd H a u):aP P w H h a u:=e.ok ok
def iZ{kvs:List (Ae×V)}(ok:cP P w H h)(e:Rd H a (.dK kvs)):kvs.length<=sizeLine/\(a ==sysModules)=false/\∃vs,KV kvs vs/\h.DictOf (Ec P w) a vs:=
 show aP P w H h a (.dK kvs) from DO ok e
def rg{kvs:List (Ae×V)}(ok:cP P w H h)(e:H a=some (.dK kvs)):kvs.length<=sizeLine/\(a ==sysModules)=false/\∃vs,KV kvs vs/\h.DictOf (Ec P w) a vs:=iZ ok (.inl e)
def lS{ks:List Ae}(ok:cP P w H h)(e:H a=some (.tup (ks.map kV))):(tupleKind (Ec P w)).is h ks a:=by
 obtain⟨_,its,r,o,h1,h2,n,h3⟩:=(show aP P w H h a (.tup (ks.map kV)) from ok a _ e);exact⟨o,its.toArray,n,h1,h2,h3,by simpa using Jn r⟩
def jw{kvs:List (List Ae×V)}(ok:cP P w H h)(e:Rd H a (.dT kvs)):kvs.length<=sizeLine/\(a ==sysModules)=false/\
  ∃xs,KT H kvs xs/\h.DictOfH (tupleKind (Ec P w)) a xs:=by
 obtain⟨z,y,xs,r,o,es,ep,h1,h2,h3,h4,h5⟩:=(show aP P w H h a (.dT kvs) from DO ok e);refine⟨z,y,xs,r,o,es,ep,h1,h2,h3,h4,λx hx=> ?_,h5⟩;have all:∀{l:List (List Ae×V)} {m:List (List Ae×Addr×Value)},KT H l m->∀x∈m,(tupleKind (Ec P w)).is h x.1 x.2.1:=by
  intro l m q
  induction q with
  |nil=>intro x hx;exact nomatch hx
  | @cons p q ps qs hq t ih=>
   intro x hx;rcases C7.mp hx with e|hx
   ·subst e;exact lS ok (by rw[<-hq.1];exact hq.2.1)
   ·exact ih x hx
 exact all r x hx
def QJ{kvs:List (List Ae×V)}(ok:cP P w H h)(e:H a=some (.dT kvs)):kvs.length<=sizeLine/\(a ==sysModules)=false/\
  ∃xs,KT H kvs xs/\h.DictOfH (tupleKind (Ec P w)) a xs:=jw ok (.inl e)
end
def cV(H:Hp)(a:Addr)(y:V)(r:Option V):Prop:=
 (∃kvs k,Rd H a (.dK kvs)/\y=kV k/\r=Co kvs k)\/∃kvs k b,Rd H a (.dT kvs)/\y=.ref b/\H b=some (.tup (k.map kV))/\r=Co kvs k
def fW(H:Hp)(a:Addr)(y v:V)(H':Hp):Prop:=
 (∃kvs k,H a=some (.dK kvs)/\y=kV k/\kvs.length < sizeLine/\H'=upd H a (.dK (El kvs k v)))\/
 ∃kvs k b,H a=some (.dT kvs)/\y=.ref b/\H b=some (.tup (k.map kV))/\kvs.length < sizeLine/\H'=upd H a (.dT (El kvs k v))
def cV.t{a b:Addr}{kvs:List (List Ae×V)}{k:List Ae}(e:H a=some (.dT kvs))(eb:H b=some (.tup (k.map kV))):cV H a (.ref b) (Co kvs k):=.inr ⟨kvs,k,b,.inl e,rfl,eb,rfl⟩
theorem fW.k{a:Addr}{kvs:List (Ae×V)}{k:Ae}(e:H a=some (.dK kvs))(hl:kvs.length < sizeLine):fW H a (kV k) v (upd H a (.dK (El kvs k v))):=.inl ⟨kvs,k,e,rfl,hl,rfl⟩
def fW.t{a b:Addr}{kvs:List (List Ae×V)}{k:List Ae}(e:H a=some (.dT kvs))(eb:H b=some (.tup (k.map kV)))(hl:kvs.length < sizeLine):
  fW H a (.ref b) v (upd H a (.dT (El kvs k v))):=.inr ⟨kvs,k,b,e,rfl,eb,hl,rfl⟩
section
variable{X:Cx}{zc:AE}{σ:St}{H:Hp}{s:Shared}{a:Addr}{y v:V}{u r:Value}{o:Option V}{A:Around}{E:AA}
def Inv.big(I:Inv X zc σ H s):sysModules < s.heap.objs.size:=by
 have h:mainGlobals < s.heap.objs.size:=(I.mod.glob.keeps I.bk).lt;exact Nat.lt_trans ⋯ h
def Xw{Q:AA}(hu:A.units + 1 < cLine)(I:Inv X zc σ H s)(g:cV H a y (some v))(ry:RelV y u)(h:∀w' s',Inv X zc σ H s'->RelV v w'->Q w' s'):
  wpAny (model X.prog X.w) A (getItem (.ref a) u) Q E s:=by
 rcases g with⟨kvs,k,e,ey,l⟩|⟨kvs,k,b,e,ey,eb,l⟩
 ·subst ey;obtain⟨z,hd,vs,rel,dd⟩:=iZ I.aJ e;obtain⟨w',hw,gJ⟩:=bJ.some_of (v:=v) (o:=valueAt vs k) (by rw[l];exact rel.val k);exact wpAny_getItem_of (fO ry) dd.mapOf hw (h w' _ (I.tok _) gJ)
 ·subst ey;cases(show u=Value.ref b from ry);obtain⟨z,hd,xs,rel,dd⟩:=jw I.aJ e;obtain⟨w',hw,gJ⟩:=bJ.some_of (v:=v) (o:=(atKey xs k).map (·.2)) (by rw[l];exact rel.val k);obtain⟨p,hp,qw⟩:=E8.mp hw;refine wpAny_getItem_heap (R3 hu) (lS I.aJ eb) dd hp ?_;rw[qw];exact h w' _ (I.tok _) gJ
def Wf{Q:AA}(hu:A.units + 1 < cLine)(I:Inv X zc σ H s)(g:cV H a y o)(ry:RelV y u)(h:∀s',Inv X zc σ H s'->Q (.bool o.isSome) s'):
  wpAny (model X.prog X.w) A (compareOp .In u (.ref a)) Q E s:=by
 rcases g with⟨kvs,k,e,ey,l⟩|⟨kvs,k,b,e,ey,eb,l⟩
 ·subst ey;obtain⟨z,hd,vs,rel,dd⟩:=iZ I.aJ e;refine wpAny_in_of (fO ry) hd dd.mapOf ?_;rw[<-(rel.val k).bY,<-l];exact h _ (I.tok _)
 ·subst ey;cases(show u=Value.ref b from ry);obtain⟨z,hd,xs,rel,dd⟩:=jw I.aJ e;refine wpAny_in_heap (R3 hu) (lS I.aJ eb) hd dd ?_;have q:=(rel.val k).bY;rw[Z7]at q;rw[<-q,<-l];exact h _ (I.tok _)
def UB{Q:AA}(hu:A.units + 1 < cLine)(I:Inv X zc σ H s)(g:cV H a y o)(ry:RelV y u)(h:∀s',Inv X zc σ H s'->Q (.bool (!o.isSome)) s'):
  wpAny (model X.prog X.w) A (compareOp .NotIn u (.ref a)) Q E s:=by
 rcases g with⟨kvs,k,e,ey,l⟩|⟨kvs,k,b,e,ey,eb,l⟩
 ·subst ey;obtain⟨z,hd,vs,rel,dd⟩:=iZ I.aJ e;refine wpAny_notIn_of (fO ry) hd dd.mapOf ?_;rw[<-(rel.val k).bY,<-l];exact h _ (I.tok _)
 ·subst ey;cases(show u=Value.ref b from ry);obtain⟨z,hd,xs,rel,dd⟩:=jw I.aJ e;refine wpAny_notIn_heap (R3 hu) (lS I.aJ eb) hd dd ?_;have q:=(rel.val k).bY;rw[Z7]at q;rw[<-q,<-l];exact h _ (I.tok _)
def oW{h':Heap}{t':Nat}{ob:HO}(I:Inv X zc σ H s)(mu:CG (H a))(hs:Heap.SameBut a s.heap h')(he:∃q,h'.get? a=some q)(new:aP X.prog X.w (upd H a ob) h' a ob):
  Inv X zc σ (upd H a ob) {s with heap:=h',toks:=t'}:=
 I.write (x:=a) (e:=a) mu (.inl rfl) (λb q hb z=>(hs.2 b hb).trans z) he new
def rE{P:Program}{w:World}{H':Hp}{h':Heap}{kvs:List (Ae×V)}{vs:List (Ae×Value)}(z:kvs.length<=sizeLine)(hd:(a ==sysModules)=false)(rel:KV kvs vs)(dd:h'.DictOf (Ec P w) a vs):
  aP P w H' h' a (.dK kvs):=⟨z,hd,vs,rel,dd⟩
def Xv{H':Hp}{Q:Unit->Shared->Prop}(hu:A.units + 1 < cLine)(I:Inv X zc σ H s)(g:fW H a y v H')(ry:RelV y u)(rv:RelV v r)(h:∀s',Inv X zc σ H' s'->Q .unit s'):
  wpAny (model X.prog X.w) A (setItem (.ref a) u r) Q E s:=by
 rcases g with⟨kvs,k,e,ey,l,eH⟩|⟨kvs,k,b,e,ey,eb,l,eH⟩
 ·subst ey eH;obtain⟨z,hd,vs,rel,dd⟩:=rg I.aJ e;have hz:vs.length<=sizeLine:=by rw[<-rel.length];exact z
  have hl:(El kvs k v).length<=sizeLine:=by have:=LF kvs k v;lia
  refine wpAny_setItem_pairs (hsz:=hz) (fO ry) dd λh' jZ hs=>h _ ?_;have he:∃q,h'.get? a=some q:=let⟨q,_,_,hq,_⟩:=jZ;⟨q,hq⟩;exact oW I (by rw[e];exact True.intro) hs he (rE hl hd (rel.put k rv) jZ)
 ·subst ey eH;cases(show u=Value.ref b from ry);obtain⟨z,hd,xs,rel,dd⟩:=QJ I.aJ e;have hz:xs.length<=sizeLine:=by rw[<-X2 rel];exact z
  have hl:(El kvs k v).length<=sizeLine:=by have:=LF kvs k v;lia
  refine wpAny_setItem_heap (hsz:=hz) (R3 hu) (lS I.aJ eb) dd λh' jZ hs=>h _ ?_;obtain⟨q,es,ep,hq,h2,h3,h4,_,h5⟩:=jZ;refine oW I (by rw[e];exact True.intro) hs ⟨q,hq⟩ ⟨hl,hd,_,(rel.put k eb rv).keeps λc ys ec=> ?_,q,es,ep,hq,h2,h3,h4,h5⟩;rw[Ao (QZ ec e (λz=>nomatch z))];exact ec
end
section
variable{X:Cx}{zc:AE}{σ:St}{H:Hp}{s:Shared}{a:Addr}{kvs:List (Ae×V)}{k:Ae}{u:Value}{A:Around}{E:AA}
def QI{more:List Value}{Q:AA}(I:Inv X zc σ H s)(e:H a=some (.dK kvs))(ry:RelV (kV k) u)(l:Co kvs k=some v)(hm:more= []\/∃x,more= [x])
  (h:∀w' s',Inv X zc σ (upd H a (.dK (gK kvs k))) s'->RelV v w'->Q w' s'):wpAny (model X.prog X.w) A (call (.builtin "dict.pop") (.ref a::u::more)) Q E s:=by
 obtain⟨z,hd,vs,rel,dd⟩:=rg I.aJ e;obtain⟨w',hw,gJ⟩:=bJ.some_of (v:=v) (o:=valueAt vs k) (by rw[<-l];exact rel.val k);have hp:(keyPart u).isSome=true:=by
  cases k with
  |inl i=>obtain⟨t,q⟩:=(show∃t,u=Value.int i t from ry);subst q;rfl
  |inr x=>obtain⟨t,q⟩:=(show∃t,u=Value.str x t from ry);subst q;rfl
 have ha:argsOk "dict.pop" ⟨.ref a::u::more,[]⟩:=by
  rcases hm with q|⟨x,q⟩
  ·subst q;exact PySem.F.args_dict_pop_2 _ _
  ·subst q;exact PySem.F.args_dict_pop_3 _ _ _
 refine V4 PySem.F.slot_dict_pop dd.typeIs PySem.F.entry_dict_pop ha (meets_dict_pop_there (Ec X.prog X.w) a (fO ry) more hm hp)
  ⟨vs,w',dd,by rw[<-rel.length];exact z,hw,λh' jZ hs=>h w' _ ?_ gJ⟩
 have he:∃q,h'.get? a=some q:=let⟨q,_,_,hq,_⟩:=jZ;⟨q,hq⟩;exact oW I (by rw[e];exact True.intro) hs he (rE (D4 (Wk kvs k) z) hd (rel.drop k) jZ)
def QH{Q:AA}(I:Inv X zc σ H s)(e:Rd H a (.dK kvs))(h:∀t s',Inv X zc σ H s'->Q (.int kvs.length t) s'):wpAny (model X.prog X.w) A (call (.builtin "len") [.ref a]) Q E s:=by
 obtain⟨z,hd,vs,rel,dd⟩:=iZ I.aJ e;refine call_len_dict hd dd (by rw[<-rel.length];rw[D9]at z;lia) ?_;rw[<-rel.length];exact h _ _ (I.tok _)
end
def yh(i:Expr):Prop:=∀ov iv,subscripted i false ov iv=operate [ov,iv] (getItem ov iv)
def UA{prog:Program}{w:World}{A:Around}{E:AA}{s:Shared}{env:Env}{value slice:Expr}{T id:String}{Q:AA}
  (hl:typeLookup (.type T) "__getitem__" =pure (some (.builtin id))) (hs:yh slice)
  (h:wpAny (model prog w) A (eval value env) (λo s₁=>wpAny (model prog w) A (eval slice env) (λi s₂=>s₂.TypeIs o T/\wpAny (model prog w) A (getItem o i) Q E s₂) E s₁) E s):
  wpAny (model prog w) A (eval (.Subscript value slice pos) env) Q E s:=by
 refine Subscript_ (F5 h (λo s₁ h₁=>F5 h₁ (λi s₂ h₂=> ?_) λ_ _ x=>x) λ_ _ x=>x);obtain⟨hT,h₂⟩:=h₂;unfold subscriptTail;refine A5 ?_;rw[getitemInPython_of_ne hT.not_modules];refine A5 (wpAny_specialOf hT hl ?_);have fin:wpAny (model prog w) A (subscripted slice false o i) (λr s₃=>wpAny (model prog w) A (letTemporaryGo value o r >>=λ_=>pure r) Q E s₃) E s₂:=by
  rw[hs o i];exact wpAny_operating (F5 h₂ (λr s₃ h₃=>A5 (wpAny_letTemporaryGo (F0 h₃))) λ_ _ x=>x)
 first
  |exact F0 (A5 fin)
  |exact A5 (F0 (A5 fin))
  |exact A5 fin
def Zf{zc:AE}{σ:St}{s:Shared}{a:Addr}{y:V}{o:Option V}(I:Inv X zc σ H s)(g:cV H a y o):s.TypeIs (.ref a) "dict" :=by
 rcases g with⟨kvs,k,e,_,_⟩|⟨kvs,k,b,e,_,_,_⟩
 ·obtain⟨_,_,vs,_,dd⟩:=iZ I.aJ e;exact dd.typeIs
 ·obtain⟨_,_,xs,_,dd⟩:=jw I.aJ e;exact dd.typeIs
def QG(td ty:TE):TE:=λ σ H Q=>td σ H λx H1=>ty σ H1 λy H2=>∃a v,x=.ref a/\cV H2 a y (some v)/\Q v H2
def QF(td ty tv:TE):TS:=λD σ H=>tv σ H λv H1=>td σ H1 λx H2=>ty σ H2 λy H3=>∃a H4,x=.ref a/\fW H3 a y v H4/\D.nx σ H4
section
variable{X:Cx}{o i e value:Expr}{pos pos' zg:Pos}{td ty tv:TE}
def Uz(hu:X.A.units + 1 < cLine)(ho:PE X o td)(hi:PE X i ty)(hs:yh i):PE X (.Subscript o i pos) (QG td ty):=by
 intro zc s σ H Q I h;refine UA PySem.F.slot_dict_getitem.lookup hs (Ay (ho zc s σ H _ I h) λu s1 ⟨x,H1,I1,rx,q1⟩=>Ay (hi zc s1 σ H1 _ I1 q1) λiv s2 ⟨y,H2,I2,ry,a,v,ex,g,q2⟩=> ?_);subst ex;obtain rfl:u=Value.ref a:=rx;exact⟨Zf I2 g,Xw hu I2 g ry λw' s3 I3 gJ=>⟨v,H2,I3,gJ,q2⟩⟩
def wJ(hu:X.A.units + 1 < cLine)(ho:PE X o td)(hi:PE X i ty)(hv:PE X value tv)(hs:swapsWith value (some (.Subscript o i pos')) pos.line X.env=pure false):
  PS X (.Assign [.Subscript o i pos'] value pos) (QF td ty tv):=by
 intro zc s σ H D I h;refine wpAny_Assign_Subscript (Ay (hv zc s σ H _ I h) λr s1 ⟨v,H1,I1,rv,q1⟩=>Ay (ho zc s1 σ H1 _ I1 q1) λu s2 ⟨x,H2,I2,rx,q2⟩=>Ay (hi zc s2 σ H2 _ I2 q2) λiv s3 ⟨y,H3,I3,ry,a,H4,ex,g,q3⟩=> ?_) hs;subst ex;obtain rfl:u=Value.ref a:=rx;exact Xv hu I3 g ry rv λs4 I4=>⟨σ,H4,I4,q3⟩
end
def IA{P:Program}{w:World}(h:Heap)(hb:sysModules < h.objs.size):aP P w H (h.push {cls:=.type "dict",data:=.dict #[]}) h.objs.size (.dK []):=
 ⟨K5 _,O6.mpr (Ne.symm (D8 hb)),[],.nil,Heap.DictOf.new h⟩
def RN:TE:=λ_ H Q=>∀p,H p=none->Q (.ref p) (upd H p (.dK []))
section
variable{X:Cx}{pos:Pos}
def Wj:PE X (.Dict [] [] pos) RN:=λzc s σ H Q I h=>
 wpAny_Dict_empty ⟨.ref s.heap.objs.size,_,I.laid (a:=s.heap.objs.size) (o:=.dK []) (t':=s.toks) (λ_ _ q=>A4 _ q) (B6 _) (IA s.heap I.big),rfl,h _ (I.aJ.fresh (B6 _))⟩
end
def vU:List (TE×TE)->St->Hp->(List (V×V)->Hp->Prop)->Prop
 | [],_,H,Q=>Q [] H
 |(tk,tv)::r,σ,H,Q=>tk σ H λx H1=>tv σ H1 λy H2=>vU r σ H2 λps H3=>Q ((x,y)::ps) H3
abbrev VV:List (V×V)->List (Value×Value)->Prop:=Paired λp q=>RelV p.1 q.1/\RelV p.2 q.2
def MP(X:Cx)(pos:Pos)(keys:List (Option Expr))(values:List Expr)(qg:List (TE×TE)):Prop:=
 ∀(zc:AE) (s:Shared) (σ:St) (H:Hp) (Q:List (V×V)->Hp->Prop),Inv X zc σ H s->vU qg σ H Q->
  wpAny (model X.prog X.w) X.A (evalPairs (pairTrees keys values X.env pos)) (λvs s'=>∃ps H',Inv X zc σ H' s'/\VV ps vs/\Q ps H') X.xe s
def Uy:MP X pos [] [] []:=λzc s σ H Q I h=>pairTrees_nil_walk ⟨[],H,I,.nil,h⟩
def Wi{k v:Expr}{ks:List (Option Expr)}{vs:List Expr}{tk tv:TE}{qg:List (TE×TE)}(hk:PE X k tk)(hv:PE X v tv)(hr:MP X pos ks vs qg):
  MP X pos (some k::ks) (v::vs) ((tk,tv)::qg):=λzc s σ H Q I h=>
 pairTrees_cons_walk (Ay (hk zc s σ H _ I h) λu s1 ⟨x,H1,I1,rx,q1⟩=>Ay (hv zc s1 σ H1 _ I1 q1) λw2 s2 ⟨y,H2,I2,ry,q2⟩=>
  Ay (hr zc s2 σ H2 _ I2 q2) λws s3 ⟨ps,H3,I3,rel,q3⟩=>⟨(x,y)::ps,H3,I3,.cons ⟨rx,ry⟩ rel,q3⟩)
def oH(kvs more:List (Ae×V)):List (Ae×V):=more.foldl (λzm kv=>El zm kv.1 kv.2) kvs
def KV.merge:∀{more:List (Ae×V)} {rs:List (Ae×Value)} {kvs:List (Ae×V)} {vs:List (Ae×Value)},KV more rs->KV kvs vs->KV (oH kvs more) (merged vs rs):=by
 intro more rs kvs vs r;unfold KV at r
 induction r generalizing kvs vs with
 |nil=>intro q;exact q
 | @cons p q ps qs h t ih=>
  intro r0;have e:KV (El kvs p.1 p.2) (stored vs q.1 q.2):=by
   have:=r0.put p.1 h.2;rw[<-h.1];exact this
  exact ih e
theorem KY:∀(more kvs:List (Ae×V)),(oH kvs more).length<=kvs.length + more.length
 | [],kvs=>by show kvs.length<=kvs.length + 0;lia
 |p::r,kvs=>by
  have h1:=KY r (El kvs p.1 p.2);have h2:=LF kvs p.1 p.2;show(oH (El kvs p.1 p.2) r).length<=_;rw[B4];lia
theorem JV{P:Program}{w:World}:∀{kvs:List (Ae×V)} {ws:List (Value×Value)},VV (kvs.map λkv=>(kV kv.1,kv.2)) ws->∃rs,Carries (Ec P w) ws rs/\KV kvs rs
 | [],_,r=>by rw[O0]at r;cases r;exact⟨[],True.intro,.nil⟩
 |p::kvs,_,r=>by
  rw[B3]at r;cases r with
  | @cons a b as bs h t=>
   obtain⟨rs,c,q⟩:=JV (P:=P) (w:=w) t;obtain⟨b1,b2⟩:=b;exact⟨(p.1,b2)::rs,⟨fO h.1,rfl,c⟩,.cons ⟨rfl,h.2⟩ q⟩
def QE(qg:List (TE×TE)):TE:=λ σ H Q=>∀p,H p=none->vU qg σ (upd H p (.dK [])) λps H2=>H2 p=some (.dK [])/\∃kvs:List (Ae×V),ps=kvs.map (λkv=>(kV kv.1,kv.2))/\kvs.length<=15/\Q (.ref p) (upd H2 p (.dK (oH [] kvs)))
def Ux{keys:List (Option Expr)}{values:List Expr}{qg:List (TE×TE)}(h:MP X pos keys values qg)(bf:keys.all (·.isSome)=true)(hl:keys.length=values.length)(h0:keys≠ [])
  (h15:keys.length<=15):PE X (.Dict keys values pos) (QE qg):=by
 intro zc s σ H Q I q;have hn:=I.aJ.fresh (B6 s.heap.objs.size);have I1:=I.laid (a:=s.heap.objs.size) (o:=.dK []) (h':=s.heap.push {cls:=.type "dict",data:=.dict #[]}) (t':=s.toks) (λ_ _ q=>A4 _ q) (B6 _) (IA s.heap I.big);refine wpAny_Dict_walk (knd:=Ec X.prog X.w) bf hl h0 h15 (Ay (h zc _ σ _ _ I1 (q _ hn)) λws s2 ⟨ps,H2,I2,rel,e,kvs,ep,lk,q2⟩=> ?_);subst ep;obtain⟨rs,c,rk⟩:=JV (P:=X.prog) (w:=X.w) rel;obtain⟨z,hd,dB,r0,dd⟩:=rg I2.aJ e;cases r0;refine⟨rs,c,dd,λh' jZ hs=>⟨.ref s.heap.objs.size,_, ?_,rfl,q2⟩⟩;have hz:(oH [] kvs).length<=sizeLine:=by
  have h1:=KY kvs [];rw[K2]at h1;rw[D9];lia
 have he:∃q,h'.get? s.heap.objs.size=some q:=let⟨q,_,_,hq,_⟩:=jZ;⟨q,hq⟩;exact oW I2 (by rw[e];exact True.intro) hs he (rE hz hd (rk.merge .nil) jZ)
structure M1(X:Cx)(o:Expr)(m:Str)(zf:Pos)(e:Expr)(zd:Pos):Prop where
 base:attributeBase o m X.env (eval o X.env)=eval o X.env
 zw:((backTo zd (starEach [e] X.env)).all (λx=> !x.1) && (backToKw zd (keywordEach [] X.env)).all (λx=>x.1.isSome)
  && decide (([e]:List Expr).length + ([]:List Keyword).length + (if([]:List Keyword).isEmpty then 0 else 1) < 30))=true
 line:(zf.endLine ==zd.line)=true
 trees:backTo zd (starEach [e] X.env)= [(false,eval e X.env)]
structure M2(X:Cx)(o:Expr)(m:Str)(zf:Pos)(e f:Expr)(zd:Pos):Prop where
 base:attributeBase o m X.env (eval o X.env)=eval o X.env
 zw:((backTo zd (starEach [e,f] X.env)).all (λx=> !x.1) && (backToKw zd (keywordEach [] X.env)).all (λx=>x.1.isSome)
  && decide (([e,f]:List Expr).length + ([]:List Keyword).length + (if([]:List Keyword).isEmpty then 0 else 1) < 30))=true
 line:(zf.endLine ==zd.line)=true
 trees:backTo zd (starEach [e,f] X.env)= [(false,eval e X.env),(false,eval f X.env)]
def MT(H:Hp)(a:Addr):Prop:=(∃kvs,Rd H a (.dK kvs))\/∃kvs,Rd H a (.dT kvs)
def vT{zc:AE}{σ:St}{s:Shared}{a:Addr}(I:Inv X zc σ H s)(d:MT H a):
  s.TypeIs (.ref a) "dict" /\(∀b,Value.ref a=.ref b->∃ob,s.heap.get? b=some ob/\ob.dict=none)/\(a ==sysModules)=false:=by
 rcases d with⟨kvs,e⟩|⟨kvs,e⟩
 ·obtain⟨_,hd,vs,_,dd⟩:=iZ I.aJ e;refine⟨dd.typeIs,λb q=> ?_,hd⟩;cases q;obtain⟨ob,_,_,h1,h2,_⟩:=dd;exact⟨ob,h1,h2.2.1⟩
 ·obtain⟨_,hd,xs,_,dd⟩:=jw I.aJ e;refine⟨dd.typeIs,λb q=> ?_,hd⟩;cases q;obtain⟨ob,_,_,h1,h2,_⟩:=dd;exact⟨ob,h1,h2.2.1⟩
section
variable{X:Cx}{zc:AE}{σ:St}{H:Hp}{s:Shared}{a:Addr}{y d:V}{u r:Value}{o:Option V}{A:Around}{E:AA}
def RM{Q:AA}(hu:A.units + 1 < cLine)(I:Inv X zc σ H s)(g:cV H a y o)(ry:RelV y u)(rd:RelV d r)(h:∀w' s',Inv X zc σ H s'->RelV (o.getD d) w'->Q w' s'):
  wpAny (model X.prog X.w) A (call (.builtin "dict.get") [.ref a,u,r]) Q E s:=by
 rcases g with⟨kvs,k,e,ey,l⟩|⟨kvs,k,b,e,ey,eb,l⟩
 ·subst ey;obtain⟨z,hd,vs,rel,dd⟩:=iZ I.aJ e;refine V4 W3 dd.typeIs ZB9 (ZA7 _ _ _) (meets_dict_get_default (Ec X.prog X.w) a (fO ry) hd r) ⟨_,dd.mapOf,h _ _ (I.tok _) ?_⟩;rw[l];exact(rel.val k).getD rd
 ·subst ey;cases(show u=Value.ref b from ry);obtain⟨z,hd,xs,rel,dd⟩:=jw I.aJ e;refine V4 W3 dd.typeIs ZB9 (ZA7 _ _ _) (meetsH_dict_get_default (tupleKind (Ec X.prog X.w)) a b hd r) ⟨R3 hu,k,xs,lS I.aJ eb,dd,h _ _ (I.tok _) ?_⟩;rw[l];exact(rel.val k).getD rd
end
def RL(td ty tx:TE):TE:=λ σ H Q=>td σ H λx H1=>∃a,x=.ref a/\MT H1 a/\ty σ H1 λy H2=>tx σ H2 λz H3=>∃o,cV H3 a y o/\Q (o.getD z) H3
def RK(td ty:TE):TE:=λ σ H Q=>td σ H λx H1=>∃a,x=.ref a/\MT H1 a/\ty σ H1 λy H2=>∃kvs k v,H2 a=some (.dK kvs)/\y=kV k/\Co kvs k=some v/\Q v (upd H2 a (.dK (gK kvs k)))
section
variable{X:Cx}{o e f:Expr}{zf zd:Pos}{td ty tx:TE}
def Wh(hu:X.A.units + 1 < cLine)(ho:PE X o td)(he:PE X e ty)(hf:PE X f tx)(m:M2 X o "get" zf e f zd):PE X (.Call (.Attribute o "get" zf) [e,f] [] zd) (RL td ty tx):=by
 intro zc s σ H Q I h;refine Z8 m.base m.zw m.line P3 W3 PySem.F.type_dict_get (Ay (ho zc s σ H _ I h) λu s1 ⟨x,H1,I1,rx,a,ex,d,q1⟩=> ?_);subst ex;obtain rfl:u=Value.ref a:=rx;obtain⟨t1,t2,_⟩:=vT I1 d;refine⟨t1,t2, ?_⟩;rw[m.trees];refine N9 rfl (T3 (M9 (Ay (he zc s1 σ H1 _ I1 q1) λiv s2 ⟨y,H2,I2,ry,q2⟩=>
  M9 (Ay (hf zc s2 σ H2 _ I2 q2) λfv s3 ⟨z,H3,I3,rz,ov,g,q3⟩=>Q4 ?_))))
 exact RM hu I3 g ry rz λw' s4 I4 gJ=>⟨_,H3,I4,gJ,q3⟩
def Iz(ho:PE X o td)(he:PE X e ty)(m:M1 X o "pop" zf e zd):PE X (.Call (.Attribute o "pop" zf) [e] [] zd) (RK td ty):=by
 intro zc s σ H Q I h;refine Z8 m.base m.zw m.line P3 PySem.F.slot_dict_pop PySem.F.type_dict_pop (Ay (ho zc s σ H _ I h) λu s1 ⟨x,H1,I1,rx,a,ex,d,q1⟩=> ?_);subst ex;obtain rfl:u=Value.ref a:=rx;obtain⟨t1,t2,_⟩:=vT I1 d;refine⟨t1,t2, ?_⟩;rw[m.trees];refine N9 rfl (T3 (M9 (Ay (he zc s1 σ H1 _ I1 q1) λiv s2 ⟨y,H2,I2,ry,kvs,k,v,ea,ey,l,q2⟩=>Q4 ?_)));subst ey;exact QI I2 ea ry l (.inl rfl) λw' s3 I3 gJ=>⟨v,_,I3,gJ,q2⟩
end
section
variable{X:Cx}{zc:AE}{σ:St}{H:Hp}{s:Shared}{a:Addr}{kvs:List (Ae×V)}{A:Around}{E:AA}
end
section
variable{X:Cx}{zc:AE}{σ:St}{H:Hp}{s:Shared}{a:Addr}{y:V}{u:Value}{A:Around}{E:AA}
end
section
variable{X:Cx}
end
section
variable{κ:Type} [DecidableEq κ]
def Xu{p:κ×V}{r:List (κ×V)}{k:κ}(e:p.1=k):gK (p::r) k=gK r k:=by
 unfold gK;rw[Q8,if_neg (by simp[e])]
def Xt{p:κ×V}{r:List (κ×V)}{k:κ}(e:¬p.1=k):gK (p::r) k=p::gK r k:=by
 unfold gK;rw[Q8,if_pos (by simp[e])]
end
end L2
namespace L3
open PySem PySem.Spec PyProof.Rows L2
variable{K:Frag}{fd:FuncData}{mg:AB}{us:List Value}{base:Heap}{H:Hp}{X:Cx}{pos:Pos}{v:V}
section
variable{X:Cx}
def Cz{EX:jl}{G H:Hp}{Q:VK}{d:D}(o:Out K EX G H (.ok (.sh d)) Q)(g:aB G H)(r:aM K G v d):Q v H:=WP.use o g r
def QD(K:Frag):R2:=λx y H Q=>∃l b xs zs,x=.ref l/\y=.ref b/\cF K H l xs/\cF K H b zs/\xs.length + zs.length<=sizeLine/\∀p,H p=none->Q (.ref p) (upd H p (.lst (xs ++ zs)))
def Uw:cH X (binaryOp .Add) (QD X.K):=by
 intro zc s σ H x y v u Q I rx ry h;obtain⟨l,b,xs,zs,rfl,rfl,hH,hB,hz,q⟩:=h;cases rx;cases ry;obtain⟨its,r,⟨o,n,e,c,dd,dat⟩,z⟩:=I.list hH;obtain⟨vm,r2,⟨o2,n2,e2,c2,MD,EW⟩,z2⟩:=I.list hB;have hl:=r.length;have hl2:=r2.length;obtain⟨cls,jZ,data,sl⟩:=o;obtain⟨fz,gm,data2,sl2⟩:=o2;simp only at c dd dat c2 MD EW;subst c dd dat c2 MD EW;refine concat_meets ⟨_,e,rfl⟩ ⟨_,e2,rfl⟩ noFill_list_add seq_list_add PySem.F.slot_list_add PySem.F.entry_list_add (PySem.F.args_list_add_2 _ _) (list_addW l b its.toArray vm.toArray n n2 none none sl sl2 (by rw[D6,D6];lia)) ⟨e,e2, ?_⟩;have ea:its.toArray ++ vm.toArray=(its ++ vm).toArray:=by simp
 rw[ea];exact⟨.ref _,_,I.vj (t':=s.toks) (r.append r2) (by rw[B8];lia),rfl,q _ I.fresh⟩
def Bv:D->D->R W
 | .int i,.int j=> .ok (.sh (.int (i + j)))
 | .str x,.str y=>if x.length + y.length<=16777216 then .ok (.sh (.str (x ++ y))) else .no
 | .lst a,.lst b=>if a.length + b.length<=16777216 then .ok (.ow (.lst (a ++ b))) else .no
 |_,_=> .no
def Ch:Ee X (binaryOp .Add) Bv:=by
 intro zc s σ H x y v u Q I rx ry h;obtain⟨EX,G,a,b,g,ra,rb,o⟩:=h;cases ra with
 |int i=>
  cases rb with
  |int j=>exact Si zc s σ H _ _ _ _ Q I rx ry ⟨i,j,rfl,rfl,Cz o g (.int _)⟩
  |_=>exact False.elim o
 |str x=>
  cases rb with
  |str y=>
   simp only[Bv]at o
   split at o
   ·rename_i hz;exact YA zc s σ H _ _ _ _ Q I rx ry ⟨x,y,rfl,rfl,by rw[D9];exact hz,Cz o g (.str _)⟩
   ·exact o.elim
  |_=>exact False.elim o
 |lst h1 r1=>
  cases rb with
  |lst h2 r2=>
   simp only[Bv]at o
   split at o
   ·rename_i hz;exact Uw zc s σ H _ _ _ _ Q I rx ry ⟨_,_,_,_,rfl,rfl,g.seq h1,g.seq h2,by rw[r1.length,r2.length,D9];exact hz,sZ o g (r1.append r2)⟩
   ·exact o.elim
  |_=>exact False.elim o
 |_=>cases rb <;> exact False.elim o
def intD(C:Int->Int->Bool)(f:Int->Int->Int):D->D->R W
 | .int i,.int j=>if C i j=true then .ok (.sh (.int (f i j))) else .no
 |_,_=> .no
def oV{fn:Value->Value->Sem Value}{C:Int->Int->Bool}{P:Int->Int->Prop}{f:Int->Int->Int}(h:cH X fn (rI P λi j=> .int (f i j)))(hC:∀i j,C i j=true->P i j):Ee X fn (intD C f):=by
 intro zc s σ H x y v u Q I rx ry q;obtain⟨EX,G,a,b,g,ra,rb,o⟩:=q;cases ra with
 |int i=>
  cases rb with
  |int j=>
   simp only[intD]at o
   split at o
   ·rename_i hc;exact h zc s σ H _ _ _ _ Q I rx ry ⟨i,j,rfl,rfl,hC i j hc,Cz o g (.int _)⟩
   ·exact o.elim
  |_=>exact False.elim o
 |_=>cases rb <;> exact False.elim o
def En:D->D->R W:=intD (λ_ _=>true) (λi j=>i - j)
def Es(i j:Int):Bool:=decide (i.natAbs < 18446744073709551616\/j.natAbs < 18446744073709551616)
def Dr:D->D->R W:=intD Es (λi j=>i * j)
noncomputable def divC(_ j:Int):Bool:=decide (0 < j/\j.natAbs < 1361129467683753853853498429727072845824)
def Cv:D->D->R W:=intD divC (λi j=>i / j)
def CV(_ j:Int):Bool:=decide (0 < j)
def Bz:D->D->R W:=intD CV (λi j=>i % j)
noncomputable def powC(i j:Int):Bool:=decide (0<=j/\j.natAbs<=1000000/\i.natAbs < 18446744073709551616)
def kZ:D->D->R W:=intD powC (λi j=>i ^ j.toNat)
def pT:Ee X (binaryOp .Sub) En:=oV (P:=λ_ _=>True) (AL λ_ _ _ _ _ _ _ _ q=>sub_int q) λ_ _ _=>trivial
def Eg:Ee X (binaryOp .Mult) Dr:=oV Sh λi j h=>by
 have h:=L6 h;rcases h with h|h
 ·exact .inl ⟨by lia,by lia⟩
 ·exact .inr ⟨by lia,by lia⟩
def kN:Ee X (binaryOp .FloorDiv) Cv:=oV (P:=λ_ j=>0 < j/\j.natAbs < 1361129467683753853853498429727072845824) (AL λi j _ _ _ _ _ hc q=>by
 have h1:(0:Int) < j:=hc.1;have h2:=hc.2;refine floordiv_int () ?_ (.inl (PyProof.noPylong_of_log2 ?_))
 ·rw[Int.fdiv_eq_ediv_of_nonneg i ()];exact q
 ·have:j.natAbs < 2 ^ 130:=by
   have e:(2:Nat) ^ 130=1361129467683753853853498429727072845824:=by decide
   lia
  have l:j.natAbs.log2 < 130:=(Nat.log2_lt ()).mpr this;lia) λi j h=>L6 h
def Cs:Ee X (binaryOp .Mod) Bz:=oV Sf λi j h=>L6 h
def Uv{i j:Int}(h:powC i j=true):Lp i j:=by
 obtain⟨h1,h2,h3⟩:=L6 h;refine⟨h1,by lia, ?_⟩;have e:(2:Nat) ^ 64=18446744073709551616:=by decide
 lia
def Hs:Ee X (binaryOp .Pow) kZ:=oV Se λi j h=>Uv h
def qW(f:Int->Int->Bool):D->D->R W
 | .int i,.int j=> .ok (.sh (.bl (f i j)))
 |_,_=> .no
def wI{fn:Value->Value->Sem Value}{f:Int->Int->Bool}(h:cH X fn (uB λi j=> .bl (f i j))):Ee X fn (qW f):=by
 intro zc s σ H x y v u Q I rx ry q;obtain⟨EX,G,a,b,g,ra,rb,o⟩:=q;cases ra with
 |int i=>
  cases rb with
  |int j=>exact h zc s σ H _ _ _ _ Q I rx ry ⟨i,j,rfl,rfl,Cz o g (.bl _)⟩
  |_=>exact False.elim o
 |_=>cases rb <;> exact False.elim o
def tN:D->D->R W:=qW λi j=>decide (i < j)
def tO:D->D->R W:=qW λi j=>decide (i<=j)
def yZ:D->D->R W:=qW λi j=>decide (j < i)
def lR:Ee X (compareOp .Lt) tN:=wI QN
def lQ:Ee X (compareOp .LtE) tO:=wI QM
def EZ:Ee X (compareOp .Gt) yZ:=wI QL
mutual
noncomputable def Du:D->PyData
 | .aK=> .none
 | .bl b=> .bool b
 | .int i=> .int i
 | .str x=> .str x
 | .lst ds=> .list (jN ds)
 | .tup ds=> .tuple (jN ds)
 | .aE _=> .dict []
 | .uU _ _ _=> .dict []
 | .obj _ _ _=> .dict []
noncomputable def jN:List D->List PyData
 | []=> []
 |d::ds=>Du d::jN ds
end
mutual
theorem aM.reads(hK:X.K=K){zc:AE}{σ:Sg}{s:Shared}(I:Inv X zc σ H s){G:Hp}(g:aB G H):∀{v:V} {d:D} {u:Value},(Du d).canLay0=true->aM K G v d->RelV v u->∃as,Reads s.heap u (Du d) as
 |_,_,_,_,.aK,r=>by cases r;exact⟨_,.none⟩
 |_,_,_,_,.bl b,r=>by cases r;exact⟨_,.bool b⟩
 |_,_,_,_,.int i,r=>by obtain⟨t,rfl⟩:=r;exact⟨_,.int i t⟩
 |_,_,_,_,.str x,r=>by obtain⟨t,rfl⟩:=r;exact⟨_,.str x t⟩
 |_,_,_,c,.lst h r,q=>by
  cases q;obtain⟨its,rv,⟨o,n,e,c',_,dat⟩,_⟩:=I.list (by rw[hK];exact g.seq h);obtain⟨as,z⟩:=aC.reads hK I g c r rv;exact⟨_,.list e c' dat z⟩
 |_,_,_,c,.tup h r,q=>by
  cases q;obtain⟨its,rv,⟨o,e,c',n,dat⟩,_⟩:=I.tuple (by rw[hK];exact aB.tupS g h);obtain⟨as,z⟩:=aC.reads hK I g c r rv;exact⟨_,.tuple e c' dat z⟩
 |_,_,_,c,.dP _ _,_=>absurd c A7
 |_,_,_,c,.dO _ _ _ _ _,_=>absurd c A7
 |_,_,_,c,.aE _ _ _,_=>absurd c A7
 |_,_,_,c,.obj _ _ _ _,_=>absurd c A7
theorem aC.reads(hK:X.K=K){zc:AE}{σ:Sg}{s:Shared}(I:Inv X zc σ H s){G:Hp}(g:aB G H):∀{vs:List V} {ds:List D} {us:List Value},PyData.canLayAll0 (jN ds)=true->aC K G vs ds->Vals vs us->∃as,ReadsAll s.heap us (jN ds) as
 |_,_,_,_,.nil,r=>by cases r;exact⟨_,.nil⟩
 |_,_,_,c,.cons h t,r=>by
  cases r with
  |cons r1 r2=>
   have c':(PyData.canLay0 (Du _) && PyData.canLayAll0 (jN _))=true:=c;rw[D5]at c';obtain⟨a1,z1⟩:=aM.reads hK I g c'.1 h r1;obtain⟨a2,z2⟩:=aC.reads hK I g c'.2 t r2;exact⟨_,.cons z1 z2⟩
end
def Fo(a b:D):Bool:=(Du a).canLay0 && (Du b).canLay0 && decide ((Du a).depth<=60)
def Ek(a b:D):Bool:=(Du a).eqv (Du b)
def Dj(a b:D):R W:=match a,b with
 | .str x,.str y=> .ok (.sh (.bl (decide (x=y))))
 |a,b=>if Fo a b=true then .ok (.sh (.bl (Ek a b))) else .no
def Ck(a b:D):R W:=match a,b with
 | .str x,.str y=> .ok (.sh (.bl (!decide (x=y))))
 |a,b=>if Fo a b=true then .ok (.sh (.bl (!Ek a b))) else .no
def Iy(x y:Str):decide (V.str x=V.str y)=decide (x=y):=by
 by_cases e:x=y
 ·subst e;simp
 ·rw[C5 e,C5 (λz=>e (by injection z))]
def iN(hu:X.A.units + 64 < cLine):Ee X (compareOp .Eq) Dj:=by
 intro zc s σ H x y v u Q I rx ry q;obtain⟨EX,G,a,b,g,ra,rb,o⟩:=q;unfold Dj at o
 split at o
 ·rename_i x y;cases ra;cases rb;exact QP zc s σ H _ _ _ _ Q I rx ry ⟨rfl,by rw[Iy];exact Cz o g (.bl _)⟩
 ·split at o
  ·rename_i hc;unfold Fo at hc;rw[D5,D5]at hc;obtain⟨⟨h1,h2⟩,h3⟩:=hc;have h3:=L6 h3;obtain⟨as,za⟩:=aM.reads rfl I g h1 ra rx;obtain⟨bs,zb⟩:=aM.reads rfl I g h2 rb ry;refine PySem.SeqAt.compareEq_reads za zb h1 h2 ?_ ⟨.bl _,H,I,rfl,Cz o g (.bl _)⟩;have:=OO (Du a).depth (Du b).depth;lia
  ·exact o.elim
def je(hu:X.A.units + 64 < cLine):Ee X (compareOp .NotEq) Ck:=by
 intro zc s σ H x y v u Q I rx ry q;obtain⟨EX,G,a,b,g,ra,rb,o⟩:=q;unfold Ck at o
 split at o
 ·rename_i x y;cases ra;cases rb;exact QO zc s σ H _ _ _ _ Q I rx ry ⟨rfl,by rw[Iy];exact Cz o g (.bl _)⟩
 ·split at o
  ·rename_i hc;unfold Fo at hc;rw[D5,D5]at hc;obtain⟨⟨h1,h2⟩,h3⟩:=hc;have h3:=L6 h3;obtain⟨as,za⟩:=aM.reads rfl I g h1 ra rx;obtain⟨bs,zb⟩:=aM.reads rfl I g h2 rb ry;refine PySem.SeqAt.compareNe_reads za zb h1 h2 ?_ ⟨.bl _,H,I,rfl,Cz o g (.bl _)⟩;have:=OO (Du a).depth (Du b).depth;lia
  ·exact o.elim
def Bh:D->Bool
 | .aK=>true
 | .bl _=>true
 | .int _=>true
 | .str _=>true
 |_=>false
def zv:D->V
 | .bl b=> .bl b
 | .int i=> .int i
 | .str x=> .str x
 |_=> .aK
def aM.fl{G:Hp}{d:D}(r:aM K G v d)(f:Bh d=true):v=zv d/\Gk v=true:=by
 cases r with
 |aK=>exact⟨rfl,rfl⟩
 |bl b=>exact⟨rfl,rfl⟩
 |int i=>exact⟨rfl,rfl⟩
 |str x=>exact⟨rfl,rfl⟩
 |lst _ _=>cases f
 |tup _ _=>cases f
 |dP _ _=>cases f
 |dO _ _ _ _ _=>cases f
 |aE _ _ _=>cases f
 |obj _ _ _ _=>cases f
def aM.CU{G G':Hp}{d:D}(r:aM K G v d)(f:Bh d=true):aM K G' v d:=by
 cases r with
 |aK=>exact .aK
 |bl b=>exact .bl b
 |int i=>exact .int i
 |str x=>exact .str x
 |lst _ _=>cases f
 |tup _ _=>cases f
 |dP _ _=>cases f
 |dO _ _ _ _ _=>cases f
 |aE _ _ _=>cases f
 |obj _ _ _ _=>cases f
theorem aC.fl{G:Hp}:∀{vs:List V} {ds:List D},aC K G vs ds->ds.all Bh=true->vs=ds.map zv/\vs.all Gk=true
 |_,_,.nil,_=>⟨rfl,rfl⟩
 |_,_,.cons h r,f=>by
  rw[P7,D5]at f;obtain⟨e1,e2⟩:=h.fl f.1;obtain⟨e3,e4⟩:=aC.fl r f.2;exact⟨by rw[B3,<-e1,<-e3],by rw[P7,e2,e4];rfl⟩
def eqF(a b:D):Bool:=qC (zv a) (zv b)
def Dv(d:D)(ds:List D):Bool:=ds.any λy=>eqF y d
def Hr(d:D)(ds:List D):Mg (zv d) (ds.map zv)=Dv d ds:=by
 unfold Mg Dv;rw[List.any_map];rfl
def inD(neg:Bool):D->D->R W
 | .str i,.str j=> .ok (.sh (.bl (if neg then !(!(Builtin.Str.occurrences j i 0 j.length 1).isEmpty) else !(Builtin.Str.occurrences j i 0 j.length 1).isEmpty)))
 |d,.lst ds=>if(Bh d && ds.all Bh)=true then .ok (.sh (.bl (if neg then !Dv d ds else Dv d ds))) else .no
 |d,.tup ds=>if(Bh d && ds.all Bh)=true then .ok (.sh (.bl (if neg then !Dv d ds else Dv d ds))) else .no
 |_,_=> .no
def Ho{EX:jl}{G H:Hp}{x y:V}{d:D}{e:D}{Q:VK}{neg:Bool}(g:aB G H)(ra:aM X.K G x d)(rb:aM X.K G y e)(hd:∀i j,d=.str i->e=.str j->False)(o:Out X.K EX G H (inD neg d e) Q):Nt X.K neg x y H Q:=by
 cases rb with
 |lst h r=>
  rename_i ds;have o':Out X.K EX G H (if(Bh d && ds.all Bh)=true then .ok (.sh (.bl (if neg then !Dv d ds else Dv d ds))) else .no) Q:=by
   cases d <;> exact o
  split at o'
  ·rename_i f;rw[D5]at f;obtain⟨e1,e2⟩:=ra.fl f.1;obtain⟨e3,e4⟩:=r.fl f.2;refine⟨_,_,rfl,.inl (g.seq h),e2,e4, ?_⟩;rw[e1,e3,Hr];exact Cz o' g (.bl _)
  ·exact o'.elim
 |tup h r=>
  rename_i ds;have o':Out X.K EX G H (if(Bh d && ds.all Bh)=true then .ok (.sh (.bl (if neg then !Dv d ds else Dv d ds))) else .no) Q:=by
   cases d <;> exact o
  split at o'
  ·rename_i f;rw[D5]at f;obtain⟨e1,e2⟩:=ra.fl f.1;obtain⟨e3,e4⟩:=r.fl f.2;refine⟨_,_,rfl,.inr (aB.tupS g h),e2,e4, ?_⟩;rw[e1,e3,Hr];exact Cz o' g (.bl _)
  ·exact o'.elim
 |str j=>
  cases d with
  |str i=>exact(hd i j rfl rfl).elim
  |_=>exact False.elim o
 |_=>cases d <;> exact False.elim o
def vS:Ee X (compareOp .In) (inD false):=by
 intro zc s σ H x y v u Q I rx ry q;obtain⟨EX,G,a,b,g,ra,rb,o⟩:=q
 by_cases hs:∃i j,a=.str i/\b=.str j
 ·obtain⟨i,j,rfl,rfl⟩:=hs;cases ra;cases rb;exact XN zc s σ H _ _ _ _ Q I rx ry ⟨i,j,rfl,rfl,Cz o g (.bl _)⟩
 ·exact XD zc s σ H _ _ _ _ Q I rx ry (Ho g ra rb (λi j e1 e2=>hs ⟨i,j,e1,e2⟩) o)
def xN:Ee X (compareOp .NotIn) (inD true):=by
 intro zc s σ H x y v u Q I rx ry q;obtain⟨EX,G,a,b,g,ra,rb,o⟩:=q
 by_cases hs:∃i j,a=.str i/\b=.str j
 ·obtain⟨i,j,rfl,rfl⟩:=hs;cases ra;cases rb;exact ZH zc s σ H _ _ _ _ Q I rx ry ⟨i,j,rfl,rfl,Cz o g (.bl _)⟩
 ·exact ZI zc s σ H _ _ _ _ Q I rx ry (Ho g ra rb (λi j e1 e2=>hs ⟨i,j,e1,e2⟩) o)
def Dd:List D->R W
 | [.str x]=>if x.length<=16777216 then .ok (.sh (.int x.length)) else .no
 | [.lst ds]=> .ok (.sh (.int ds.length))
 | [.tup ds]=> .ok (.sh (.int ds.length))
 |_=> .no
def kT:Et X (.builtin "len") Dd:=by
 intro zc s σ H vs us Q I rv q;obtain⟨EX,G,ds,g,r,o⟩:=q;cases r with
 |nil=>exact False.elim o
 |cons h t=>
  cases t with
  |cons _ _=>cases h <;> exact False.elim o
  |nil=>
   cases h with
   |str x=>
    simp only[Dd]at o
    split at o
    ·rename_i hz;exact ZG zc s σ H _ _ Q I rv ⟨x,rfl,by rw[D9];exact hz,Cz o g (.int _)⟩
    ·exact o.elim
   |lst h r=>exact KO zc s σ H _ _ Q I rv ⟨_,_,rfl,.inl (g.seq h),by rw[r.length];exact Cz o g (.int _)⟩
   |tup h r=>exact KO zc s σ H _ _ Q I rv ⟨_,_,rfl,.inr (aB.tupS g h),by rw[r.length];exact Cz o g (.int _)⟩
   |_=>exact False.elim o
def maxD:List D->R W
 | [.int i,.int j]=> .ok (.sh (.int (if j > i then j else i)))
 |_=> .no
def minD:List D->R W
 | [.int i,.int j]=> .ok (.sh (.int (if j < i then j else i)))
 |_=> .no
def Iw{G:Hp}{vs:List V}{ds:List D}(r:aC K G vs ds){P:Prop}(h:∀i j,vs= [.int i,.int j]->ds= [.int i,.int j]->P)(n:(∀i j,ds≠ [.int i,.int j])->P):P:=by
 by_cases e:∃i j,ds= [.int i,.int j]
 ·obtain⟨i,j,rfl⟩:=e;cases r with
  |cons a t=>
   cases t with
   |cons b t2=>
    cases t2;cases a;cases b;exact h i j rfl rfl
 ·exact n λi j z=>e ⟨i,j,z⟩
def Uu{ds:List D}(h:∀i j,ds≠ [.int i,.int j]):maxD ds=.no:=by
 unfold maxD
 split
 ·rename_i i j;exact absurd rfl (h i j)
 ·rfl
def Ut{ds:List D}(h:∀i j,ds≠ [.int i,.int j]):minD ds=.no:=by
 unfold minD
 split
 ·rename_i i j;exact absurd rfl (h i j)
 ·rfl
def xM(hc:X.calm=true):Et X (.builtin "max") maxD:=by
 intro zc s σ H vs us Q I rv q;obtain⟨EX,G,ds,g,r,o⟩:=q;refine Iw r (λi j e1 e2=> ?_) λn=> ?_
 ·subst e1 e2;exact XM hc zc s σ H _ _ Q I rv ⟨i,j,rfl,Cz o g (.int _)⟩
 ·rw[Uu n]at o;exact o.elim
def Jm(hc:X.calm=true):Et X (.builtin "min") minD:=by
 intro zc s σ H vs us Q I rv q;obtain⟨EX,G,ds,g,r,o⟩:=q;refine Iw r (λi j e1 e2=> ?_) λn=> ?_
 ·subst e1 e2;exact XJ hc zc s σ H _ _ Q I rv ⟨i,j,rfl,Cz o g (.int _)⟩
 ·rw[Ut n]at o;exact o.elim
def vR:List D->R W
 | [.lst ds]=> .ok (.ow (.lst ds))
 | [.tup ds]=> .ok (.ow (.lst ds))
 |_=> .no
def Ze:Et X (.type "list") vR:=by
 intro zc s σ H vs us Q I rv q;obtain⟨EX,G,ds,g,r,o⟩:=q;cases r with
 |nil=>exact False.elim o
 |cons h t=>
  cases t with
  |cons _ _=>cases h <;> exact False.elim o
  |nil=>
   cases h with
   |lst h r=>exact KN zc s σ H _ _ Q I rv ⟨_,_,rfl,.inl (g.seq h),sZ o g r⟩
   |tup h r=>exact KN zc s σ H _ _ Q I rv ⟨_,_,rfl,.inr (aB.tupS g h),sZ o g r⟩
   |_=>exact False.elim o
def vH:List D->R W
 | [.lst ds]=> .ok (.sh (.tup ds))
 | [.tup ds]=> .ok (.sh (.tup ds))
 |_=> .no
def Yu:Et X (.type "tuple") vH:=by
 intro zc s σ H vs us Q I rv q;obtain⟨EX,G,ds,g,r,o⟩:=q;cases r with
 |nil=>exact False.elim o
 |cons h t=>
  cases t with
  |cons _ _=>cases h <;> exact False.elim o
  |nil=>
   cases h with
   |lst h r=>
    refine KZ zc s σ H _ _ Q I rv ⟨_,_,rfl,.inl ⟨g.seq h,λp hp=> ?_⟩⟩;exact o (.ref p) _ _ (Step.new g hp _) (.tup (dD.of Bf) (r.mono (jV (g.free hp) _)))
   |tup h r=>exact KZ zc s σ H _ _ Q I rv ⟨_,_,rfl,.inr ⟨aB.tupS g h,Cz o g (.tup h r)⟩⟩
   |_=>exact False.elim o
end
structure aF(c:Bool)(k:Nat)(A:Around):Prop where
 hd:c=true->A.handled=none
 dp:A.depth + 3 * k + 5 < recursionLimit
 un:A.units + 16 * k + 200 < cLine
def aF.mono{c:Bool}{j k:Nat}{A:Around}(r:aF c k A)(h:j<=k):aF c j A:=⟨r.hd,by have:=r.dp;lia,by have:=r.un;lia⟩
theorem aF.deeper{c:Bool}{k:Nat}{A:Around}(r:aF c (k + 1) A)(env:Env):aF c k (A.deeper env):=
 ⟨r.hd,by have:=r.dp;show A.depth + 1 + 3 * k + 5 < _;lia,by have:=r.un;show A.units + 3 + 16 * k + 200 < _;lia⟩
def aF.make{c:Bool}{k:Nat}{A:Around}(r:aF c (k + 1) A)(C:Addr)(us:List Value)(kw:List (Str×Value)):aF c k (A.under (.builtin "type.__call__" ⟨.ref C::us,kw⟩)):=
 ⟨r.hd,by have:=r.dp;rw[Yx];lia,by have:=r.un;rw[Yw];lia⟩
def aF.loose{c:Bool}{k:Nat}{A:Around}(r:aF c k A):aF false k A:=⟨λz=>absurd z A7,r.dp,r.un⟩
theorem aF.mark{c:Bool}{k:Nat}{A:Around}(r:aF c k A)(h:Option Value):aF false k (A.mark h):=⟨λz=>absurd z A7,r.dp,r.un⟩
def aF.of{k:Nat}{A:Around}(r:eM k A):aF true k A:=⟨λ_=>r.hd,r.dp,r.un⟩
structure bI(P:Program)(w:World)(K:Frag)(mg:AB)(base:Heap)(c:Bool)(k:Nat)(f:Addr)(fd:FuncData)(ps:List Str)(sp:Sp):Prop where
 len:∀vs H Q E,sp vs H Q E->vs.length=ps.length
 run:∀(A:Around) (outer:List Env) (s:Shared) (H:Hp) (args:Args) (us:List Value) (vs:List V) (Q:VK) (E:XK),aF c k A->dG P w K mg base A outer s H->BindsTo s fd args (ps.zip us)->Vals vs us->sp vs H Q E->
  codeAny (model P w) A (.call (.ref f) args) (CR (kf P w) outer P w H s Q E) s
abbrev Gr(c:Bool)(P:Program)(w:World)(K:Frag)(mg:AB)(base:Heap)(N:List Str)(qual:Str)(scope:Scope)(f:Addr)(cd:Value)(A:Around)(outer:List Env)(s:Shared)(H:Hp)(E:XK):Cx:=
 {Ff (kf P w) P w K mg base N qual scope f cd A outer s H E with calm:=c}
def Yt{c:Bool}{P:Program}{w:World}{N ps:List Str}{qual:Str}{scope:Scope}{f:Addr}{cd:Value}{A:Around}{outer:List Env}{s s1:Shared}{E:XK}{vs:List V}
  (S:aV N ps scope) (hd:c=true->A.handled=none) (e0:dG P w K mg base A outer s H) (hl:vs.length=ps.length) (r:Vals vs us)
  (x:InCallC s s.heap.objs.size (bindL (envOfC qual scope s.heap.objs.size f cd).kindOf (ps.zip us) λ_=>none) (cellsFrom (s.heap.objs.size + 1) scope.names []) (bindC (envOfC qual scope s.heap.objs.size f cd).kindOf (ps.zip us) λ_=>none) s1):
  Inv (Gr c P w K mg base N qual scope f cd A outer s H E) [] (start N vs) H s1:=by
 have I:=XG (CX:=kf P w) (E:=E) (qual:=qual) (f:=f) (cd:=cd) (A:={A with handled:=none}) S rfl ⟨e0.frames,e0.mod,e0.bs,e0.iU,e0.cB,e0.kR,e0.aJ,e0.bare⟩ hl r x;exact⟨⟨I.ok.mod,I.ok.kind,I.ok.glob,I.ok.blt,I.ok.above,I.ok.inj,I.ok.has,I.ok.qD,hd,Around.frames_deeper e0.frames,I.ok.ti,I.ok.zx,I.ok.bs,I.ok.iU,I.ok.fG,I.ok.gZ,I.ok.cB,I.ok.kR⟩,
  I.os,I.bare,I.base,I.loc,I.cell,I.free,I.bE,I.pin,I.aJ,I.len⟩
def RI{c:Bool}{P:Program}{w:World}{k:Nat}{f:Addr}{name qual:Str}{params:Arguments}{body:List Stmt}{scope:Scope}{dV kV doc pm zp ct oc:Value}{an od:Option Addr}
  {tE:Array (Option Value)} {N ps:List Str} {sp:Sp} (lk:K.lookup f=some ⟨oc,od,.func (fnOf name qual params body scope dV kV doc pm an zp ct),tE⟩) (bO:codeIn K zp qual=true) (S:aV N ps scope)
  (len:∀vs H Q E,sp vs H Q E->vs.length=ps.length)
  (zh:∀(A:Around) (outer:List Env) (s:Shared) (H:Hp) (vs:List V) (Q:VK) (E:XK),aF c k (A.deeper (envOfC qual scope s.heap.objs.size f zp))->sp vs H Q E->
   ∃t,gO (Gr c P w K mg base N qual scope f zp A outer s H E) body t/\t {nx:=λ_ H'=>Q .aK H',rt:=Q} (start N vs) H):
  bI P w K mg base c (k + 1) f (fnOf name qual params body scope dV kV doc pm an zp ct) ps sp:=by
 refine⟨len,λA outer s H args us vs Q E hr e0 hb r tV=> ?_⟩;have hl:=len _ _ _ _ tV;have KX:K.In s.heap:=e0.mod.mG.keeps λb o e=>(e0.bs b o e).1;have lim:s.heap.NoLimit:=e0.mod.nolimit.keeps λb o e=>(e0.bs b o e).1;have cu:∀y∈ps.zip us,scope.names.lookup y.1=some .local\/(scope.names.lookup y.1=some .cell/\((cellsFrom (s.heap.objs.size + 1) scope.names []).lookup y.1).isSome=true):=λ⟨n,v⟩ hy=>by
  rcases S.par n (X7 hy).1 with q|q
  ·exact .inl q
  ·exact .inr ⟨q,ZC9 _ _ _ (.inl q)⟩
 have dp:A.depth < recursionLimit:=by have:=hr.dp;lia
 refine codeAny_call_function dp (KX _ _ lk) rfl S.co S.gen rfl (codeRec_of KX bO) (hb _ _ _ _ ?_);refine wpAny_newFunctionEnv_cells S.kind cu λenv he s1 x=> ?_;subst he;refine⟨lim.keeps x.toInCall.keep,codeAny_func ?_⟩;obtain⟨t,ht,hq⟩:=zh A outer s H vs Q E (hr.deeper _) tV;have I:Inv (Gr c P w K mg base N qual scope f zp A outer s H E) [] (start N vs) H s1:=Yt S hr.hd e0 hl r x;refine F5 (ht [] s1 (start N vs) H _ I hq) (λfl s' hs=> ?_) λe s' hs=>hs;have fin:∀{σ':Sg} {H':Hp} {v:V} {u:Value},Inv (Gr c P w K mg base N qual scope f zp A outer s H E) [] σ' H' s'->RelV v u->Q v H'->CE outer P w H s Q u s':=
  λ{σ' H' v u} J rv q=>⟨v,H',J.os,J.bare,J.base,J.aJ,rv,q⟩
 cases fl with
 |ret u=>
  obtain⟨v,σ',H',J,rv,q⟩:=hs;exact fin J rv q
 |next=>
  obtain⟨σ',H',J,q⟩:=hs;exact fin (v:=V.aK) (u:=Value.none) J rfl q
 |brk=>
  obtain⟨_,_,_,q⟩:=hs;exact False.elim q
 |cont=>
  obtain⟨_,_,_,q⟩:=hs;exact False.elim q
def bC.AN{c:Bool}{P:Program}{w:World}{x qual:Str}{st:Stmt}{f:Addr}{N ps:List Str}{k:Nat}{sp:Sp}(F:bC K x qual st f fd)(S:aV N ps (Cc st))(len:∀vs H Q E,sp vs H Q E->vs.length=ps.length)
  (zh:∀(zp:Value) (A:Around) (outer:List Env) (s:Shared) (H:Hp) (vs:List V) (Q:VK) (E:XK),aF c k (A.deeper (envOfC qual (Cc st) s.heap.objs.size f zp))->sp vs H Q E->
   ∃t,gO (Gr c P w K mg base N qual (Cc st) f zp A outer s H E) (Ft st) t/\t {nx:=λ_ H'=>Q .aK H',rt:=Q} (start N vs) H):bI P w K mg base c (k + 1) f fd ps sp:=by
 obtain⟨oc,od,kV,doc,pm,an,zp,ct,tE,rfl,lk,bO⟩:=F.ex;exact RI lk bO S len λA outer s H vs Q E hr tV=>zh zp A outer s H vs Q E hr tV
def Lk(X:Cx)(EX:Ax):Prop:=∀(zc:AE) (σ:Sg) (H:Hp) (s:Shared) (e:Value) (s':Shared),Inv X zc σ H s->kf X.prog X.w X.stack H s (nE X.K (EX σ)) e s'->X.xe e s'
def jE:Lk X Cm:=λzc σ H s e s' I c=>by
 obtain⟨a,C,dx,T,H',_,_,_,_,_,_,_,_,_,_,x,G,_,_,q⟩:=c;exact False.elim q
def rC{c:Bool}{P:Program}{w:World}{N:List Str}{qual:Str}{scope:Scope}{f:Addr}{cd:Value}{A:Around}{outer:List Env}{s:Shared}{E:XK}:
  Lk (Gr c P w K mg base N qual scope f cd A outer s H E) (λ_=>bW K E):=λzc σ H s e s' I h=>Xy I h λcls dx H' q=>q.of
def Bo(K:Frag)(n:Nat)(F:AF):Sp:=λvs H Q E=>vs.length=n/\∃G ds,aB G H/\aC K G vs ds/\Out K (bW K E) G H (F ds) Q
def Bj(n:Nat)(F:AF)(fa:FA):FE:=λ δ=>(fa δ).bind λds=>if ds.length=n then F ds else .no
def CK(P:Program)(w:World)(K:Frag)(mg:AB)(base:Heap)(c:Bool)(x:Str)(k:Nat)(ps:List Str)(F:AF):Prop:=
 ∃f fd,bI P w K mg base c k f fd ps (Bo K ps.length F)/\mg x=some (.ref f)/\keepIn K (.ref f)=true/\Binds K fd ps []
section
variable{X:Cx}{EX:Ax}{e:Expr}{es:List Expr}{fa:FA}{x:Str}{pp pos:Pos}{c:Bool}{k k':Nat}{ps:List Str}{F:AF}
def rV{zc:AE}{σ:Sg}{s:Shared}{Q:VK}{vs:List V}{f:Addr}{sp:Sp}(F:bI X.prog X.w X.K X.mg X.base c k f fd ps sp)(hr:aF c k X.A)(hb:Binds X.K fd ps [])(lk:Lk X EX)
  (I:Inv X zc σ H s) (r:Vals vs us) (h:sp vs H Q (nE X.K (EX σ))):wpAny (model X.prog X.w) X.A (call (.ref f) us) (EP X zc σ Q) X.xe s:=by
 have hl:us.length=ps.length:=by rw[<-r.length];exact F.len _ _ _ _ h
 have cO:=hb s us I.cN (by rw[E4];exact hl);rw[E4]at cO;refine W8 (R1 (F.run X.A X.stack s H ⟨us,[]⟩ us vs Q _ hr I.vq cO r h) λr s' hq=> ?_);cases r with
 |error e=>exact lk zc σ H s e s' I hq
 |ok fl=>
  cases fl with
  |ret u=>exact I.after hq
  |next=>exact False.elim hq
  |brk=>exact False.elim hq
  |cont=>exact False.elim hq
def Bn(hr:aF c k' X.A)(lk:Lk X EX)(h:CK X.prog X.w X.K X.mg X.base c x k ps F)(ha:AD X EX (e::es) fa)(hk:k<=k':=by decide)(hg:Gl X x:=by rfl)(cW:AG x:=by decide)
  (he:starEach (e::es) X.env=(false,eval e X.env)::starEach es X.env:=by rfl) (bZ:(backTo pos (starEach es X.env)).any (·.1)=false:=by rfl):
  ED X EX (.Call (.Name x pp) (e::es) [] pos) (Bj ps.length F fa):=by
 obtain⟨f,fd,ok,hm,kp,hb⟩:=h;intro zc s σ H Q I q;obtain⟨G,δ,g0,s0,o⟩:=q;refine N0 (qi I hg hm ?_ cW);have ta:gv X.K EX fa σ H λvs H1=>Bo X.K ps.length F vs H1 Q (nE X.K (EX σ)):=by
  refine gv.seq g0 s0 o λds vs G' H' _ st r o'=> ?_
  split at o'
  ·rename_i hl;refine⟨by rw[r.length];exact hl,G',ds,st.gh,r, ?_⟩;cases q:F ds with
   |ok w=>rw[q]at o';exact o'
   |ex x=>rw[q]at o';exact bW.in o'
   |no=>rw[q]at o';exact o'.elim
  ·exact o'.elim
 refine Y6 (h₀:=X.base) I.ok.mod.mG kp (Ay (ha pos zc s σ H _ I ta) λus s1 ⟨vs,H1,I1,r,q⟩=>⟨I1.cN, ?_⟩) he bZ;exact rV ok (hr.mono hk) hb lk I1 r q
end
inductive Sl where
 |no|sh (d:D)|ow (d:D)|tr (t:Tn)|lk (d:D)|lt (t:Tn)
abbrev SE:=List Sl
inductive Fl where
 |nx (Δ:SE)|rt (w:W)|bk (Δ:SE)|ct (Δ:SE)|ex (x:Xn) (Δ:SE)|rv (d:D) (Δ:SE)|no
abbrev FS:=SE->Fl
noncomputable def Sl.bT:Sl->Option D
 | .sh d=>some d
 |_=>none
def Sl.any:Sl->Option D
 | .sh d=>some d
 | .ow d=>some d
 | .tr t=>some t.d
 | .lk d=>some d
 | .lt t=>some t.d
 | .no=>none
def Sl.give:Sl->Sl
 | .ow d=> .sh d
 | .tr t=> .sh t.d
 |s=>s
def Sl.own:Sl->Option Tn
 | .ow d=>some (Tn.of d)
 | .tr t=>some t
 | .lk d=>some (Tn.of d)
 | .lt t=>some t
 |_=>none
def At(Δ:SE):DE:=Δ.map Sl.bT
def Be(Δ:SE):DE:=Δ.map Sl.any
def eJ(Δ:SE):SE:=Δ.map Sl.give
abbrev OS:=Nat->AS
structure HB where
 h:Hp
 b:Nat->Addr
structure Ev(K:Frag)(H0:HB)(G0 G H:Hp)(σ:Sg)(Δ:SE)(A:OS):Prop where
 st:Step G0 H0.h G H
 len:σ.length=Δ.length
 sh:∀(i:Nat) (d:D),Δ[i]? =some (.sh d)->∃v,σ[i]? =some (some v)/\aM K G v d
 ow:∀(i:Nat) (s:Sl) (t:Tn),Δ[i]? =some s->s.own=some t->∃v,σ[i]? =some (some v)/\Ow K G H v t (A i)
 out:∀(i:Nat) (a:Addr),A i a->G a=none/\H0.h a=none/\H a≠none
 dj:∀(i j:Nat) (a:Addr),A i a->A j a->i=j
 lk:∀(i:Nat) (d:D),Δ[i]? =some (.lk d)->σ[i]? =some (some (.ref (H0.b i)))
 lt:∀(i:Nat) (t:Tn),Δ[i]? =some (.lt t)->σ[i]? =some (some (.ref (H0.b i)))
def Cy(G H:Hp)(A:OS):Hp:=Dk G H λb=>∃i,A i b
structure bP(S:AS)(G H G' H':Hp):Prop where
 hh:∀b o,¬S b->H b=some o->H' b=some o
 al:∀b,H b≠none->H' b≠none
 gh:aB G' H'
 gg:aB G G'
 nw:∀b,G b=none->H b≠none->G' b=none
structure bX(S:AS)(G H G' H':Hp):Prop where
 hh:∀b o,¬S b->H b=some o->H' b=some o
 gh:aB G' H'
 gg:aB G G'
 nw:∀b,¬S b->G b=none->H b≠none->G' b=none
def bP.weak{S:AS}{G H G' H':Hp}(m:bP S G H G' H'):bX S G H G' H':=⟨m.hh,m.gh,m.gg,λb _=>m.nw b⟩
def Step.m{S:AS}{G H G' H':Hp}(s:Step G H G' H'):bP S G H G' H':=⟨λb o _ q=>s.hh b o q,λb n z=>n (s.hh.free z),s.gh,s.gg,s.nw⟩
def bP.andThen{S:AS}{G H G1 H1 G2 H2:Hp}(a:bP S G H G1 H1)(b:Step G1 H1 G2 H2):bP S G H G2 H2:=
 ⟨λc o n q=>b.hh c o (a.hh c o n q),λc n z=>a.al c n (b.hh.free z),b.gh,a.gg.trans b.gg,λc e n=>b.nw c (a.nw c e n) (a.al c n)⟩
def bP.write{S:AS}{G H:Hp}(g:aB G H){a:Addr}(hs:S a)(n:G a=none)(o:HO):bP S G H G (L2.upd H a o):=
 ⟨λb o' nb q=>by rw[Ao (λz=>nb (by rw[z];exact hs))];exact q,λb nb=>by
  by_cases z:b=a
  ·subst z;rw[Bf];simp
  ·rw[Ao z];exact nb,λb o' q=>by
  by_cases z:b=a
  ·subst z;rw[n]at q;cases q
  ·rw[Ao z];exact g b o' q,aB.refl _,λ_ e _=>e⟩
def Cq(A:OS)(i:Nat)(S:AS):OS:=λj=>if j=i then S else A j
def jW{A:OS}{i:Nat}{S:AS}:Cq A i S i=S:=if_pos rfl
def Go{A:OS}{i j:Nat}{S:AS}(h:j≠i):Cq A i S j=A j:=if_neg h
section
variable{K:Frag}{H0:HB}{G0 G H G' H':Hp}{σ:Sg}{Δ:SE}{A:OS}
def Ev.dU(E:Ev K H0 G0 G H σ Δ A):aU K G σ (At Δ):=⟨by rw[E.len];unfold At;rw[A3],λi d q=>by
 unfold At at q;rw[A9]at q;cases e:Δ[i]? with
 |none=>rw[e]at q;cases q
 |some z=>
  rw[e]at q;cases z with
  |sh d'=>cases q;exact E.sh i d e
  |_=>cases q⟩
def Ev.aH(E:Ev K H0 G0 G H σ Δ A):aB (Cy G H A) H:=λb o q=>by
 unfold Cy Dk at q
 split at q
 ·exact q
 ·exact E.st.gh b o q
def Ev.aG(E:Ev K H0 G0 G H σ Δ A):aB G (Cy G H A):=λb o q=>by
 unfold Cy Dk
 split
 ·rename_i hb;obtain⟨i,hb⟩:=hb;rw[(E.out i b hb).1]at q;cases q
 ·exact q
def Ev.LB(E:Ev K H0 G0 G H σ Δ A):Step G0 H0.h (Cy G H A) H:=
 ⟨E.st.hh,E.aH,E.st.gg.trans E.aG,λb n z=>by
  unfold Cy Dk
  split
  ·rename_i hb;obtain⟨i,hb⟩:=hb;exact absurd (E.out i b hb).2.1 z
  ·exact E.st.nw b n z⟩
def Ev.MG{A:OS}{G H:Hp}{i:Nat}{b:Addr}{o:HO}(hb:A i b)(q:H b=some o):Cy G H A b=some o:=by
 unfold Cy Dk;rw[if_pos ⟨i,hb⟩];exact q
def Ev.eJ(E:Ev K H0 G0 G H σ Δ A):aU K (Cy G H A) σ (Be Δ):=⟨by rw[E.len];unfold Be;rw[A3],λi d q=>by
 unfold Be at q;rw[A9]at q;cases e:Δ[i]? with
 |none=>rw[e]at q;cases q
 |some z=>
  rw[e]at q;cases z with
  |sh d'=>
   cases q;obtain⟨v,e1,r⟩:=E.sh i d e;exact⟨v,e1,r.mono E.aG⟩
  |ow d'=>
   cases q;obtain⟨v,e1,t⟩:=E.ow i _ _ e rfl;have r:=t.has E.aG λb o hb q=>Ev.MG hb q;rw[Tn.eI]at r;exact⟨v,e1,r⟩
  |tr t'=>
   cases q;obtain⟨v,e1,t⟩:=E.ow i _ _ e rfl;exact⟨v,e1,t.has E.aG λb o hb q=>Ev.MG hb q⟩
  |lk d'=>
   cases q;obtain⟨v,e1,t⟩:=E.ow i _ _ e rfl;have r:=t.has E.aG λb o hb q=>Ev.MG hb q;rw[Tn.eI]at r;exact⟨v,e1,r⟩
  |lt t'=>
   cases q;obtain⟨v,e1,t⟩:=E.ow i _ _ e rfl;exact⟨v,e1,t.has E.aG λb o hb q=>Ev.MG hb q⟩
  |no=>cases q⟩
def Ev.grow(E:Ev K H0 G0 G H σ Δ A)(s:Step G H G' H'):Ev K H0 G0 G' H' σ Δ A:=
 ⟨E.st.trans s,E.len,λi d e=>let⟨v,e1,r⟩:=E.sh i d e;⟨v,e1,r.mono s.gg⟩,λi z d e z'=>let⟨v,e1,t⟩:=E.ow i z d e z';⟨v,e1,t.mono s.gg (λb o _ q=>s.hh b o q) λ_ q=>q⟩,
  λi a ha=>let⟨h1,h2,h3⟩:=E.out i a ha;⟨s.nw a h1 h3,h2,λz=>h3 (s.hh.free z)⟩,E.dj,E.lk,E.lt⟩
def Ev.keep(E:Ev K H0 G0 G H σ Δ A)(s:aB H H'):Ev K H0 G0 G H' σ Δ A:=
 E.grow ⟨s,E.st.gh.trans s,aB.refl _,λ_ n _=>n⟩
def Fa{α:Type}{l:List α}{i j:Nat}{x y:α}(h:(l.set i x)[j]? =some y):(i=j/\y=x)\/(i≠j/\l[j]? =some y):=by
 by_cases e:i=j
 ·subst e;rw[List.getElem?_set]at h;simp only[if_true]at h
  split at h
  ·exact .inl ⟨rfl,(K1 h).symm⟩
  ·cases h
 ·rw[C4 e]at h;exact .inr ⟨e,h⟩
def vQ{α:Type}{l:List α}{i:Nat}{x y:α}(h:(l.set i x)[i]? =some y):i < l.length:=by
 by_cases hh:i < l.length
 ·exact hh
 ·rw[K0 (by rw[F9];lia)]at h;cases h
def Ev.put(E:Ev K H0 G0 G H σ Δ A){i:Nat}{d:D}(r:aM K G v d):Ev K H0 G0 G H (σ.set i (some v)) (Δ.set i (.sh d)) A:=by
 refine⟨E.st,by rw[F9,F9];exact E.len,λj d' e=> ?_,λj z d' e zo=> ?_,E.out,E.dj,λj d' e=> ?_,λj d' e=> ?_⟩
 ·rcases Fa e with⟨rfl,q⟩|⟨n,q⟩
  ·cases q;exact⟨v,by rw[F7 (by rw[E.len];exact vQ e)],r⟩
  ·obtain⟨v',e1,r'⟩:=E.sh j d' q;exact⟨v',by rw[C4 n];exact e1,r'⟩
 ·rcases Fa e with⟨rfl,q⟩|⟨n,q⟩
  ·subst q;cases zo
  ·obtain⟨v',e1,t⟩:=E.ow j z d' q zo;exact⟨v',by rw[C4 n];exact e1,t⟩
 ·rcases Fa e with⟨rfl,q⟩|⟨n,q⟩
  ·cases q
  ·rw[C4 n];exact E.lk j d' q
 ·rcases Fa e with⟨rfl,q⟩|⟨n,q⟩
  ·cases q
  ·rw[C4 n];exact E.lt j d' q
def Ev.kY(E:Ev K H0 G0 G H σ Δ A){i:Nat}{z:Sl}{d:Tn}{S:AS}(fr:∀a,S a->H0.h a=none/\G a=none/\H a≠none)(zo:z.own=some d)(zl:∀d,z≠ .lk d)(t:Ow K G H v d S)(nw:∀j a,A j a->¬S a)(zt:∀d,z=.lt d->v=.ref (H0.b i):=by intro _ z;cases z):
  Ev K H0 G0 G H (σ.set i (some v)) (Δ.set i z) (Cq A i S):=by
 refine⟨E.st,by rw[F9,F9];exact E.len,λj d' e'=> ?_,λj z' d' e' iH=> ?_,λj a ha=> ?_,λj j' a h1 h2=> ?_,λj d' e'=> ?_,λj d' e'=> ?_⟩
 ·rcases Fa e' with⟨rfl,q⟩|⟨nn,q⟩
  ·subst q;cases zo
  ·obtain⟨v',e1,r'⟩:=E.sh j d' q;exact⟨v',by rw[C4 nn];exact e1,r'⟩
 ·rcases Fa e' with⟨rfl,q⟩|⟨nn,q⟩
  ·subst q;rw[zo]at iH;cases iH;exact⟨v,by rw[F7 (by rw[E.len];exact vQ e')],by rw[jW];exact t⟩
  ·obtain⟨v',e1,x⟩:=E.ow j z' d' q iH;exact⟨v',by rw[C4 nn];exact e1,by rw[Go (Ne.symm nn)];exact x⟩
 ·by_cases z:j=i
  ·subst z;rw[jW]at ha;obtain⟨a1,a2,a3⟩:=fr a ha;exact⟨a2,a1,a3⟩
  ·rw[Go z]at ha;exact E.out j a ha
 ·by_cases z:j=i
  ·by_cases z':j'=i
   ·rw[z,z']
   ·rw[z,jW]at h1;rw[Go z']at h2;exact absurd h1 (nw j' a h2)
  ·by_cases z':j'=i
   ·rw[Go z]at h1;rw[z',jW]at h2;exact absurd h2 (nw j a h1)
   ·rw[Go z]at h1;rw[Go z']at h2;exact E.dj j j' a h1 h2
 ·rcases Fa e' with⟨rfl,q⟩|⟨nn,q⟩
  ·exact absurd q.symm (zl d')
  ·rw[C4 nn];exact E.lk j d' q
 ·rcases Fa e' with⟨rfl,q⟩|⟨nn,q⟩
  ·rw[F7 (by rw[E.len];exact vQ e'),zt d' q.symm]
  ·rw[C4 nn];exact E.lt j d' q
def Ev.dN(E:Ev K H0 G0 G H σ Δ A){i:Nat}{z:Sl}{d':Tn}{S:AS}(zo:z.own=some d')(zl:∀d,z≠ .lk d)(zt:∀d,z=.lt d->σ[i]? =some (some (.ref (H0.b i))))(ms:bX (A i) G H G' H')(s:σ[i]? =some (some v))(fr:∀a,S a->(A i a\/H a=none)/\G' a=none/\H' a≠none)(t:Ow K G' H' v d' S):
  Ev K H0 G0 G' H' σ (Δ.set i z) (Cq A i S):=by
 have st:Step G0 H0.h G' H':=⟨λb o q=>ms.hh b o (λhb=>by rw[(E.out i b hb).2.1]at q;cases q) (E.st.hh b o q),ms.gh,E.st.gg.trans ms.gg,
  λb n z=>ms.nw b (λhb=>z (E.out i b hb).2.1) (E.st.nw b n z) λq=>z (E.st.hh.free q)⟩
 refine⟨st,by rw[F9];exact E.len,λj d2 e'=> ?_,λj z' d2 e' iH=> ?_,λj a ha=> ?_,λj j' a h1 h2=> ?_,λj d2 e'=> ?_,λj d2 e'=> ?_⟩
 ·rcases Fa e' with⟨rfl,q⟩|⟨nn,q⟩
  ·subst q;cases zo
  ·obtain⟨v',e1,r'⟩:=E.sh j d2 q;exact⟨v',e1,r'.mono ms.gg⟩
 ·rcases Fa e' with⟨rfl,q⟩|⟨nn,q⟩
  ·subst q;rw[zo]at iH;cases iH;exact⟨v,s,by rw[jW];exact t⟩
  ·obtain⟨v',e1,x⟩:=E.ow j z' d2 q iH;rw[Go (Ne.symm nn)];exact⟨v',e1,x.mono ms.gg (λb o hb q=>ms.hh b o (λhi=>nn (E.dj i j b hi hb)) q) λ_ q=>q⟩
 ·by_cases z:j=i
  ·subst z;rw[jW]at ha;obtain⟨a1,a2,a3⟩:=fr a ha;refine⟨a2, ?_,a3⟩;rcases a1 with a1|a1
   ·exact(E.out j a a1).2.1
   ·exact E.st.hh.free a1
  ·rw[Go z]at ha;obtain⟨h1,h2,h3⟩:=E.out j a ha;have hn:¬A i a:=λhb=>z (E.dj j i a ha hb);refine⟨ms.nw a hn h1 h3,h2,λq=> ?_⟩;cases e:H a with
   |none=>exact h3 e
   |some o=>rw[ms.hh a o hn e]at q;cases q
 ·have own:∀k,k≠i->A k a->¬S a:=λk nk hk hs=>by
   rcases(fr a hs).1 with q|q
   ·exact nk (E.dj k i a hk q)
   ·exact(E.out k a hk).2.2 q
  by_cases z:j=i
  ·by_cases z':j'=i
   ·rw[z,z']
   ·rw[z,jW]at h1;rw[Go z']at h2;exact absurd h1 (own j' z' h2)
  ·by_cases z':j'=i
   ·rw[Go z]at h1;rw[z',jW]at h2;exact absurd h2 (own j z h1)
   ·rw[Go z]at h1;rw[Go z']at h2;exact E.dj j j' a h1 h2
 ·rcases Fa e' with⟨rfl,q⟩|⟨nn,q⟩
  ·exact absurd q.symm (zl d2)
  ·exact E.lk j d2 q
 ·rcases Fa e' with⟨rfl,q⟩|⟨nn,q⟩
  ·exact zt d2 q.symm
  ·exact E.lt j d2 q
def Ev.step(E:Ev K H0 G0 G H σ Δ A){i:Nat}{z:Sl}{d':Tn}{S:AS}(zo:z.own=some d')(zl:∀d,z≠ .lk d)(ms:bP (A i) G H G' H')(s:σ[i]? =some (some v))(fr:∀a,S a->(A i a\/H a=none)/\G' a=none/\H' a≠none)(t:Ow K G' H' v d' S)(zt:∀d,z≠ .lt d:=by intro _ z;cases z):
  Ev K H0 G0 G' H' σ (Δ.set i z) (Cq A i S):=E.dN zo zl (λd e=>absurd e (zt d)) ms.weak s fr t
def Ev.pG(E:Ev K H0 G0 G H σ Δ A){i:Nat}{a:Addr}{vs:List V}{ds:List D}(s:σ[i]? =some (some (.ref a)))(m:A i a)(r:aC K G vs ds):Ev K H0 G0 G (upd H a (.lst vs)) σ (Δ.set i (.ow (.lst ds))) (Cq A i (A i)):=
 have ms:=bP.write E.st.gh m (E.out i a m).1 (.lst vs)
 E.step rfl (λ_ z=>by cases z) ms s (λb hb=>⟨.inl hb,(E.out i b hb).1,ms.al b (E.out i b hb).2.2⟩) (Ow.list Bf m r)
def Ev.yk(E:Ev K H0 G0 G H σ Δ A){i:Nat}{a:Addr}{kvs:List (Ae×V)}{aA:List (Ae×D)}(s:σ[i]? =some (some (.ref a)))(m:A i a)(hk:kvs.map (·.1)=aA.map (·.1))(r:aC K G (kvs.map (·.2)) (aA.map (·.2))):Ev K H0 G0 G (upd H a (.dK kvs)) σ (Δ.set i (.ow (.aE aA))) (Cq A i (A i)):=
 have ms:=bP.write E.st.gh m (E.out i a m).1 (.dK kvs)
 E.step rfl (λ_ z=>by cases z) ms s (λb hb=>⟨.inl hb,(E.out i b hb).1,ms.al b (E.out i b hb).2.2⟩) (Ow.dict Bf hk m r)
end
def eS(Δ:SE)(j:Nat):SE:=match Δ[j]? with
 |some s=>Δ.set j s.give
 |none=>Δ
def aD(js:List Nat)(Δ:SE):SE:=js.foldl eS Δ
section
variable{K:Frag}{H0:HB}{G0 G H:Hp}{σ:Sg}{Δ:SE}{A:OS}
def uu{α:Type}{l:List α}{j:Nat}{x:α}(h:l[j]? =some x):l.set j x=l:=by
 apply S8;intro i
 by_cases e:j=i
 ·subst e;have dF:j < l.length:=(B5.mp h).1;rw[F7 dF,h]
 ·rw[C4 e]
def Ev.Lz(E:Ev K H0 G0 G H σ Δ A){j:Nat}{z:Sl}{t:Tn}(e:Δ[j]? =some z)(zo:z.own=some t):aB G (Dk G H (A j))/\Ev K H0 G0 (Dk G H (A j)) H σ (Δ.set j (.sh t.d)) (Cq A j λ_=>False):=by
   obtain⟨v,s1,t⟩:=E.ow j z t e zo;have sg:aB G (Dk G H (A j)):=λb o q=>by
    unfold Dk
    split
    ·rename_i hb;rw[(E.out j b hb).1]at q;cases q
    ·exact q
   have gh:aB (Dk G H (A j)) H:=λb o q=>by
    unfold Dk at q
    split at q
    ·exact q
    ·exact E.st.gh b o q
   refine⟨sg,⟨E.st.hh,gh,E.st.gg.trans sg,λb h1 h2=> ?_⟩,by rw[F9];exact E.len,λi d' e'=> ?_,λi z' d' e' iH=> ?_,λi b hb=> ?_,λi i' b h1 h2=> ?_,λi d' e'=> ?_,λi d' e'=> ?_⟩
   ·unfold Dk
    split
    ·rename_i hb;exact absurd (E.out j b hb).2.1 h2
    ·exact E.st.nw b h1 h2
   ·rcases Fa e' with⟨rfl,q⟩|⟨n,q⟩
    ·cases q;refine⟨v,s1,t.has sg λb o hb q=> ?_⟩;unfold Dk;rw[if_pos hb];exact q
    ·obtain⟨v',e1,r⟩:=E.sh i d' q;exact⟨v',e1,r.mono sg⟩
   ·rcases Fa e' with⟨rfl,q⟩|⟨n,q⟩
    ·subst q;cases iH
    ·obtain⟨v',e1,t'⟩:=E.ow i z' d' q iH;rw[Go (Ne.symm n)];exact⟨v',e1,t'.mono sg (λb o _ q=>q) λ_ q=>q⟩
   ·by_cases z:i=j
    ·subst z;rw[jW]at hb;exact hb.elim
    ·rw[Go z]at hb;obtain⟨k1,k2,k3⟩:=E.out i b hb;refine⟨?_,k2,k3⟩;unfold Dk;rw[if_neg λq=>z (E.dj i j b hb q)];exact k1
   ·by_cases z:i=j
    ·subst z;rw[jW]at h1;exact h1.elim
    ·by_cases z':i'=j
     ·subst z';rw[jW]at h2;exact h2.elim
     ·rw[Go z]at h1;rw[Go z']at h2;exact E.dj i i' b h1 h2
   ·rcases Fa e' with⟨rfl,q⟩|⟨n,q⟩
    ·cases q
    ·exact E.lk i d' q
   ·rcases Fa e' with⟨rfl,q⟩|⟨n,q⟩
    ·cases q
    ·exact E.lt i d' q
def Ev.uk(E:Ev K H0 G0 G H σ Δ A){j:Nat}{z:Sl}{t:Tn}(e:Δ[j]? =some z)(zo:z.own=some t):∃G' A',aB G G'/\Ev K H0 G0 G' H σ (Δ.set j (.sh t.d)) A':=⟨_,_,E.Lz e zo⟩
theorem Ev.eS(E:Ev K H0 G0 G H σ Δ A)(j:Nat):∃G' A',aB G G'/\Ev K H0 G0 G' H σ (L3.eS Δ j) A':=by
 unfold L3.eS;cases e:Δ[j]? with
 |none=>exact⟨G,A,aB.refl _,E⟩
 |some s=>
  cases s with
  |no=>exact⟨G,A,aB.refl _,by show Ev K H0 G0 G H σ (Δ.set j .no) A;rw[uu e];exact E⟩
  |sh d=>exact⟨G,A,aB.refl _,by show Ev K H0 G0 G H σ (Δ.set j (.sh d)) A;rw[uu e];exact E⟩
  |ow d=>
   have:=E.uk e (t:=Tn.of d) rfl;rw[Tn.eI]at this;exact this
  |tr t=>exact E.uk e rfl
  |lk d=>exact⟨G,A,aB.refl _,by show Ev K H0 G0 G H σ (Δ.set j (.lk d)) A;rw[uu e];exact E⟩
  |lt t=>exact⟨G,A,aB.refl _,by show Ev K H0 G0 G H σ (Δ.set j (.lt t)) A;rw[uu e];exact E⟩
theorem Ev.aD:∀(js:List Nat) {G:Hp} {Δ:SE} {A:OS},Ev K H0 G0 G H σ Δ A->∃G' A',aB G G'/\Ev K H0 G0 G' H σ (L3.aD js Δ) A'
 | [],G,Δ,A,E=>⟨G,A,aB.refl _,E⟩
 |j::js,G,Δ,A,E=>by
  obtain⟨G1,A1,s1,E1⟩:=E.eS j;obtain⟨G2,A2,s2,E2⟩:=Ev.aD js E1;exact⟨G2,A2,s1.trans s2,E2⟩
end
def Fin(K:Frag)(EX:Ax)(H0:HB)(G0 G1:Hp)(D:Ends):Fl->Prop
 | .nx Δ=>∀σ G H O,Ev K H0 G0 G H σ Δ O->aB G1 G->D.nx σ H
 | .bk Δ=>∀σ G H O,Ev K H0 G0 G H σ Δ O->aB G1 G->D.bk σ H
 | .ct Δ=>∀σ G H O,Ev K H0 G0 G H σ Δ O->aB G1 G->D.ct σ H
 | .rt w=>WP K G0 H0.h w D.rt
 | .rv d Δ=>∀v σ G H O,Ev K H0 G0 G H σ Δ O->aB G1 G->aM K G v d->D.rt v H
 | .ex x Δ=>∀σ G H O,Ev K H0 G0 G H σ Δ O->aB G1 G->(EX σ).p x G H
 | .no=>False
def Fin.mono{EX:Ax}{H0:HB}{G0 G1 G2:Hp}{D:Ends}{r:Fl}(s:aB G1 G2)(h:Fin K EX H0 G0 G1 D r):Fin K EX H0 G0 G2 D r:=by
 cases r with
 |nx Δ=>exact λ σ G H O E q=>h σ G H O E (s.trans q)
 |bk Δ=>exact λ σ G H O E q=>h σ G H O E (s.trans q)
 |ct Δ=>exact λ σ G H O E q=>h σ G H O E (s.trans q)
 |rt w=>exact h
 |rv d Δ=>exact λv σ G H O E q=>h v σ G H O E (s.trans q)
 |ex x Δ=>exact λ σ G H O E q=>h σ G H O E (s.trans q)
 |no=>exact h
def tS(K:Frag)(EX:Ax)(g:FS):TS:=λD σ H=>∃H0 G0 G Δ O,Ev K H0 G0 G H σ Δ O/\Fin K EX H0 G0 G D (g Δ)
abbrev SD(X:Cx)(EX:Ax)(st:Stmt)(g:FS):Prop:=PS X st (tS X.K EX g)
abbrev BD(X:Cx)(EX:Ax)(st:List Stmt)(g:FS):Prop:=gO X st (tS X.K EX g)
section
variable{X:Cx}{EX:Ax}{st:Stmt}{sts:List Stmt}{g h:FS}{pos:Pos}{e:Expr}{f:FE}{p:FT}
def Az:FS:=λ Δ=> .nx Δ
def Af(g h:FS):FS:=λ Δ=>match g Δ with
 | .nx Δ'=>h Δ'
 |r=>r
def Cl:BD X EX [] Az:=gO.imp UN λD σ H ⟨H0,G0,G,Δ,O,E,q⟩=>q σ G H O E (aB.refl _)
def Aw(h1:SD X EX st g):BD X EX [st] g:=wO h1
def Ap(h1:SD X EX st g)(h2:BD X EX sts h):BD X EX (st::sts) (Af g h):=
 gO.imp (Wz h1 h2) λD σ H ⟨H0,G0,G,Δ,O,E,q⟩=>by
  refine⟨H0,G0,G,Δ,O,E, ?_⟩;unfold Af at q;cases e:g Δ with
  |nx Δ'=>rw[e]at q;exact λ σ' G' H' O' E' sm=>⟨H0,G0,G',Δ',O',E',Fin.mono sm q⟩
  |bk Δ'=>rw[e]at q;exact q
  |ct Δ'=>rw[e]at q;exact q
  |rt w=>rw[e]at q;exact q
  |rv d Δ'=>rw[e]at q;exact q
  |ex x Δ'=>rw[e]at q;exact q
  |no=>rw[e]at q;exact q
def Mw(js:List Nat)(f:FE)(Δ:SE):Fl:=match f (At (aD js Δ)) with
 | .ex x=> .ex x (aD js Δ)
 |_=> .no
def BU(js:List Nat)(p:FT)(Δ:SE):Fl:=match p (At (aD js Δ)) with
 | .ex x=> .ex x (aD js Δ)
 |_=> .no
def Iv{H0:HB}{G0 G G1 H:Hp}{σ:Sg}{Δ:SE}{O:OS}{D:Ends}{js:List Nat}{Q:VK}(E:Ev K H0 G0 G H σ Δ O)(sg:aB G1 G)(q:Fin K EX H0 G0 G1 D (Mw js f Δ)):tD K EX f σ H Q:=by
 obtain⟨G',O',s',E'⟩:=E.aD js;refine⟨G',At (aD js Δ),E'.st.gh,E'.dU, ?_⟩;unfold Mw at q;cases e:f (At (aD js Δ)) with
 |ok w=>rw[e]at q;exact q.elim
 |ex x=>rw[e]at q;exact q σ G' H O' E' (sg.trans s')
 |no=>rw[e]at q;exact q.elim
def Wg{H0:HB}{G0 G G1 H:Hp}{σ:Sg}{Δ:SE}{O:OS}{D:Ends}{js:List Nat}{Q:Bool->Hp->Prop}(E:Ev K H0 G0 G H σ Δ O)(sg:aB G1 G)(q:Fin K EX H0 G0 G1 D (BU js p Δ)):eG K EX p σ H Q:=by
 obtain⟨G',O',s',E'⟩:=E.aD js;refine⟨G',At (aD js Δ),E'.st.gh,E'.dU, ?_⟩;unfold BU at q;cases e:p (At (aD js Δ)) with
 |ok w=>rw[e]at q;exact q.elim
 |ex x=>rw[e]at q;exact q σ G' H O' E' (sg.trans s')
 |no=>rw[e]at q;exact q.elim
def Au(js:List Nat)(f:FE):FS:=λ Δ=>match f (Be Δ) with
 | .ok w=> .rt w
 | .ex _=>Mw js f Δ
 | .no=> .no
def Bp(js:List Nat)(he:ED X EX e f):SD X EX (.Return (some e) pos) (Au js f):=
 PS.imp (we he) λD σ H ⟨H0,G0,G,Δ,O,E,q⟩=>by
  unfold Au at q;cases e1:f (Be Δ) with
  |ok w=>
   rw[e1]at q;exact⟨Cy G H O,Be Δ,E.aH,E.eJ,by rw[e1];exact WP.mono E.LB q⟩
  |ex x=>rw[e1]at q;exact Iv E (aB.refl _) q
  |no=>rw[e1]at q;exact q.elim
noncomputable def Cb(i:Nat):FS:=λ Δ=>match Δ[i]? with
 |some (.sh d)=> .rt (.sh d)
 |some (.ow d)=> .rt (.ow d)
 |some (.tr t)=> .rt (.tr t)
 |_=> .no
def sY(i:Nat){x:Str}{pos pos':Pos}(hN:X.N[i]? =some x:=by rfl)(hv:Fm X.env.scope x:=by trivial)(hd:AG x:=by decide)
  (bO:(x ==("__classdict__" :Str))=false:=by decide):SD X EX (.Return (some (.Name x pos)) pos') (Cb i):=
 PS.imp (we (Fd hN hv hd bO)) λD σ H ⟨H0,G0,G,Δ,O,E,q⟩=>by
  unfold Cb at q
  split at q
  ·rename_i d e;obtain⟨v,e1,r⟩:=E.sh i d e;exact⟨v,e1,(WP.mono (w:=.sh d) (Q:=D.rt) E.st q).use E.st.gh r⟩
  ·rename_i d e;obtain⟨v,e1,t⟩:=E.ow i _ _ e rfl;exact⟨v,e1,q v (O i) G H E.st (λa ha=>let⟨h1,h2,h3⟩:=E.out i a ha;⟨h2,h1,h3⟩) t⟩
  ·rename_i d e;obtain⟨v,e1,t⟩:=E.ow i _ _ e rfl;exact⟨v,e1,q v (O i) G H E.st (λa ha=>let⟨h1,h2,h3⟩:=E.out i a ha;⟨h2,h1,h3⟩) t⟩
  ·exact q.elim
noncomputable def Ei(i:Nat)(Δ:SE):R W->Fl
 | .ok (.sh d)=> .nx (Δ.set i (.sh d))
 | .ok (.ow d)=> .nx (Δ.set i (.ow d))
 | .ok (.tr t)=> .nx (Δ.set i (.tr t))
 | .ex x=> .ex x Δ
 | .no=> .no
def Al(i:Nat)(js:List Nat)(f:FE):FS:=λ Δ=>match f (At Δ) with
 | .ok (.sh d)=> .nx (Δ.set i (.sh d))
 | .ok (.ow d)=> .nx (Δ.set i (.ow d))
 | .ok (.tr t)=> .nx (Δ.set i (.tr t))
 | .ex x=> .ex x Δ
 | .no=>match f (Be Δ) with
  | .ex _=>Ei i (aD js Δ) (f (At (aD js Δ)))
  | .no=> .no
  | .ok w=>if Bh w.d=true then .nx (Δ.set i (.sh w.d)) else Ei i (aD js Δ) (f (At (aD js Δ)))
def rT{H0:HB}{G0 G G1 H:Hp}{σ:Sg}{Δ:SE}{O:OS}{D:Ends}{i:Nat}(E:Ev K H0 G0 G H σ Δ O)(sg:aB G1 G)
  (q:Fin K EX H0 G0 G1 D (Ei i Δ (f (At Δ)))):nF (tD K EX f) (ot i) D σ H:=by
 refine⟨G,At Δ,E.st.gh,E.dU, ?_⟩;unfold Ei at q;cases e1:f (At Δ) with
 |ok w=>
  rw[e1]at q;cases w with
  |sh d=>exact λv G' H' st r=>q _ G' H' O ((E.grow st).put r) (sg.trans st.gg)
  |ow d=>
   intro v S G' H' st fr t;exact q _ G' H' _ ((E.grow st).kY (λa ha=>⟨E.st.hh.free (fr a ha).1,(fr a ha).2⟩) rfl (λ_ z=>by cases z) t λj a hj hs=>(E.out j a hj).2.2 (fr a hs).1) (sg.trans st.gg)
  |tr d=>
   intro v S G' H' st fr t;exact q _ G' H' _ ((E.grow st).kY (λa ha=>⟨E.st.hh.free (fr a ha).1,(fr a ha).2⟩) rfl (λ_ z=>by cases z) t λj a hj hs=>(E.out j a hj).2.2 (fr a hs).1) (sg.trans st.gg)
 |ex x=>rw[e1]at q;exact q σ G H O E sg
 |no=>rw[e1]at q;exact q
def Iu{D:Ends}{σ:Sg}{i:Nat}{js:List Nat}(q:tS K EX (Al i js f) D σ H):nF (tD K EX f) (ot i) D σ H:=by
 obtain⟨H0,G0,G,Δ,O,E,q⟩:=q;unfold Al at q;cases e1:f (At Δ) with
 |ok w=>
  rw[e1]at q;refine rT E (aB.refl _) ?_;unfold Ei;rw[e1];cases w <;> exact q
 |ex x=>
  rw[e1]at q;refine rT E (aB.refl _) ?_;unfold Ei;rw[e1];exact q
 |no=>
  rw[e1]at q;cases e2:f (Be Δ) with
  |ok w=>
   simp only[e2]at q
   split at q
   ·rename_i fl;refine⟨Cy G H O,Be Δ,E.aH,E.eJ, ?_⟩;rw[e2];exact WP.intro λv G' H' st r=>q _ G H' O ((E.keep st.hh).put (r.CU fl)) (aB.refl _)
   ·obtain⟨G',O',sg,E'⟩:=E.aD js;exact rT E' sg q
  |ex x=>
   simp only[e2]at q;obtain⟨G',O',sg,E'⟩:=E.aD js;exact rT E' sg q
  |no=>simp only[e2]at q;exact q.elim
def Bi{i:Nat}(js:List Nat){x:Str}{pos':Pos}(he:ED X EX e f)(hN:X.N.Nodup)(hi:X.N[i]? =some x:=by rfl)(hx:Ga X.env.scope x:=by trivial)(hs:swapsWith e (some (.Name x pos')) pos.line X.env=pure false:=by rfl)
  (hf:X.fn x=true\/X.env.scope.names.lookup x=some .local:=by trivial):SD X EX (.Assign [.Name x pos'] e pos) (Al i js f):=
 PS.imp (wb hN hi hx he hs hf) λD σ H q=>Iu q
def iB(js:List Nat)(f:FE):FS:=λ Δ=>match f (Be Δ) with
 | .ok _=> .nx Δ
 | .ex _=>Mw js f Δ
 | .no=> .no
def Us(js:List Nat)(he:ED X EX e f)(hs:swapsWith e none pos.line X.env=pure false:=by rfl):SD X EX (.Expr e pos) (iB js f):=
 PS.imp (md he hs) λD σ H ⟨H0,G0,G,Δ,O,E,q⟩=>by
  unfold iB at q;cases e1:f (Be Δ) with
  |ok w=>
   rw[e1]at q;exact⟨Cy G H O,Be Δ,E.aH,E.eJ,by rw[e1];exact WP.intro λv G' H' st r=>q σ G H' O (E.keep st.hh) (aB.refl _)⟩
  |ex x=>rw[e1]at q;exact Iv E (aB.refl _) q
  |no=>rw[e1]at q;exact q.elim
def Bu(js:List Nat)(p:FT)(g h:FS):FS:=λ Δ=>match p (Be Δ) with
 | .ok b=>if b=true then g Δ else h Δ
 | .ex _=>BU js p Δ
 | .no=> .no
def Jl{H0:HB}{G0 G H:Hp}{σ:Sg}{Δ:SE}{O:OS}{D:Ends}{k:Bool->Fl}{P:Bool->Hp->Prop}{js:List Nat}(E:Ev K H0 G0 G H σ Δ O)
  {G1:Hp} (sg:aB G1 G) (q:Fin K EX H0 G0 G1 D (match p (Be Δ) with| .ok b=>k b| .ex _=>BU js p Δ| .no=> .no)) (i:∀b H',p (Be Δ)=.ok b->Ev K H0 G0 G H' σ Δ O->Fin K EX H0 G0 G1 D (k b)->P b H'):eG K EX p σ H P:=by
 cases e1:p (Be Δ) with
 |ok b=>rw[e1]at q;exact⟨Cy G H O,Be Δ,E.aH,E.eJ,by rw[e1];exact λG' H' st=>i b H' e1 (E.keep st.hh) q⟩
 |ex x=>rw[e1]at q;exact Wg E sg q
 |no=>rw[e1]at q;exact q.elim
def Cn(js:List Nat){c:Expr}{as bs:List Stmt}(hc:TD X EX c p)(ha:BD X EX as g)(hb:BD X EX bs h):SD X EX (.If c as bs pos) (Bu js p g h):=
 PS.imp (DT hc ha hb) λD σ H ⟨H0,G0,G,Δ,O,E,q⟩=>Jl (k:=λb=>if b=true then g Δ else h Δ) E (aB.refl _) q λb H' _ E' q'=>by
  cases b with
  |true=>rw[if_pos rfl];exact⟨H0,G0,G,Δ,O,E',q'⟩
  |false=>rw[if_neg A7];exact⟨H0,G0,G,Δ,O,E',q'⟩
def gz(js:List Nat)(p:FT)(g:FS):Nat->FS
 |0=>λ_=> .no
 |n + 1=>λ Δ=>match p (Be Δ) with
  | .ok b=>if b=true then(match g Δ with
    | .nx Δ'=>gz js p g n Δ'
    | .ct Δ'=>gz js p g n Δ'
    | .bk Δ'=> .nx Δ'
    |r=>r) else .nx Δ
  | .ex _=>BU js p Δ
  | .no=> .no
def xo(js:List Nat)(n:Nat){c:Expr}{body:List Stmt}(hp:PassesOwn (model X.prog X.w) X.A X.env X.xe)(hc:TD X EX c p)(hb:BD X EX body g):SD X EX (.While c body [] pos) (gz js p g n):=
 PS.imp (Wy hp hc hb) λD σ H ⟨H0,G0,G1,Δ,O,E,q⟩=>by
  refine⟨λm σ H=>∃G Δ O,Ev X.K H0 G0 G H σ Δ O/\aB G1 G/\Fin X.K EX H0 G0 G1 D (gz js p g m Δ),⟨n,G1,Δ,O,E,aB.refl _,q⟩, ?_⟩
  rintro m σ H ⟨G,Δ,O,E,sg,q⟩
  cases m with
  |zero=>exact False.elim q
  |succ m=>
   refine Jl (k:=λb=>if b=true then(match g Δ with| .nx Δ'=>gz js p g m Δ'| .ct Δ'=>gz js p g m Δ'| .bk Δ'=> .nx Δ'|r=>r) else .nx Δ) E sg q λb H' _ E' q'=> ?_;cases b with
   |false=>rw[if_neg A7];exact q' σ G H' O E' sg
   |true=>
    rw[if_pos rfl];rw[if_pos rfl]at q';refine⟨λ σ' H'=>∃G Δ O,Ev X.K H0 G0 G H' σ' Δ O/\aB G1 G/\Fin X.K EX H0 G0 G1 D (gz js p g m Δ),λ σ' H' w=>⟨m,T9 _,w⟩,H0,G0,G,Δ,O,E', ?_⟩;cases e1:g Δ with
    |nx Δ'=>rw[e1]at q';exact λ σ' G' H' O' E2 s2=>⟨G',Δ',O',E2,sg.trans s2,q'⟩
    |ct Δ'=>rw[e1]at q';exact λ σ' G' H' O' E2 s2=>⟨G',Δ',O',E2,sg.trans s2,q'⟩
    |bk Δ'=>rw[e1]at q';exact Fin.mono (r:=.nx Δ') sg q'
    |rt w=>rw[e1]at q';exact q'
    |rv d Δ'=>rw[e1]at q';exact Fin.mono (r:=.rv d Δ') sg q'
    |ex x Δ'=>rw[e1]at q';exact Fin.mono (r:=.ex x Δ') sg q'
    |no=>rw[e1]at q';exact q'
end
noncomputable def Br(n:Nat)(ds:List D):SE:=ds.map Sl.sh ++ List.replicate (n - ds.length) .no
def An(n:Nat)(g:FS)(ds:List D):R W:=match g (Br n ds) with
 | .nx _=> .ok (.sh .aK)
 | .rt w=> .ok w
 | .ex x _=> .ex x
 |_=> .no
def We{G H:Hp}{vs:List V}{ds:List D}{N:List Str}(g:aB G H)(r:aC K G vs ds):Ev K ⟨H,λ_=>0⟩ G G H (L2.start N vs) (Br N.length ds) (λ_ _=>False):=by
 refine⟨Step.refl g, ?_,λi d e=> ?_,λi z d e zo=> ?_,λ_ _ ha=>ha.elim,λ_ _ _ ha=>ha.elim,λi d e=> ?_,λi d e=> ?_⟩
 ·unfold L2.start Br;simp only[B8,A3,M5,r.length]
 ·unfold Br at e
  by_cases hi:i < ds.length
  ·rw[E9 (by rw[A3];exact hi),A9]at e;cases q:ds[i]? with
   |none=>rw[q]at e;cases e
   |some d'=>
    rw[q]at e;cases e;obtain⟨v,e1,h⟩:=r.get q;refine⟨v, ?_,h⟩;unfold L2.start;rw[E9 (by rw[A3,r.length];exact hi),A9,e1];rfl
  ·rw[K7 (by rw[A3];lia),L5]at e
   split at e <;> cases e
 ·exfalso;unfold Br at e
  by_cases hi:i < ds.length
  ·rw[E9 (by rw[A3];exact hi),A9]at e;cases q:ds[i]? with
   |none=>rw[q]at e;cases e
   |some d'=>rw[q]at e;cases e;cases zo
  ·rw[K7 (by rw[A3];lia),L5]at e
   split at e
   ·cases e;cases zo
   ·cases e
 ·exfalso;unfold Br at e
  by_cases hi:i < ds.length
  ·rw[E9 (by rw[A3];exact hi),A9]at e;cases q:ds[i]? with
   |none=>rw[q]at e;cases e
   |some d'=>rw[q]at e;cases e
  ·rw[K7 (by rw[A3];lia),L5]at e
   split at e <;> cases e
 ·exfalso;unfold Br at e
  by_cases hi:i < ds.length
  ·rw[E9 (by rw[A3];exact hi),A9]at e;cases q:ds[i]? with
   |none=>rw[q]at e;cases e
   |some d'=>rw[q]at e;cases e
  ·rw[K7 (by rw[A3];lia),L5]at e
   split at e <;> cases e
def Qk{c:Bool}{P:Program}{w:World}{x qual:Str}{st:Stmt}{f:Addr}{N ps:List Str}{k:Nat}{g:FS}(F:bC K x qual st f fd)(S:aV N ps (Cc st))
  (zh:∀(zp:Value) (A:Around) (outer:List Env) (s:Shared) (H:Hp) (E:XK),aF c k (A.deeper (envOfC qual (Cc st) s.heap.objs.size f zp))->
   BD (Gr c P w K mg base N qual (Cc st) f zp A outer s H E) (λ_=>bW K E) (Ft st) g):bI P w K mg base c (k + 1) f fd ps (Bo K ps.length (An N.length g)):=by
 refine bC.AN F S (λvs H Q E h=>h.1) λzp A outer s H vs Q E hr h=>⟨_,zh zp A outer s H E hr, ?_⟩;obtain⟨hl,G,ds,g0,r,o⟩:=h;refine⟨⟨H,λ_=>0⟩,G,G,_,_,We g0 r, ?_⟩;unfold An at o;cases e:g (Br N.length ds) with
 |nx Δ=>rw[e]at o;exact λ σ G' H' O E' _=>(WP.mono (w:=.sh .aK) (Q:=Q) E'.st o).use E'.st.gh .aK
 |rt w=>rw[e]at o;exact o
 |rv d Δ=>rw[e]at o;exact o.elim
 |ex x Δ=>rw[e]at o;exact λ σ G' H' O E' _=>(bW K E).mono _ _ _ _ _ E'.st o
 |bk Δ=>rw[e]at o;exact o.elim
 |ct Δ=>rw[e]at o;exact o.elim
 |no=>rw[e]at o;exact o
def RH{c:Bool}{P:Program}{w:World}{x:Str}{st:Stmt}{f:Addr}{ps:List Str}{k:Nat}{Fn:AF}(F:bC K x x st f fd)(hm:mg x=some (.ref f))(hb:Binds K fd ps [])
  (ok:bI P w K mg base c k f fd ps (Bo K ps.length Fn)):CK P w K mg base c x k ps Fn:=⟨f,fd,ok,hm,F.kp,hb⟩
def vF(x:Str):It:=⟨λi _=>i < x.cps.size,λi H v H'=>H'=H/\∃c,x.cps[i]? =some c/\v=.str ⟨#[c]⟩,λi _=>i=x.cps.size⟩
def Ys{P:Program}{w:World}{tg:Expr}{it:Addr}{n:Nat}{Pv:Nat->Value->Prop}{St:Nat->Heap->Prop}{J:It}
  (W:∀A':Around,A'.handled=none->Walks P w A' it [it] [it] n Pv St)
  (bb:∀i h,St i h->∃o nm vs,h.get? it=some o/\o.cls=.type nm/\o.data=.fields vs/\ ["enumerate","zip","dict_itemiterator","dict_reverseitemiterator","odict_iterator","itertools.zip_longest","itertools.pairwise"].contains nm=false)
  (bz:∀(i:Nat) (h h':Heap),St i h->(∀b∈ [it],∀o,h.get? b=some o->h'.get? b=some o)->St i h') (cq:∀(A:Around) (i:Nat) (s:Shared) (Q E:AA),St i s.heap->Q (.ref it) s->wpAny (model P w) A (pyIter (.ref it)) Q E s)
  (hgo:∀i H,J.go i H->i < n) (cA:∀i H,J.stop i H->i=n) (hy:∀i H u,Pv i u->∃x,RelV x u/\J.yB i H x H):Turn P w K tg J [it] it St where
 mem:=by simp
 obj:=λi h st b hb=>by
  have e:b=it:=by simpa using hb
  subst e;obtain⟨o,nm,vs,e,c,d,_⟩:=bb i h st;exact⟨o,e,λv z=>by rw[d]at z;cases z⟩
 keep:=bz
 item:=by
  intro X hP hw hK hc i zc s σ H E I hf st hg;subst hP hw hK;obtain⟨f0,f1,f2,f3,f4,f5⟩:=hf it (by simp);refine(W X.A (I.ok.hd hc)).item i s _ _ (hgo i H hg) st λv h' tk hv dE kk=> ?_;have I1:Inv X zc σ H {s with heap:=h',toks:=tk}:=I.turned (λb o hb e=>kk b o (by simpa using hb) e) f0 f1 f3 f4 f5;obtain⟨x,rx,yx⟩:=hy i H v hv;obtain⟨o,nm,vs,e,c,d,hn⟩:=bb (i + 1) h' dE;exact⟨v,rfl,oq (s:={s with heap:=h',toks:=tk}) e c d hn ⟨x,H,I1,rx,yx,dE,λb hb=>(hf b hb).1⟩⟩
 done:=by
  intro X hP hw hK hc i zc s σ H E I hf st hg;subst hP hw hK;obtain⟨f0,f1,f2,f3,f4,f5⟩:=hf it (by simp);obtain rfl:=cA i H hg;exact(W X.A (I.ok.hd hc)).done s _ _ st λh' tk kk=>⟨rfl,I.turned (λb o hb e=>kk b o (by simpa using hb) e) f0 f1 f3 f4 f5⟩
 self:=cq
def Gm(K:Frag)(G1:Hp)(J:It)(ds:List D):Prop:=∀G H,aB G1 G->aB G H->∀i,
 (∀d,ds[i]? =some d->J.go i H/\∀x H',J.yB i H x H'->∃G',Step G H G' H'/\aM K G' x d)/\(ds.length=i->J.stop i H)
abbrev FI:=DE->R (List D)
def tI(K:Frag)(EX:Ax)(fi:FI):TI:=λ σ H Q=>∃G δ,aB G H/\aU K G σ δ/\match fi δ with
 | .ok ds=>∀J G' H',Step G H G' H'->Gm K G' J ds->Q J H'
 | .ex x=>(EX σ).p x G H
 | .no=>False
abbrev ID(X:Cx)(EX:Ax)(tg iter:Expr)(fi:FI):Prop:=PI X tg iter (tI X.K EX fi)
def PI.imp{tg e:Expr}{t t':TI}(h:PI X tg e t)(i:∀σ H Q,t' σ H Q->t σ H Q):PI X tg e t':=λzc s σ H Q I q=>h zc s σ H Q I (i σ H Q q)
section
variable{X:Cx}{EX:Ax}{tg e a b:Expr}{f:FE}{fa:FA}{p pos:Pos}
def gv.Px{G H:Hp}{σ:Sg}{δ:DE}{k:List D->R (List D)}{Q:It->Hp->Prop}{P:List V->Hp->Prop}(g:aB G H)(s:aU K G σ δ)
  (h:match(fa δ).bind k with| .ok ds=>∀J G' H',Step G H G' H'->Gm K G' J ds->Q J H'| .ex x=>(EX σ).p x G H| .no=>False)
  (i:∀ds vs G' H',Step G H G' H'->aC K G' vs ds->(match k ds with| .ok ds=>∀J G2 H2,Step G' H' G2 H2->Gm K G2 J ds->Q J H2| .ex x=>(EX σ).p x G' H'| .no=>False)->P vs H'):gv K EX fa σ H P:=by
 refine⟨G,δ,g,s, ?_⟩;cases e:fa δ with
 |ok ds=>
  rw[e]at h;simp only[R.aI]at h;refine λvs G' H' st r=>i ds vs G' H' st r ?_;cases e2:k ds with
  |ok ds'=>rw[e2]at h;exact λJ G2 H2 aT it=>h J G2 H2 (st.trans aT) it
  |ex x=>rw[e2]at h;exact(EX σ).mono _ _ _ _ _ st h
  |no=>rw[e2]at h;exact h
 |ex x=>rw[e]at h;exact h
 |no=>rw[e]at h;exact h
def iY(lo:Int)(n:Nat):List D:=(List.range n).map λ(k:Nat)=>D.int (lo + (k:Int))
def Xs{lo:Int}{n i:Nat}{d:D}(h:(iY lo n)[i]? =some d):i < n/\d=.int (lo + (i:Int)):=by
 unfold iY at h;rw[A9]at h
 by_cases hi:i < n
 ·rw[U4 hi]at h;cases h;exact⟨hi,rfl⟩
 ·rw[K0 (by rw[Q5];lia)]at h;cases h
def Jk(lo:Int)(n:Nat):(iY lo n).length=n:=by unfold iY;rw[A3,Q5]
def Xr{G:Hp}(lo:Int)(n:Nat):Gm K G (MR lo n) (iY lo n):=λG' H _ g i=>by
 refine⟨λd e=> ?_,λe=> ?_⟩
 ·obtain⟨hi,rfl⟩:=Xs e;refine⟨hi,λx H' y=> ?_⟩;obtain⟨e1,e2⟩:=y;subst e1 e2;exact⟨G',Step.refl g,.int _⟩
 ·rw[Jk]at e;exact T8 e
def gT:List D->R (List D)
 | [.int j]=>if j.natAbs < 4611686018427387904 then .ok (iY 0 j.toNat) else .no
 |_=> .no
def Gu(k:List D->R (List D))(fa:FA):FI:=λ δ=>(fa δ).bind k
def xK(hm:X.mg "range" =none)(ha:AD X EX [a] fa)(hg:Gl X "range" :=by rfl)(hs:starEach [a] X.env= [(false,eval a X.env)]:=by rfl):ID X EX tg (.Call (.Name "range" p) [a] [] pos) (Gu gT fa):=
 PI.imp (XR hg hm ha hs) λ σ H Q ⟨G,δ,g0,s0,o⟩=>gv.Px g0 s0 o λds vs G' H' st r o'=>by
  cases r with
  |nil=>exact False.elim o'
  |cons h t=>
   cases t with
   |cons _ _=>cases h <;> exact False.elim o'
   |nil=>
    cases h with
    |int j=>
     by_cases hc:j.natAbs < 4611686018427387904
     ·rw[show gT [.int j]=.ok (iY 0 j.toNat) from if_pos hc]at o';exact⟨j,rfl,by lia,by lia,o' _ G' H' (Step.refl st.gh) (Xr 0 j.toNat)⟩
     ·rw[show gT [.int j]=.no from if_neg hc]at o';exact o'.elim
    |_=>exact False.elim o'
noncomputable def jM(x:Str):List D:=x.cps.toList.map λc=> .str ⟨#[c]⟩
def Fw:D->R (List D)
 | .lst ds=> .ok ds
 | .tup ds=> .ok ds
 | .str x=> .ok (jM x)
 |_=> .no
def Ej(f:FE):FI:=λ δ=>(f δ).bind λw=>Fw w.d
def PU(K:Frag)(tl:TE):TI:=λ σ H Q=>tl σ H λx H1=>
 (∃a,x=.ref a/\(∃xs,cF K H1 a xs)/\Q (Pe K a) H1)\/(∃a,x=.ref a/\(∃xs,dD K H1 a xs)/\Q (Pd K a) H1)\/(∃z,x=.str z/\Q (vF z) H1)
def RG{l:Expr}{tl:TE}(hl:PE X l tl):PI X tg l (PU X.K tl):=by
 intro zc s σ H Q I h;refine Ay (hl zc s σ H _ I h) λv s1 ⟨x,H1,I1,r1,q1⟩=> ?_;rcases q1 with⟨a,e,⟨xs,hq⟩,q⟩|⟨a,e,⟨xs,hq⟩,q⟩|⟨z,e,q⟩
 ·subst e;cases r1;obtain⟨its,rv,p,hz⟩:=I1.list hq;refine Z9 p.isList ?_;refine⟨s1.heap.objs.size,[s1.heap.objs.size],_,_,H1,rfl,I1.kept (t':=s1.toks) λb o e=>A4 _ e,XS a _,⟨_,C1 _ rfl,rfl,rfl⟩,λb hb=> ?_,q⟩;have e:b=s1.heap.objs.size:=by simpa using hb
  subst e;exact I1.fL (B6 _) (I1.aJ.fresh (B6 _))
 ·subst e;cases r1;obtain⟨its,rv,p,hz⟩:=I1.tuple hq;refine wpAny_pyIter_tuple (show s1.heap.IsTuple a its.toArray from p) ?_;refine⟨s1.heap.objs.size,[s1.heap.objs.size],_,_,H1,rfl,I1.kept (t':=s1.toks) λb o e=>A4 _ e,YD a _,⟨_,C1 _ rfl,rfl,rfl⟩,λb hb=> ?_,q⟩;have e:b=s1.heap.objs.size:=by simpa using hb
  subst e;exact I1.fL (B6 _) (I1.aJ.fresh (B6 _))
 ·subst e;obtain⟨t,rfl⟩:=r1;have fin:∀(nm:String) (St:Nat->Heap->Prop),(∀i h,St i h↔h.IsStrIter s1.heap.objs.size nm z t i)->(∀A':Around,A'.handled=none->Walks X.prog X.w A' s1.heap.objs.size [s1.heap.objs.size] [s1.heap.objs.size] z.cps.size (SignAt z) St)->
    ["enumerate","zip","dict_itemiterator","dict_reverseitemiterator","odict_iterator","itertools.zip_longest","itertools.pairwise"].contains nm=false->
    (∀(A:Around) (i:Nat) (s:Shared) (Q E:AA),s.heap.IsStrIter s1.heap.objs.size nm z t i->Q (.ref s1.heap.objs.size) s->wpAny (model X.prog X.w) A (pyIter (.ref s1.heap.objs.size)) Q E s)->
    OY X zc σ tg Q (.ref s1.heap.objs.size) {s1 with heap:=s1.heap.push {cls:=.type nm,data:=.fields #[.str z t,.int 0 0]}}:=by
   intro nm St hS W hn PV;refine⟨s1.heap.objs.size,[s1.heap.objs.size],St,vF z,H1,rfl,I1.kept (t':=s1.toks) λb o e=>A4 _ e,
    Ys W (λi h st=> ?_) (λi h h' st k=> ?_) (λA i s Q E st h=>PV A i s Q E ((hS _ _).mp st) h) (λi H g=>g) (λi H g=> ?_) (λi H u hu=> ?_),(hS _ _).mpr ⟨_,C1 _ rfl,rfl,rfl⟩,λb hb=> ?_,q⟩
   ·obtain⟨o,ho,hc,hd⟩:=(hS _ _).mp st;exact⟨o,nm,_,ho,hc,hd,hn⟩
   ·obtain⟨o,ho,r⟩:=(hS _ _).mp st;exact(hS _ _).mpr ⟨o,k _ (by simp) o ho,r⟩
   ·exact g
   ·obtain⟨c,u',e1,e2⟩:=hu;subst e2;exact⟨.str ⟨#[c]⟩,⟨u',rfl⟩,rfl,c,e1,rfl⟩
   ·have e:b=s1.heap.objs.size:=by simpa using hb
    subst e;exact I1.fL (B6 _) (I1.aJ.fresh (B6 _))
  cases ha:z.cps.all (· < 128)
  ·exact wpAny_pyIter_wide ha (fin "str_iterator" _ (λ_ _=>Iff.rfl) (λA' hA=>Walks.strWide hA _ z t) ⋯ λA i s Q E st h=>wpAny_pyIter_striter_wide st h)
  ·exact wpAny_pyIter_ascii ha (fin "str_ascii_iterator" _ (λ_ _=>Iff.rfl) (λA' hA=>Walks.strAscii hA _ z t) ⋯ λA i s Q E st h=>wpAny_pyIter_striter_ascii st h)
def Wd{G:Hp}{a:Addr}{vs:List V}{ds:List D}(h:cF K G a vs)(r:aC K G vs ds):Gm K G (Pe K a) ds:=λG' H g1 g i=>by
 refine⟨λd e=> ?_,λe=> ?_⟩
 ·obtain⟨v,e1,hv⟩:=r.get e;refine⟨⟨vs,v,(g1.trans g).seq h,e1⟩,λx H' y=> ?_⟩;obtain⟨e2,y⟩:=y;subst e2;have e3:=y vs ((g1.trans g).seq h);rw[e1]at e3;cases e3;exact⟨G',Step.refl g,hv.mono g1⟩
 ·exact⟨vs,(g1.trans g).seq h,by rw[r.length];exact T8 e⟩
def Ur{G:Hp}{a:Addr}{vs:List V}{ds:List D}(h:dD K G a vs)(r:aC K G vs ds):Gm K G (Pd K a) ds:=λG' H g1 g i=>by
 refine⟨λd e=> ?_,λe=> ?_⟩
 ·obtain⟨v,e1,hv⟩:=r.get e;refine⟨⟨vs,v,aB.tupS (g1.trans g) h,e1⟩,λx H' y=> ?_⟩;obtain⟨e2,y⟩:=y;subst e2;have e3:=y vs (aB.tupS (g1.trans g) h);rw[e1]at e3;cases e3;exact⟨G',Step.refl g,hv.mono g1⟩
 ·exact⟨vs,aB.tupS (g1.trans g) h,by rw[r.length];exact T8 e⟩
def Uq{G:Hp}(z:Str):Gm K G (vF z) (jM z):=λG' H g1 g i=>by
 refine⟨λd e=> ?_,λe=> ?_⟩
 ·unfold jM at e;rw[A9]at e;cases q:z.cps.toList[i]? with
  |none=>rw[q]at e;cases e
  |some c=>
   rw[q]at e;cases e;have hi:i < z.cps.size:=by
    have:=(B5.mp q).1;simpa using this
   refine⟨hi,λx H' y=> ?_⟩;obtain⟨e2,c',e3,e4⟩:=y;subst e2 e4;have:z.cps.toList[i]? =some c':=by simpa using e3
   rw[q]at this;cases this;exact⟨G',Step.refl g,.str _⟩
 ·unfold jM at e;rw[A3]at e;show i=z.cps.size;simp at e;lia
def Ex(he:ED X EX e f):ID X EX tg e (Ej f):=
 PI.imp (RG he) λ σ H Q ⟨G,δ,g0,s0,o⟩=>by
  refine⟨G,δ,g0,s0, ?_⟩;unfold Ej at o;cases e1:f δ with
  |ok w=>
   rw[e1]at o;simp only[R.aI]at o;refine WP.intro λv G' H' st r=> ?_;revert r o;cases w.d with
   |lst ds=>
    intro o r;cases r with
    |lst h r=>exact .inl ⟨_,rfl,⟨_,st.gh.seq h⟩,o _ G' H' st (Wd h r)⟩
   |tup ds=>
    intro o r;cases r with
    |tup h r=>exact .inr (.inl ⟨_,rfl,⟨_,aB.tupS st.gh h⟩,o _ G' H' st (Ur h r)⟩)
   |str z=>
    intro o r;cases r;exact .inr (.inr ⟨z,rfl,o _ G' H' st (Uq z)⟩)
   |_=>intro o _;exact False.elim o
  |ex x=>rw[e1]at o;exact o
  |no=>rw[e1]at o;exact o
end
abbrev FG:=D->SE->R SE
def tG(K:Frag)(EX:Ax)(fg:FG):TG:=λv σ H Q=>∃H0 G0 G Δ O d,Ev K H0 G0 G H σ Δ O/\aM K G v d/\match fg d Δ with
 | .ok Δ'=>∀σ' G' H' O',Ev K H0 G0 G' H' σ' Δ' O'->aB G G'->Q σ' H'
 | .ex _=>False
 | .no=>False
def PG.imp{tg:Expr}{t t':TG}(h:PG X tg t)(i:∀v σ H Q,t' v σ H Q->t v σ H Q):PG X tg t':=λzc s σ H v u Q I r q=>h zc s σ H v u Q I r (i v σ H Q q)
abbrev GD(X:Cx)(EX:Ax)(tg:Expr)(fg:FG):Prop:=PG X tg (tG X.K EX fg)
section
variable{X:Cx}{EX:Ax}{pos:Pos}
def gV(i:Nat):FG:=λd Δ=> .ok (Δ.set i (.sh d))
def ma{i:Nat}{x:Str}(hN:X.N.Nodup)(hi:X.N[i]? =some x:=by rfl)(hx:Ga X.env.scope x:=by trivial)
  (hf:X.fn x=true\/X.env.scope.names.lookup x=some .local:=by trivial):GD X EX (.Name x pos) (gV i):=
 PG.imp (mF hN hi hx hf) λv σ H Q ⟨H0,G0,G,Δ,O,d,E,r,q⟩=>q _ G H O (E.put r) (aB.refl _)
def jh(i j:Nat):FG:=λd Δ=>match d with
 | .tup [a,b]=> .ok ((Δ.set i (.sh a)).set j (.sh b))
 |_=> .no
def lP{i j k:Nat}{x y:Str}{p1 p2:Pos}(hc:X.calm=true)(hN:X.N.Nodup)(hi:X.N[i]? =some x:=by rfl)(hj:X.N[j]? =some y:=by rfl)(hx:Ga X.env.scope x:=by trivial)(hy:Ga X.env.scope y:=by trivial)
  (hf:X.fn x=true\/X.env.scope.names.lookup x=some .local:=by trivial) (uP:X.fn y=true\/X.env.scope.names.lookup y=some .local:=by trivial)
  (hn:(assignEach [.Name x p1,.Name y p2] X.env).length=2:=by rfl) (cA:(assignEach [.Name x p1,.Name y p2] X.env).findIdx? (·.1)=none:=by rfl)
  (hs:(assignEach [.Name x p1,.Name y p2] X.env).map (·.2)=assign (.Name x p1) X.env::(assignEach [.Name y p2] X.env).map (·.2):=by rfl) (eN:(assignEach [.Name y p2] X.env).map (·.2)=assign (.Name y p2) X.env::(assignEach [] X.env).map (·.2):=by rfl):
  GD X EX (.Tuple [.Name x p1,.Name y p2] k pos) (jh i j):=
 PG.imp (wc hc (pV (mF hN hi hx hf) (pV (mF hN hj hy uP) oY eN) hs) hn cA) λv σ H Q ⟨H0,G0,G,Δ,O,d,E,r,q⟩=>by
  cases r with
  |tup h r=>
   cases r with
   |nil=>exact False.elim q
   |cons r1 r=>
    cases r with
    |nil=>exact False.elim q
    |cons r2 r=>
     cases r with
     |nil=>exact⟨_,_,rfl,aB.tupS E.st.gh h,rfl,_,_,rfl,_,_,rfl,rfl,q _ G H O ((E.put r1).put r2) (aB.refl _)⟩
     |cons _ _=>exact False.elim q
  |_=>exact False.elim q
def De(fg:FG)(g:FS):List D->FS
 | []=>λ Δ=> .nx Δ
 |d::ds=>λ Δ=>match fg d Δ with
  | .ok Δ1=>(match g Δ1 with
   | .nx Δ2=>De fg g ds Δ2
   | .ct Δ2=>De fg g ds Δ2
   | .bk Δ2=> .nx Δ2
   |r=>r)
  | .ex _=> .no
  | .no=> .no
def Db(js:List Nat)(fi:FI)(fg:FG)(g:FS):FS:=λ Δ=>match fi (At Δ) with
 | .ok ds=>De fg g ds Δ
 | .ex x=> .ex x Δ
 | .no=>match fi (At (aD js Δ)) with
  | .ok ds=>De fg g ds (aD js Δ)
  | .ex x=> .ex x (aD js Δ)
  | .no=> .no
def pj{α:Type}{l:List α}{i:Nat}(h:i < l.length):∃x,l[i]? =some x/\l.drop i=x::l.drop (i + 1):=⟨l[i],by simp[h],List.drop_eq_getElem_cons h⟩
def uG{fg:FG}{g:FS}{H0:HB}{G0 G1 H1:Hp}{J:It}{ds:List D}{Δ:SE}{O:OS}{σ:Sg}{D:Ends}(E:Ev K H0 G0 G1 H1 σ Δ O)(it:Gm K G1 J ds)(q:Fin K EX H0 G0 G1 D (De fg g ds Δ)):
  ∃W:Nat->Nat->Sg->Hp->Prop,(∃m,W 0 m σ H1)/\∀i m σ H,W i m σ H->
   (J.stop i H/\D.nx σ H)\/(J.go i H/\∃N:Sg->Hp->Prop,(∀σ' H',N σ' H'->∃m',m' < m/\W (i + 1) m' σ' H')/\∀x H',J.yB i H x H'->tG K EX fg x σ H' λ σ2 H2=>tS K EX g {D with nx:=N,ct:=N,bk:=D.nx} σ2 H2):=by
 refine⟨λi m σ H=>m=ds.length - i/\i<=ds.length/\∃G Δ O,Ev K H0 G0 G H σ Δ O/\aB G1 G/\Fin K EX H0 G0 G1 D (De fg g (ds.drop i) Δ),⟨ds.length,by simp,K5 _,G1,Δ,O,E,aB.refl _,q⟩, ?_⟩
 rintro i m σ H ⟨rfl,hi,G,Δ,O,E,sg,q⟩
 obtain⟨i1,i2⟩:=it G H sg E.st.gh i
 by_cases dF:i < ds.length
 ·obtain⟨d,e1,e2⟩:=pj dF;obtain⟨go,yl⟩:=i1 d e1;refine .inr ⟨go,λ σ' H'=>∃G Δ O,Ev K H0 G0 G H' σ' Δ O/\aB G1 G/\Fin K EX H0 G0 G1 D (De fg g (ds.drop (i + 1)) Δ),λ σ' H' w=>⟨ds.length - (i + 1),by lia,rfl,dF,w⟩,λx H' y=> ?_⟩;obtain⟨G',st,hx⟩:=yl x H' y;rw[e2]at q;refine⟨H0,G0,G',Δ,O,d,E.grow st,hx, ?_⟩;have q':Fin K EX H0 G0 G1 D (match fg d Δ with
   | .ok Δ1=>(match g Δ1 with
    | .nx Δ2=>De fg g (ds.drop (i + 1)) Δ2
    | .ct Δ2=>De fg g (ds.drop (i + 1)) Δ2
    | .bk Δ2=> .nx Δ2
    |r=>r)
   | .ex _=> .no
   | .no=> .no):=q
  cases e3:fg d Δ with
  |ok Δ1=>
   rw[e3]at q';intro σ2 G2 H2 O2 E2 s2;have zZ:aB G1 G2:=sg.trans (st.gg.trans s2);refine⟨H0,G0,G2,Δ1,O2,E2, ?_⟩;cases e4:g Δ1 with
   |nx Δ2=>simp only[e4]at q';exact λ σ3 G3 H3 O3 E3 s3=>⟨G3,Δ2,O3,E3,zZ.trans s3,q'⟩
   |ct Δ2=>simp only[e4]at q';exact λ σ3 G3 H3 O3 E3 s3=>⟨G3,Δ2,O3,E3,zZ.trans s3,q'⟩
   |bk Δ2=>simp only[e4]at q';exact λ σ3 G3 H3 O3 E3 s3=>q' σ3 G3 H3 O3 E3 (zZ.trans s3)
   |rt w=>simp only[e4]at q';exact q'
   |rv d Δ2=>simp only[e4]at q';exact λv σ3 G3 H3 O3 E3 s3=>q' v σ3 G3 H3 O3 E3 (zZ.trans s3)
   |ex x Δ2=>simp only[e4]at q';exact λ σ3 G3 H3 O3 E3 s3=>q' σ3 G3 H3 O3 E3 (zZ.trans s3)
   |no=>simp only[e4]at q';exact q'
  |ex x=>rw[e3]at q';exact q'
  |no=>rw[e3]at q';exact q'
 ·have e:ds.length=i:=by lia
  refine .inl ⟨i2 e, ?_⟩;rw[V5 ()]at q;exact q σ G H O E sg
def fS{tg iter:Expr}{body:List Stmt}{fi:FI}{fg:FG}{g:FS}(js:List Nat)(hp:PassesOwn (model X.prog X.w) X.A X.env X.xe)(hc:X.calm=true)(hi:ID X EX tg iter fi)(hg:GD X EX tg fg)(hb:BD X EX body g)
  (hs:∀x,foldedSetIterable iter X.env x=pure x:=by intro _;rfl):SD X EX (.For tg iter body [] pos) (Db js fi fg g):=
 PS.imp (rF hp hc hi hg hb hs) λD σ H ⟨H0,G0,G,Δ,O,E,q⟩=>by
  unfold Db at q;cases e1:fi (At Δ) with
  |ok ds=>
   rw[e1]at q;refine⟨G,At Δ,E.st.gh,E.dU, ?_⟩;rw[e1];exact λJ G' H' st it=>uG (E.grow st) it (Fin.mono st.gg q)
  |ex x=>
   rw[e1]at q;exact⟨G,At Δ,E.st.gh,E.dU,by rw[e1];exact q σ G H O E (aB.refl _)⟩
  |no=>
   rw[e1]at q;obtain⟨G1,O1,sg,E1⟩:=E.aD js;refine⟨G1,At (aD js Δ),E1.st.gh,E1.dU, ?_⟩;cases e2:fi (At (aD js Δ)) with
   |ok ds=>
    simp only[e2]at q;exact λJ G' H' st it=>uG (E1.grow st) it (Fin.mono (sg.trans st.gg) q)
   |ex x=>simp only[e2]at q;exact q σ G1 H O1 E1 sg
   |no=>simp only[e2]at q;exact q
def Fx(i:Nat)(f:FE):FS:=λ Δ=>match Δ[i]? with
 |some (.ow (.lst ds))=>if ds.length < 16777216 then(match f (At Δ) with
   | .ok w=> .nx (Δ.set i (.ow (.lst (ds ++ [w.d]))))
   | .ex x=> .ex x Δ
   | .no=>match f (Be Δ) with
    | .ok w=>if Bh w.d=true then .nx (Δ.set i (.ow (.lst (ds ++ [w.d])))) else .no
    |_=> .no) else .no
 |_=> .no
def rB{i:Nat}{x:Str}{e:Expr}{f:FE}{p1 zf zd:Pos}(he:ED X EX e f)(hN:X.N[i]? =some x:=by rfl)(hv:Fm X.env.scope x:=by trivial)(hd:AG x:=by decide)
  (bO:(x ==("__classdict__" :Str))=false:=by decide) (uM:swapsWith (.Call (.Attribute (.Name x p1) "append" zf) [e] [] zd) none pos.line X.env=pure false:=by rfl)
  (af:attributeBase (.Name x p1) "append" X.env (eval (.Name x p1) X.env)=eval (.Name x p1) X.env:=by rfl)
  (az:((backTo zd (starEach [e] X.env)).all (λx=> !x.1) && (backToKw zd (keywordEach [] X.env)).all (λx=>x.1.isSome)
   && decide ([e].length + ([]:List Keyword).length + (if([]:List Keyword).isEmpty then 0 else 1) < 30))=true:=by rfl)
  (ae:(zf.endLine ==zd.line)=true:=by rfl) (hs:starEach [e] X.env=(false,eval e X.env)::starEach [] X.env:=by rfl) (ag:(backTo zd (starEach [] X.env)).any (·.1)=false:=by rfl):
  SD X EX (.Expr (.Call (.Attribute (.Name x p1) "append" zf) [e] [] zd) pos) (Fx i f):=
 PS.imp (md (rh V3 ZA0 ZA1 xO (Fd hN hv hd bO) (iS he mB hs) af az ae hs ag) uM) λD σ H ⟨H0,G0,G,Δ,O,E,q⟩=>by
  unfold Fx at q
  split at q
  ·rename_i ds e1
   split at q
   ·rename_i hz;obtain⟨v0,s1,t⟩:=E.ow i _ _ e1 rfl;obtain⟨a,vs,rfl,m,hH,rl⟩:=t.ku
    ·skip
     refine⟨.ref a,s1,.inl ⟨rfl,_,cF.of hH⟩, ?_⟩;have fin:∀{G' H':Hp} {v:V} {d:L3.D},Ev X.K H0 G0 G' H' σ Δ O->aB G G'->H' a=some (.lst vs)->aC X.K G' vs ds->aM X.K G' v d->Fin X.K EX H0 G0 G D (.nx (Δ.set i (.ow (.lst (ds ++ [d])))))->
       wL (.ref a) [v] H' λ_ H1=>D.nx σ H1:=λ{G' H' v d} E' sg uR r' NI q'=>
      ⟨a,vs,v,rfl,rfl,uR,by rw[r'.length,D9];exact hz,q' σ G' _ _ (E'.pG s1 m (r'.append (.cons NI .nil))) sg⟩
     cases e2:f (At Δ) with
     |ok w=>
      simp only[e2]at q;refine⟨G,At Δ,E.st.gh,E.dU, ?_⟩;rw[e2];exact WP.intro λv G' H' st r=>fin (E.grow st) st.gg (st.hh _ _ hH) (rl.mono st.gg) r q
     |ex x=>
      simp only[e2]at q;exact⟨G,At Δ,E.st.gh,E.dU,by rw[e2];exact q σ G H O E (aB.refl _)⟩
     |no=>
      simp only[e2]at q;refine⟨Cy G H O,Be Δ,E.aH,E.eJ, ?_⟩;cases e3:f (Be Δ) with
      |ok w=>
       simp only[e3]at q
       split at q
       ·rename_i fl;exact WP.intro λv G' H' st r=>fin (E.keep st.hh) (aB.refl _) (st.hh _ _ hH) rl (r.CU fl) q
       ·exact q.elim
      |ex x=>simp only[e3]at q;exact q.elim
      |no=>simp only[e3]at q;exact q
   ·exact q.elim
  ·exact q.elim
end
noncomputable def mw(X:Cx)(scope:Scope)(cl:List (Str×Addr))(N':List Str)(C:Addr)(s0:Shared)(H0:Hp)(fp:List Addr)(pn:AE):Cx where
 prog:=X.prog
 w:=X.w
 K:=X.K
 mg:=X.mg
 base:=X.base
 A:=X.A
 N:=N'
 s₀:=s0
 H₀:=H0
 env:=compEnvC scope cl C X.env
 outer:=X.stack
 stack:=X.stack
 ex:=fp
 fn:=λ_=>false
 calm:=X.calm
 pn:=pn
 xe:=λ_ _=>False
abbrev gE:=D->DE->R DE
def tGc(K:Frag)(EX:Ax)(fg:gE):TG:=λv σ H Q=>∃G δ d,aB G H/\aU K G σ δ/\aM K G v d/\match fg d δ with
 | .ok δ'=>∀σ',aU K G σ' δ'->aU K G σ' δ->Q σ' H
 | .ex x=>(EX σ).p x G H
 | .no=>False
abbrev GC(X:Cx)(EX:Ax)(tg:Expr)(fg:gE):Prop:=PG X tg (tGc X.K EX fg)
def MX(X:Cx)(EX:Ax)(ifs:List Expr)(p:FT):Prop:=
 ∀(zc:AE) (s:Shared) (σ:Sg) (H:Hp) (Q:Bool->Hp->Prop),Inv X zc σ H s->eG X.K EX p σ H Q->
  wpAny (model X.prog X.w) X.A (forIn ifs true λc r=>if r=true then do let ok<-isTrue c X.env (eval c X.env);pure (ForInStep.yield ok) else pure (ForInStep.yield r)) (TP X zc σ Q) X.xe s
section
variable{X:Cx}{EX:Ax}{pos:Pos}
noncomputable def gC(i:Nat):gE:=λd δ=>match δ[i]? with
 |some none=> .ok (δ.set i (some d))
 |_=> .no
def aU.put{G:Hp}{σ:Sg}{δ:DE}{d:D}(h:aU K G σ δ)(r:aM K G v d)(i:Nat):aU K G (σ.set i (some v)) (δ.set i (some d)):=by
 refine⟨by rw[F9,F9];exact h.len,λj d' e=> ?_⟩;rcases Fa e with⟨rfl,q⟩|⟨n,q⟩
 ·cases q;have dF:i < δ.length:=by
   by_cases hh:i < δ.length
   ·exact hh
   ·rw[K0 (by rw[F9];lia)]at e;cases e
  exact⟨v,by rw[F7 (by rw[h.len];exact dF)],r⟩
 ·obtain⟨v',e1,r'⟩:=h.get j d' q;exact⟨v',by rw[C4 n];exact e1,r'⟩
def Up{i:Nat}{x:Str}(hN:X.N.Nodup)(hi:X.N[i]? =some x:=by rfl)(hx:Ga X.env.scope x:=by trivial)
  (hf:X.fn x=true\/X.env.scope.names.lookup x=some .local:=by trivial):GC X EX (.Name x pos) (gC i):=
 PG.imp (mF hN hi hx hf) λv σ H Q ⟨G,δ,d,g,s,r,q⟩=>by
  unfold gC at q;cases e:δ[i]? with
  |none=>rw[e]at q;exact q.elim
  |some o=>
   rw[e]at q;cases o with
   |some _=>exact q.elim
   |none=>
    refine q _ (s.put r i) ⟨by rw[F9];exact s.len,λj d' e'=> ?_⟩;obtain⟨v',e1,r'⟩:=s.get j d' e';refine⟨v', ?_,r'⟩;rw[C4]
    ·exact e1
    ·rintro rfl
     rw[e]at e';cases e'
def lO:MX X EX [] (λ_=> .ok true):=λzc s σ H Q I ⟨G,δ,g,h,q⟩=>wpAny_tests_nil ⟨H,I,q G H (Step.refl g)⟩
def oG{c:Expr}{p:FT}(h:TD X EX c p):MX X EX [c] p:=λzc s σ H Q I q=>wpAny_tests_one (h zc s σ H Q I q)
def eZ(fg:gE)(p:FT)(f:FE)(δ:DE):List D->R (List D)
 | []=> .ok []
 |d::ds=>(fg d δ).bind λ δ1=>(p δ1).bind λb=>if b=true then(f δ1).bind λw=>(eZ fg p f δ ds).bind λrs=> .ok (w.d::rs) else eZ fg p f δ ds
def R.calm{α:Type}:R α->R α
 | .ok w=> .ok w
 |_=> .no
@[simp] theorem R.sQ{α:Type}(a:α):(R.ok a).calm=.ok a:=rfl
@[simp] theorem R.sT{α:Type}(x:Xn):(R.ex x:R α).calm=.no:=rfl
@[simp] theorem R.sR{α:Type}:(R.no:R α).calm=.no:=rfl
def Ct(m:Nat)(fi:FI)(fg:gE)(p:FT)(f:FE):FE:=λ δ=>((fi δ).bind λds=>if ds.length<=16777216 then(eZ fg p f (δ ++ List.replicate m none) ds).bind λrs=> .ok (.ow (.lst rs)) else .no).calm
def R.jK{α:Type}{r:R α}{x:Xn}(h:r.calm=.ex x):False:=by
 cases r <;> cases h
def Ir{m:Nat}{fi:FI}{fg:gE}{p:FT}{f:FE}{δ:DE}{x:Xn}(h:Ct m fi fg p f δ=.ex x):False:=R.jK h
@[reducible] def RF(prog:Program)(w:World)(A:Around)(env:Env)(tg elt:Expr)(ifs:List Expr)(it zm:Value)(bad:AA)(fin more:Shared->Prop):Option Value->Shared->Prop
 |none=>fin
 |some v=>wpAny (model prog w) A (letOwnedTupleGo tg it v) (λ_=>wpAny (model prog w) A (assign tg env v) (λ_=>
   wpAny (model prog w) A (forIn ifs true λc r=>if r=true then do let ok<-isTrue c env (eval c env);pure (ForInStep.yield ok) else pure (ForInStep.yield r)) (λok=>
    if ok=true then wpAny (model prog w) A (eval elt env) (λx=>wpAny (model prog w) A (call (.builtin "list.append") [zm,x]) (λ_=>more) bad) bad else more) bad) bad) bad
def Yr{prog:Program}{w:World}{A:Around}{R:Result->Shared->Prop}{s:Shared}{elt target iter:Expr}{ifs:List Expr}{scope:Scope}{it zm:Value}{env:Env}(I:Nat->Shared->Prop)
  (turn:∀n s,I n s->wpAny (model prog w) A (pyNext it) (RF prog w A env target elt ifs it zm (notedBy (model prog w) A env λe=>R (.error e)) (R (.ok .next)) λs'=>∃m,m < n/\I m s') (notedBy (model prog w) A env λe=>R (.error e)) s)
  (n:Nat) (h:I n s):codeAny (model prog w) A (.compLoop (.ListComp elt [⟨target,iter,ifs,0⟩] scope pos) 0 it zm env) R s:=by
 refine codeAny_loop rfl I (λk t hk=>wpAny_noted (env:=env) (m:=compTurn (.ListComp elt [⟨target,iter,ifs,0⟩] scope pos) 0 it zm env) (compTurn_list .. ▸ ?_)) n h;refine A5 (S4 (A5 (Ay (turn k t hk) ?_)))
 rintro (_|v) t1 g1
 ·exact F0 g1
 refine A5 (Ay g1 λ_ t2 g2=>A5 (Ay g2 λ_ t3 g3=>A5 (Ay g3 ?_)))
 rintro (_|_) t4 g4
 ·exact F0 ⟨rfl,g4⟩
 ·exact A5 (A5 (Ay g4 λ_ t5 g5=>A5 (Ay g5 λ_ t6 g6=>F0 (F0 ⟨rfl,g6⟩))))
structure LC(X:Cx)(scope:Scope)(cl:List (Str×Addr))(N':List Str):Prop where
 GZ:closureFor scope X.env=pure cl
 cell:∀y∈scope.names,y.2≠ .cell
 kind:scope.kind=.function
 names:∀y∈scope.names,y.2=.local->scope.names.lookup y.1=some .local
 sub:∀x c,cl.lookup x=some c->X.env.cells.lookup x=some c
 has:∀x,((relabel scope X.env).names.lookup x=some .cell\/(relabel scope X.env).names.lookup x=some .free)->∃c,cl.lookup x=some c
 old:∀(i:Nat) (x:Str),N'[i]? =some x->i < X.N.length->Fm (relabel scope X.env) x->X.N[i]? =some x/\(X.env.scope.names.lookup x=some .cell\/X.env.scope.names.lookup x=some .free)/\(∃c,cl.lookup x=some c)/\((relabel scope X.env).names.lookup x=some .cell\/(relabel scope X.env).names.lookup x=some .free)
noncomputable def Fz(cells:List (Str×Addr)):List (Str×NameKind)->List (Str×Addr)->List (Str×Addr)
 | [],zm=>zm
 |(x,k)::r,zm=>Fz cells r (if k=.free then(x,(cells.lookup x).getD 0)::zm else zm)
def ZV{scope:Scope}{env:Env}(h:∀p∈scope.names,p.2=.free->∃c,env.cells.lookup p.1=some c):closureFor scope env=pure (Fz env.cells scope.names []):=by
 have all:∀(names:List (Str×NameKind)) (zm:List (Str×Addr)),(∀p∈names,p.2=.free->∃c,env.cells.lookup p.1=some c)->
   (forIn names zm λ(x:Str×NameKind) (r:List (Str×Addr))=>if(x.2 == .free)=true then do let a<-cellOf env x.1;pure (ForInStep.yield ((x.1,a)::r)) else pure (ForInStep.yield r):Sem (List (Str×Addr)))=pure (Fz env.cells names zm):=by
  intro names
  induction names with
  |nil=>intro zm _;rfl
  |cons p r ih=>
   intro zm hp;obtain⟨x,k⟩:=p;rw[List.forIn_cons]
   by_cases hk:k=.free
   ·subst hk;obtain⟨c,e⟩:=hp (x,.free) C8 rfl;have e1:cellOf env x=pure c:=by unfold cellOf;rw[show env.cells.lookup x=some c from e]
    simp only[M4,if_true,e1,pure_bind];rw[ih _ λq hq=>hp q (B9 _ hq)];show _=pure (Fz env.cells r (if NameKind.free=.free then(x,(env.cells.lookup x).getD 0)::zm else zm));rw[if_pos rfl,show env.cells.lookup x=some c from e];rfl
   ·have hb:(k ==NameKind.free)=false:=by simpa using hk
    simp only[hb,L1,P1,pure_bind];rw[ih _ λq hq=>hp q (B9 _ hq)];show _=pure (Fz env.cells r (if k=.free then(x,(env.cells.lookup x).getD 0)::zm else zm));rw[if_neg hk]
 unfold closureFor;have:=all scope.names [] h;simpa using this
theorem Iq{cells:List (Str×Addr)}{q:Str×Addr}:∀{names:List (Str×NameKind)} {zm:List (Str×Addr)},q∈Fz cells names zm->q∈zm\/((q.1,NameKind.free)∈names/\q.2=(cells.lookup q.1).getD 0)
 | [],zm,h=> .inl h
 |(x,k)::r,zm,h=>by
  rcases Iq (names:=r) h with h|⟨h1,h2⟩
  ·split at h
   ·rename_i hk;rcases C7.mp h with rfl|h
    ·exact .inr ⟨by rw[hk];exact C8,rfl⟩
    ·exact .inl h
   ·exact .inl h
  ·exact .inr ⟨B9 _ h1,h2⟩
theorem Ip{cells:List (Str×Addr)}{x:Str}:∀{names:List (Str×NameKind)} {zm:List (Str×Addr)},(zm.lookup x).isSome=true->((Fz cells names zm).lookup x).isSome=true
 | [],zm,h=>h
 |(y,k)::r,zm,h=>by
  refine Ip (names:=r) ?_
  split
  ·rw[J6]
   split
   ·rfl
   ·exact h
  ·exact h
theorem Im{cells:List (Str×Addr)}{x:Str}:∀{names:List (Str×NameKind)} {zm:List (Str×Addr)},(x,NameKind.free)∈names->((Fz cells names zm).lookup x).isSome=true
 |(y,k)::r,zm,h=>by
  rcases C7.mp h with h|h
  ·cases h;refine Ip (names:=r) ?_;rw[if_pos rfl,J6];simp
  ·exact Im (names:=r) h
theorem Ni{env:Env}:∀(names:List (Str×NameKind)) (x:Str),
  (names.map λ(n,k)=>if(k ==NameKind.free && env.scope.kind == .function && env.kindOf n ==some .cell) then(n,NameKind.cell) else(n,k)).lookup x=(names.lookup x).map λk=>if(k ==NameKind.free && env.scope.kind == .function && env.kindOf x ==some .cell)=true then NameKind.cell else k
 | [],x=>rfl
 |(n,k)::r,x=>by
  have ih:=Ni (env:=env) r x;show List.lookup x ((if(k ==NameKind.free && env.scope.kind == .function && env.kindOf n ==some .cell)=true then(n,NameKind.cell) else(n,k))::_)=_;cases hx:x ==n with
  |true=>
   have e:x=n:=eq_of_beq hx;subst e
   by_cases hc:(k ==NameKind.free && env.scope.kind == .function && env.kindOf x ==some .cell)=true
   ·rw[if_pos hc];simp only[J6,M4,M3];rw[if_pos hc]
   ·rw[if_neg hc];simp only[J6,M4,M3];rw[if_neg hc]
  |false=>
   by_cases hc:(k ==NameKind.free && env.scope.kind == .function && env.kindOf n ==some .cell)=true
   ·rw[if_pos hc];simp only[J6,hx];exact ih
   ·rw[if_neg hc];simp only[J6,hx];exact ih
noncomputable def rf(inner outer:List (Str×NameKind))(N N':List Str):Bool:=
 (inner.all λp=>p.2 != .cell && (p.2 != .local || inner.lookup p.1 ==some .local) && (p.2 != .free || (outer.lookup p.1 ==some .cell || outer.lookup p.1 ==some .free))) &&
 (List.range N.length).all λi=>match N'[i]? with
  |some x=>(match inner.lookup x with
   |some .free=>N[i]? ==some x && (outer.lookup x ==some .cell || outer.lookup x ==some .free)
   |some .local=>false
   |some .cell=>false
   |_=>true)
  |none=>true
def xn{scope:Scope}{N':List Str}(ok:X.Ok)(hk:scope.kind=.function)(hb:rf scope.names X.env.scope.names X.N N'=true):LC X scope (Fz X.env.cells scope.names []) N':=by
 unfold rf at hb;rw[D5]at hb;obtain⟨h1,h2⟩:=hb;have h1:=F8.mp h1;have h2:=F8.mp h2;have fr:∀p∈scope.names,p.2=.free->∃c,X.env.cells.lookup p.1=some c:=λp hp hf=>by
  have z:=h1 p hp;simp only[hf,D5,U7,bne_iff_ne,N7]at z;exact ok.has p.1 (by
   rcases z.2 with z|z
   ·exact absurd rfl z
   ·exact z)
 have inn:∀x k,scope.names.lookup x=some k->(x,k)∈scope.names:=λx k e=>O8 e;have ay:∀p∈scope.names,p.2≠ .cell:=λp hp hc=>by
  have z:=h1 p hp;rw[hc]at z;simp at z
 have cz:∀x,scope.names.lookup x=some .free->∃c,(Fz X.env.cells scope.names []).lookup x=some c:=λx e=>M7.mp (Im (inn x _ e));have ff:∀x,((relabel scope X.env).names.lookup x=some .cell\/(relabel scope X.env).names.lookup x=some .free)->scope.names.lookup x=some .free:=λx h=>by
  unfold relabel at h;rw[Ni]at h;cases e:scope.names.lookup x with
  |none=>rw[e]at h;simp at h
  |some k=>
   rw[e]at h;have nc:=ay (x,k) (inn x k e);cases k with
   |free=>rfl
   |cell=>exact absurd rfl nc
   |«local»=>simp at h
   |globalExplicit=>simp at h
   |globalImplicit=>simp at h
 refine⟨ZV fr,ay,hk,λy hy hl=> ?_,λx c e=> ?_,λx h=>cz x (ff x h),λi x e hi hv=> ?_⟩
 ·have z:=h1 y hy;simp only[hl,D5,U7,bne_iff_ne,N7]at z;rcases z.1.2 with z|z
  ·exact absurd rfl z
  ·exact z
 ·rcases Iq (O8 e) with z|⟨z1,z2⟩
  ·exact absurd z (by simp)
  ·obtain⟨c',e'⟩:=fr (x,.free) z1 rfl;have z2:c=(X.env.cells.lookup x).getD 0:=z2;have e':X.env.cells.lookup x=some c':=e';rw[e']at z2⊢;cases z2;rfl
 ·have z:=h2 i (N5.mpr hi);rw[e]at z;dsimp only at z;have look:scope.names.lookup x=some .free/\(((relabel scope X.env).names.lookup x=some .cell\/(relabel scope X.env).names.lookup x=some .free)):=by
   unfold Fm relabel at hv;unfold relabel;rw[Ni]at hv⊢;cases q:scope.names.lookup x with
   |none=>rw[q]at hv;simp at hv
   |some k=>
    rw[q]at hv z;cases k with
    |free=>
     refine⟨rfl, ?_⟩
     by_cases hc:(X.env.scope.kind == .function && X.env.kindOf x ==some .cell)=true
     ·left;simp[Bool.and_assoc,hc]
     ·right;simp[Bool.and_assoc,hc]
    |cell=>simp at z
    |«local»=>simp at z
    |globalExplicit=>simp at hv
    |globalImplicit=>simp at hv
  rw[look.1]at z;simp only[D5,U7,N7]at z;exact⟨z.1,z.2,cz x look.1,look.2⟩
structure iC(P:Program)(w:World)(K:Frag)(tg:Expr)(J:It)(fp:List Addr)(it:Addr)(tn:Nat->Heap->Prop)(B:Cx->Prop):Prop where
 obj:∀i h,tn i h->∀b∈fp,∃o,h.get? b=some o/\∀v,o.data≠ .cell v
 keep:∀i h h',tn i h->(∀b∈fp,∀o,h.get? b=some o->h'.get? b=some o)->tn i h'
 item:∀(X:Cx),X.prog=P->X.w=w->X.K=K->∀(i:Nat) (zc:AE) (s:Shared) (σ:Sg) (H:Hp) (E:AA),B X->Inv X zc σ H s->(∀b∈fp,Fs X zc H b)->tn i s.heap->J.go i H->
  wpAny (model P w) X.A (pyNext (.ref it)) (λr s1=>∃u,r=some u/\
   wpAny (model P w) X.A (letOwnedTupleGo tg (.ref it) u) (λ_ s2=>∃x H',Inv X zc σ H' s2/\RelV x u/\J.yB i H x H'/\tn (i + 1) s2.heap/\∀b∈fp,H' b=none) E s1) E s
 done:∀(X:Cx),X.prog=P->X.w=w->X.K=K->∀(i:Nat) (zc:AE) (s:Shared) (σ:Sg) (H:Hp) (E:AA),B X->Inv X zc σ H s->(∀b∈fp,Fs X zc H b)->tn i s.heap->J.stop i H->
  wpAny (model P w) X.A (pyNext (.ref it)) (λr s1=>r=none/\Inv X zc σ H s1) E s
 self:∀(A:Around) (i:Nat) (s:Shared) (Q:AA) (E:AA),tn i s.heap->Q (.ref it) s->wpAny (model P w) A (pyIter (.ref it)) Q E s
def Fe:Cx->Prop:=λX=>X.calm=true
def Turn.z{P:Program}{w:World}{tg:Expr}{J:It}{fp:List Addr}{it:Addr}{tn:Nat->Heap->Prop}(T:Turn P w K tg J fp it tn):iC P w K tg J fp it tn Fe:=
 ⟨T.obj,T.keep,λX a b c i zc s σ H E hc=>T.item X a b c hc i zc s σ H E,λX a b c i zc s σ H E hc=>T.done X a b c hc i zc s σ H E,T.self⟩
def BX:Cx->Prop:=λX=>X.A.handled=none\/∃(x:Addr) (o:Obj) (u:HO) (us:Array Value),X.A.handled=some (.ref x)/\X.H₀ x=some (.aQ o u)/\o.data=.fields us/\us[2]? =some .none
def BX.ne{zc:AE}{s:Shared}{σ:Sg}{a:Addr}(b:BX X)(I:Inv X zc σ H s)(n:H a=none):X.A.handled≠some (.ref a):=λz=>by
 rcases b with b|⟨x,o,u,us,e,h,_⟩
 ·rw[b]at z;cases z
 ·rw[e]at z;injection z with z;injection z with z;rw[<-z,I.base.cC x o u h]at n;cases n
def PIZ(X:Cx)(B:Cx->Prop)(tg iter:Expr)(wi:TI):Prop:=
 ∀(zc:AE) (s:Shared) (σ:Sg) (H:Hp) (R:It->Hp->Prop),Inv X zc σ H s->wi σ H R->
  wpAny (model X.prog X.w) X.A (eval iter X.env) (λv s1=>wpAny (model X.prog X.w) X.A (pyIter v) (λjT s2=>∃(it:Addr) (fp:List Addr) (tn:Nat->Heap->Prop) (J:It) (H':Hp),jT=.ref it/\Inv X zc σ H' s2/\iC X.prog X.w X.K tg J fp it tn B/\tn 0 s2.heap/\(∀b∈fp,Fs X zc H' b)/\R J H') X.xe s1) X.xe s
theorem PI.z{tg iter:Expr}{wi:TI}(h:PI X tg iter wi):PIZ X Fe tg iter wi:=λzc s σ H R I q=>
 F5 (h zc s σ H R I q) (λv s1 h1=>F5 h1 (λjT s2 ⟨it,fp,tn,J,H',e,I2,T,r⟩=>⟨it,fp,tn,J,H',e,I2,Turn.z T,r⟩) λ_ _ z=>z) λ_ _ z=>z
def Xq{elt iter tg:Expr}{ifs:List Expr}{scope:Scope}{N':List Str}{fi:FI}{fg:gE}{p:FT}{f:FE}{m:Nat}(tU:∀e s,¬X.xe e s){B:Cx->Prop}(hk:scope.kind=.function)(hb:rf scope.names X.env.scope.names X.N N'=true)
  (hm:N'.length=X.N.length + m)
  (iO:∀C s0 H0 fp pn,GC (mw X scope (Fz X.env.cells scope.names []) N' C s0 H0 fp pn) Cm tg fg/\MX (mw X scope (Fz X.env.cells scope.names []) N' C s0 H0 fp pn) Cm ifs p/\ED (mw X scope (Fz X.env.cells scope.names []) N' C s0 H0 fp pn) Cm elt f)
  {zc:AE} {s:Shared} {σ:Sg} {δ:DE} (I:Inv X zc σ H s) {Z:Hp->Hp->Prop} (hZ:∀G2 H2,Z G2 H2->aB G2 H2/\aU X.K G2 σ δ) (hB:∀C s0 H0 fp pn,Inv X zc σ H0 s0->B (mw X scope (Fz X.env.cells scope.names []) N' C s0 H0 fp pn))
  (hit:wpAny (model X.prog X.w) X.A (eval iter X.env) (λxv s₁=>wpAny (model X.prog X.w) X.A (pyIter xv) (λjT s₂=>∃(it:Addr) (fp:List Addr) (tn:Nat->Heap->Prop) (J:It) (H2:Hp) (ds:List D) (G2:Hp),jT=.ref it/\Inv X zc σ H2 s₂/\iC X.prog X.w X.K tg J fp it tn B/\tn 0 s₂.heap/\(∀b∈fp,Fs X zc H2 b)/\fi δ=.ok ds/\Z G2 H2/\Gm X.K G2 J ds) X.xe s₁) X.xe s)
  {RR:Value->Addr->Result->Shared->Prop}
  (o:match Ct m fi fg p f δ with| .ok _=>True| .ex x=>False| .no=>False)
  (NU:∀(Da C:Addr) (s1:Shared) (G2 H2 G' H':Hp) (vs:List V) (rs:List D),Ct m fi fg p f δ=.ok (.ow (.lst rs))->Inv X zc σ H' s1->(∃m,s1.heap.Ns C m)->Fs X zc H' C->Z G2 H2->Step G2 H2 G' H'->H2 Da=none->H' Da=some (.lst vs)->G' Da=none->aC X.K G' vs rs->RR (.ref Da) C (.ok .next) s1):
  wpAny (model X.prog X.w) X.A (eval iter X.env) (λx s₁=>wpAny (model X.prog X.w) X.A (pyIter x) (λit s₂=>wpAny (model X.prog X.w) X.A (newList []) (λzm s₃=>
   wpAny (model X.prog X.w) X.A (newFunctionEnv scope X.env.globals (Fz X.env.cells scope.names []) [] X.env.qual none .none (some X.env)) (λnL s₄=>
    codeAny (model X.prog X.w) X.A (.compStart (.ListComp elt [⟨tg,iter,ifs,0⟩] scope pos) 0 it zm {nL with scope:=relabel scope X.env}) (RR zm nL.locals) s₄) X.xe s₃) X.xe s₂) X.xe s₁) X.xe s:=by
 have n:=xn I.ok hk hb;generalize aaH:Fz X.env.cells scope.names []=cl at n iO hB⊢;have bu:∀ds,fi δ=.ok ds->ds.length<=16777216/\(match eZ fg p f (δ ++ List.replicate m none) ds with| .ok rs=>Ct m fi fg p f δ=.ok (.ow (.lst rs))| .ex x=>False| .no=>False):=λds e=>by
  unfold Ct at o⊢;simp only[e,R.aI]at o⊢
  by_cases hz:ds.length<=16777216
  ·refine⟨hz, ?_⟩;rw[if_pos hz]at o⊢;cases e2:eZ fg p f (δ ++ List.replicate m none) ds with
   |ok rs=>rfl
   |ex x=>rw[e2]at o;exact o
   |no=>rw[e2]at o;exact o
  ·rw[if_neg hz]at o;exact o.elim
 
 refine F5 hit (λxv s₁ h₁=>F5 h₁ (λjT s₂ h₂=> ?_) λ_ _ e=>(tU _ _ e).elim) λ_ _ e=>(tU _ _ e).elim;obtain⟨it,fp,tn,J,H2,ds,G2,rfl,I2,T,aT,f2,e2,hz2,tR⟩:=h₂;obtain⟨uA,h0⟩:=hZ G2 H2 hz2;obtain⟨hz,o⟩:=bu ds e2
 
 have BF:H2 s₂.heap.objs.size=none:=I2.aJ.fresh (B6 _);refine Z6 (wpAny_newFunctionEnv n.cell (by intro y hy;simp at hy) (λh₁ hns₁ hsb₁=> ?_) n.kind);dsimp only at hns₁ hsb₁⊢;generalize NV:s₂.heap.objs.size=Da at BF;have hDn: @Eq Nat s₂.heap.objs.size Da:=NV;have I3:Inv X zc σ (upd H2 Da (.lst [])) {s₂ with heap:=s₂.heap.push {cls:=.type "list",dict:=none,data:=.seq ([]:List Value).toArray}}:=by
  rw[<-NV];exact I2.vj (t':=s₂.toks) .nil (K5 _)
 generalize hH3:s₂.heap.push {cls:=.type "list",dict:=none,data:=.seq ([]:List Value).toArray}=pW at hns₁ hsb₁ I3⊢;have hC:pW.objs.size=Da + 1:=by rw[<-hH3,N8,NV]
 generalize hCe:pW.objs.size=C at hns₁ hsb₁ hC;have hCn: @Eq Nat pW.objs.size C:=hCe;have hC2: @Eq Nat C (Da + 1):=hC;have de:∀b o,s₂.heap.get? b=some o->pW.get? b=some o:=λb o e=>by rw[<-hH3];exact A4 _ e
 have up:∀b o,pW.get? b=some o->h₁.get? b=some o:=λb o e=>hsb₁.extBut b o (D8 (show @LT.lt Nat _ b C by rw[<-hCn];exact A6 e)) (A4 _ e)
 
 have Oa:∀b∈fp,b < s₂.heap.objs.size:=λb hb=>by
  obtain⟨o,e,_⟩:=T.obj _ _ aT b hb;exact A6 e
 have yX:∀x c,cl.lookup x=some c->c < pW.objs.size/\c∉fp/\(upd H2 Da (.lst [])) c=none:=λx c e=>by
  have e':=n.sub x c e;obtain⟨v,hv⟩:=I3.cell x c e';exact⟨hv.lt,λz=>(f2 c z).2.2.2.2.1 x c e' rfl,I3.bE x c e'⟩
 let X':=mw X scope cl N' C {s₂ with heap:=pW} (upd H2 Da (.lst [])) fp (X.pn ++ zc)
 have ok':X'.Ok:=by
  refine⟨I.ok.mod,n.kind,I.ok.glob,I.ok.blt,T8 hCe,λx y c h1 h2=>I.ok.inj x y c (n.sub x c h1) (n.sub y c h2),λx hx=>n.has x hx,λx c z=> ?_,I.ok.hd,I.ok.frames,.inl rfl,λb hb=>⟨?_,λx c e z=> ?_⟩,λb o e=> ?_, ?_,λb o e hb=> ?_,λb hb z=> ?_,I3.stack,I3.dX⟩
  ·exact absurd z A7
  ·exact D8 (C6 (Oa b hb) (show @LE.le Nat _ s₂.heap.objs.size C by lia))
  ·subst z;exact(yX x c e).2.1 hb
  ·exact I3.bs b o e
  ·exact D4 I.ok.iU I3.sz
  ·rcases(f2 b hb).2.2.2.1 with z|z
   ·exact I.ok.fG b o e z
   ·exact absurd (A6 (I.ok.bs b o e).1) (Nat.not_lt_of_le z)
  ·rcases C7.mp (I3.dH b z) with z|z
   ·exact(f2 b hb).2.1 z
   ·exact(f2 b hb).2.2.1 z
 have lenσ:σ.length=X.N.length:=I.len;have I4:Inv X' [] (σ ++ List.replicate m none) (upd H2 Da (.lst [])) {s₂ with heap:=h₁,toks:=s₂.toks + ([]:List (Str×Value)).length}:=by
  refine⟨ok',rfl,I2.bare,Un.kept up,⟨_,hns₁,λi x v e1 e2 e3=> ?_⟩,λx c e=> ?_, ?_,λx c e=>(yX x c e).2.2,λp hp=> ?_,I3.aJ.kept up, ?_⟩
  ·have hi:i < σ.length:=by
    by_cases hh:i < σ.length
    ·exact hh
    ·rw[K7 (),L5]at e2
     split at e2 <;> cases e2
   rw[E9 hi]at e2;obtain⟨n1,n2,⟨c,n3⟩,n4⟩:=n.old i x e1 () e3;obtain⟨mm,pX,hl⟩:=I3.loc;obtain⟨u,r,l⟩:=hl i x v n1 e2 (.inr n2);refine⟨u,r,.inr ⟨n4,c,n3, ?_⟩⟩;have n3':=n.sub x c n3;rcases l with⟨k1,k2⟩|⟨k1,c',k2,k3⟩
   ·exfalso;have Md:X.env.scope.names.lookup x=some .local:=k1;rcases n2 with n2|n2
    ·rw[n2]at Md;cases Md
    ·rw[n2]at Md;cases Md
   ·rw[n3']at k2;cases k2;exact k3.keeps up
  ·obtain⟨v,hv⟩:=I3.cell x c (n.sub x c e);exact⟨v,hv.keeps up⟩
  ·show upd H2 Da (.lst []) C=none;exact I3.aJ.fresh (by show pW.objs.size<=C;lia)
  ·have NL:p∈X.pn ++ zc:=by
    have qw:p∈(X.pn ++ zc) ++ []:=hp
    rwa[E4]at qw
   obtain⟨z1,z2,z3,z4,z5⟩:=I3.pin p NL;refine⟨up _ _ z1,z2, ?_,λz=> ?_,z5⟩
   ·exact D8 (show @LT.lt Nat _ p.1 C by rw[<-hCn];exact A6 z1)
   ·rcases C7.mp (I3.dH p.1 z) with z|z
    ·exact z3 z
    ·exact z4 z
  ·rw[B8,M5,lenσ];exact hm.symm
 obtain⟨hgc,hct,hel⟩:=iO C {s₂ with heap:=pW} (upd H2 Da (.lst [])) fp (X.pn ++ zc);have hS4:aU X.K G2 (σ ++ List.replicate m none) (δ ++ List.replicate m none):=by
  refine⟨by rw[B8,B8,M5,M5,h0.len],λi d e=> ?_⟩
  by_cases hh:i < δ.length
  ·rw[E9 hh]at e;obtain⟨v,e1,r⟩:=h0.get i d e;exact⟨v,by rw[E9 (by rw[h0.len];exact hh)];exact e1,r⟩
  ·rw[K7 (),L5]at e
   split at e <;> cases e
 generalize hδ:δ ++ List.replicate m none=δ' at hS4 o;have Nk:tn 0 h₁:=T.keep 0 _ _ aT λb hb o e=>up b o (de b o e);have fpn:∀b∈fp,(upd H2 Da (.lst [])) b=none:=λb hb=>by
  rw[Ao (D8 (show @LT.lt Nat _ b Da by rw[<-hDn];exact Oa b hb))];exact(f2 b hb).1
 have bt:∀{pl:AE} {H':Hp},pl= []->(∀b∈fp,H' b=none)->∀b∈fp,Fs X' pl H' b:=λ{pl H'} bZ hn b hb=>by
  subst bZ;refine⟨hn b hb, ?_,λz=> ?_,.inl hb,λx c e z=> ?_,λp hp z=> ?_⟩
  ·exact D8 (C6 (Oa b hb) (show @LE.le Nat _ s₂.heap.objs.size C by lia))
  ·rcases C7.mp (I3.dH b z) with z|z
   ·exact(f2 b hb).2.1 z
   ·exact(f2 b hb).2.2.1 z
  ·subst z;exact(yX x c e).2.1 hb
  ·have NL:p∈X.pn ++ zc:=by
    have qw:p∈(X.pn ++ zc) ++ []:=hp
    rwa[E4]at qw
   exact(f2 b hb).2.2.2.2.2 p NL z
 have loop:∀s4:Shared,Inv X' [] (σ ++ List.replicate m none) (upd H2 Da (.lst [])) s4->tn 0 s4.heap->codeAny (model X.prog X.w) X.A (.compLoop (.ListComp elt [⟨tg,iter,ifs,0⟩] scope pos) 0 (.ref it) (.ref Da) (compEnvC scope cl C X.env)) (RR (.ref Da) C) s4:=by
  intro s4 I4 tn4;refine Yr (λk s'=>∃i σ' H' G' vs rs,k=ds.length - i/\i<=ds.length/\Inv X' [] σ' H' s'/\tn i s'.heap/\(∀b∈fp,H' b=none)/\aU X.K G' σ' δ'/\Step G2 H2 G' H'/\aB G2 G'/\H' Da=some (.lst vs)/\G' Da=none/\
   aC X.K G' vs rs/\rs.length<=i/\(match eZ fg p f δ' (ds.drop i) with| .ok LS=>Ct m fi fg p f δ=.ok (.ow (.lst (rs ++ LS)))| .ex x=>False| .no=>False)) ?_ ds.length
   ⟨0,_,_,G2,[],[],by simp,K5 _,I4,tn4,fpn,hS4,Step.own uA BF _,aB.refl _,Bf,uA.free BF,.nil,K5 _,by simpa using o⟩
  rintro k s' ⟨i,σ',H',G',vs,rs,rfl,hi,I',tni,fn',hS,st,sg,hD,gD,rl,hl,o'⟩
  obtain⟨i1,i2⟩:=tR G' H' sg st.gh i
  by_cases dF:i < ds.length
  ·obtain⟨d,e1,e2⟩:=pj dF;obtain⟨go,yl⟩:=i1 d e1;refine Ay (T.item X' rfl rfl rfl i [] s' σ' H' _ (hB _ _ _ _ _ I3) I' (bt rfl fn') tni go) λr s1 ⟨u,hr,h1⟩=> ?_;subst hr;refine Ay h1 λ_ s5 ⟨x,H5,I5,r5,y5,ux,NZ⟩=> ?_;obtain⟨G5,ao,hx5⟩:=yl x H5 y5;have Pf:=I5.pinned (bt rfl NZ) (T.obj _ _ ux);rw[e2]at o';have o1:match((fg d δ').bind λ δ1=>(p δ1).bind λb=>if b=true then(f δ1).bind λw=>(eZ fg p f δ' (ds.drop (i + 1))).bind λrs=> .ok (w.d::rs) else eZ fg p f δ' (ds.drop (i + 1))) with| .ok LS=>Ct m fi fg p f δ=.ok (.ow (.lst (rs ++ LS)))| .ex x=>False| .no=>False:=o'
   have hS5:aU X.K G5 σ' δ':=hS.mono ao.gg;refine F5 (hgc _ s5 σ' H5 x u (λ σ6 H6=>∃δ1,fg d δ'=.ok δ1/\H6=H5/\aU X.K G5 σ6 δ1/\aU X.K G5 σ6 δ') Pf r5 ⟨G5,δ',d,ao.gh,hS5,hx5, ?_⟩) (λ_ s6 ⟨σ6,H6,I6,δ1,e6,eH,hS6,PY⟩=> ?_) λ_ _ z=>False.elim z
   ·cases e6:fg d δ' with
    |ok δ1=>exact λ σ6 h6 h6'=>⟨δ1,rfl,rfl,h6,h6'⟩
    |ex x=>rw[e6]at o1;exact o1
    |no=>rw[e6]at o1;exact o1
   subst eH;rw[e6]at o1;simp only[R.aI]at o1;refine F5 (hct _ s6 σ6 H6 (λb H7=>∃G7,p δ1=.ok b/\Step G5 H6 G7 H7) I6 ⟨G5,δ1,ao.gh,hS6, ?_⟩) (λb s7 ⟨H7,I7,G7,e7,dZ⟩=> ?_) λ_ _ z=>False.elim z
   ·cases e7:p δ1 with
    |ok b=>exact λG7 H7 st7=>⟨G7,rfl,st7⟩
    |ex x=>rw[e7]at o1;exact o1
    |no=>rw[e7]at o1;exact o1
   rw[e7]at o1;simp only[R.aI]at o1
   
   have gD7:G7 Da=none:=(ao.trans dZ).nw Da gD (by rw[hD];simp);have NW:H7 Da=some (.lst vs):=(ao.trans dZ).hh _ _ hD;have bh:∀{σ9:Sg} {H9:Hp} {s9:Shared},Inv X' ([] ++ oJ fp s5.heap) σ9 H9 s9->tn (i + 1) s9.heap/\∀b∈fp,H9 b=none:=λ{σ9 H9 s9} I9=>
    ⟨T.keep _ _ _ ux λb hb o e=>(I9.pin (b,o) (B7 _ (B7 _ (sN hb e)))).1,λb hb=>by
     obtain⟨o,e,d⟩:=T.obj _ _ ux b hb;exact(I9.pin (b,o) (B7 _ (B7 _ (sN hb e)))).2.1⟩
   have hSk:∀{G9:Hp},aB G7 G9->aU X.K G9 σ6 δ':=λ{G9} sm=>PY.mono (dZ.gg.trans sm);cases b with
   |false=>
    rw[if_neg A7]at o1⊢;exact⟨ds.length - (i + 1),by lia,i + 1,σ6,H7,G7,vs,rs,rfl,dF,I7.cM,(bh I7).1,(bh I7).2,hSk (aB.refl _),st.trans (ao.trans dZ),sg.trans (ao.gg.trans dZ.gg),NW,gD7,rl.mono (ao.gg.trans dZ.gg),by lia,o1⟩
   |true=>
    rw[if_pos rfl]at o1⊢;refine F5 (hel _ s7 σ6 H7 (λv H8=>∃w G8,f δ1=.ok w/\Step G7 H7 G8 H8/\aM X.K G8 v w.d) I7 ⟨G7,δ1,dZ.gh,hS6.mono dZ.gg, ?_⟩) (λu8 s8 ⟨v8,H8,I8,r8,w8,G8,e8,jn,hv8⟩=> ?_) λ_ _ z=>False.elim z
    ·cases e8:f δ1 with
     |ok w=>exact WP.intro λv G8 H8 st8 r8=>⟨w,G8,rfl,st8,r8⟩
     |ex x=>rw[e8]at o1;exact o1
     |no=>rw[e8]at o1;exact o1
    rw[e8]at o1;simp only[R.aI]at o1;have gD8:G8 Da=none:=jn.nw Da gD7 (by rw[NW];simp);have hD8:H8 Da=some (.lst vs):=jn.hh _ _ NW;have rl8:aC X.K G8 vs rs:=rl.mono (ao.gg.trans (dZ.gg.trans jn.gg));refine F5 (xO (X:=X') _ s8 σ6 H8 (.ref Da) [v8] (.ref Da) [u8] (λ_ H9=>H9=upd H8 Da (.lst (vs ++ [v8]))) I8 rfl (.cons r8 .nil) ⟨Da,vs,v8,rfl,rfl,hD8,by rw[rl.length,D9];lia,rfl⟩) (λ_ s9 ⟨_,H9,I9,_,e9⟩=> ?_) λ_ _ z=>False.elim z;subst e9;have Nl:=st.trans (ao.trans (dZ.trans jn));refine⟨ds.length - (i + 1),by lia,i + 1,σ6,_,G8,vs ++ [v8],rs ++ [w8.d],rfl,dF,I9.cM,(bh I9).1,(bh I9).2,hSk jn.gg,⟨λb o z=> ?_,λb o z=> ?_,Nl.gg,Nl.nw⟩,sg.trans (ao.gg.trans (dZ.gg.trans jn.gg)),Bf,gD8,rl8.append (.cons hv8 .nil),by rw[B8,List.length_singleton];lia, ?_⟩
    ·rw[Ao (Ep z BF)];exact Nl.hh b o z
    ·rw[Ao (Ep z gD8)];exact jn.gh b o z
    ·cases Og:eZ fg p f δ' (ds.drop (i + 1)) with
     |ok LS=>
      rw[Og]at o1;simp only[R.aI]at o1⊢;rw[K6];exact o1
     |ex x=>rw[Og]at o1;exact o1
     |no=>rw[Og]at o1;exact o1
  ·have e:ds.length=i:=by lia
   refine Ay (T.done X' rfl rfl rfl i [] s' σ' H' _ (hB _ _ _ _ _ I3) I' (bt rfl fn') tni (i2 e)) λr s1 ⟨hr,I1⟩=> ?_;subst hr;rw[V5 ()]at o';have o1:Ct m fi fg p f δ=.ok (.ow (.lst (rs ++ []))):=o';rw[E4]at o1;obtain⟨mm,pX,_⟩:=I1.loc;have dn:Inv X zc σ H' s1:=I3.um (s':=s1) (ch:=fp) I1.os I1.base I1.aJ I1.bare λb hb=>by
    obtain⟨f0,f1',f2',f3,f4,f5⟩:=f2 b hb;exact⟨f3,f1',f4,f5⟩
   exact NU Da C s1 G2 H2 G' H' vs rs o1 dn ⟨mm,pX⟩ (I3.fL (by show pW.objs.size<=C;lia) I1.free) hz2 st BF hD gD rl
 exact codeAny_compStart_list (loop _ I4 Nk) (T.self X.A 0 _ _ _ Nk (loop _ I4 Nk))
structure eD(X:Cx)(scope:Scope)(N':List Str)(m:Nat)(tg:Expr)(ifs:List Expr)(elt:Expr)(fg:gE)(p:FT)(f:FE):Prop where
 hk:scope.kind=.function
 hb:rf scope.names X.env.scope.names X.N N'=true
 hm:N'.length=X.N.length + m
 iO:∀C s0 H0 fp pn,GC (mw X scope (Fz X.env.cells scope.names []) N' C s0 H0 fp pn) Cm tg fg/\MX (mw X scope (Fz X.env.cells scope.names []) N' C s0 H0 fp pn) Cm ifs p/\ED (mw X scope (Fz X.env.cells scope.names []) N' C s0 H0 fp pn) Cm elt f
def Gj(X:Cx)(B:Cx->Prop)(tg iter:Expr)(fi:FI):Prop:=
 ∀(zc:AE) (s:Shared) (σ:Sg) (G H:Hp) (δ:DE) (ds:List D),Inv X zc σ H s->aB G H->aU X.K G σ δ->fi δ=.ok ds->∃Z:Hp->Hp->Prop,
  (∀G2 H2,Z G2 H2->aB G2 H2/\aU X.K G2 σ δ)/\
  wpAny (model X.prog X.w) X.A (eval iter X.env) (λxv s₁=>wpAny (model X.prog X.w) X.A (pyIter xv) (λjT s₂=>∃(it:Addr) (fp:List Addr) (tn:Nat->Heap->Prop) (J:It) (H2 G2:Hp),jT=.ref it/\Inv X zc σ H2 s₂/\iC X.prog X.w X.K tg J fp it tn B/\tn 0 s₂.heap/\(∀b∈fp,Fs X zc H2 b)/\Z G2 H2/\Gm X.K G2 J ds) X.xe s₁) X.xe s/\
  ∀(Da C:Addr) (s1:Shared) (G2 H2 G' H':Hp) (vs:List V) (rs:List D),Inv X zc σ H' s1->Fs X zc H' C->Z G2 H2->Step G2 H2 G' H'->H2 Da=none->H' Da=some (.lst vs)->G' Da=none->aC X.K G' vs rs->
   ∃G' H',Inv X zc σ H' s1/\Fs X zc H' C/\Step G H G' H'/\H Da=none/\H' Da=some (.lst vs)/\G' Da=none/\aC X.K G' vs rs
def Wc{iter tg:Expr}{fi:FI}{B:Cx->Prop}(hi:PIZ X B tg iter (tI X.K Cm fi)):Gj X B tg iter fi:=λzc s σ G H δ ds I g0 h0 ed=>by
 refine⟨Step G H,λG2 H2 z=>⟨z.gh,h0.mono z.gg⟩,F5 (hi zc s σ H (λJ H2=>∃G2,Step G H G2 H2/\Gm X.K G2 J ds) I ⟨G,δ,g0,h0, ?_⟩) (λxv s₁ h₁=>F5 h₁ (λjT s₂ h₂=> ?_) λ_ _ e=>e) (λ_ _ e=>e),λDa C s1 G2 H2 G' H' vs rs Io fc z st h1 h2 h3 rl=>⟨G',H',Io,fc,z.trans st,z.hh.free h1,h2,h3,rl⟩⟩
 ·rw[ed];exact λJ G2 H2 st it=>⟨G2,st,it⟩
 ·obtain⟨it,fp,tn,J,H2,rfl,I2,T,aT,f2,G2,stp,tR⟩:=h₂;exact⟨it,fp,tn,J,H2,G2,rfl,I2,T,aT,f2,stp,tR⟩
def gS{iter tg:Expr}{fi:FI}(hi:ID X Cm tg iter fi):Gj X Fe tg iter fi:=Wc (PI.z hi)
section
variable{elt iter tg:Expr}{ifs:List Expr}{scope:Scope}{N':List Str}{fi:FI}{fg:gE}{p:FT}{f:FE}{m:Nat}
def JU(tU:∀e s,¬X.xe e s){B:Cx->Prop}(src:Gj X B tg iter fi)(ho:eD X scope N' m tg ifs elt fg p f)
  {zc:AE} {s:Shared} {σ:Sg} {G H:Hp} {δ:DE} (I:Inv X zc σ H s) (g0:aB G H) (h0:aU X.K G σ δ) (hB:∀C s0 H0 fp pn,Inv X zc σ H0 s0->B (mw X scope (Fz X.env.cells scope.names []) N' C s0 H0 fp pn)) {RR:Value->Addr->Result->Shared->Prop}
  (o:match Ct m fi fg p f δ with| .ok _=>True| .ex x=>False| .no=>False)
  (NU:∀(Da C:Addr) (s1:Shared) (G' H':Hp) (vs:List V) (rs:List D),Ct m fi fg p f δ=.ok (.ow (.lst rs))->Inv X zc σ H' s1->(∃m,s1.heap.Ns C m)->Fs X zc H' C->Step G H G' H'->H Da=none->H' Da=some (.lst vs)->G' Da=none->aC X.K G' vs rs->RR (.ref Da) C (.ok .next) s1):
  wpAny (model X.prog X.w) X.A (eval iter X.env) (λx s₁=>wpAny (model X.prog X.w) X.A (pyIter x) (λit s₂=>wpAny (model X.prog X.w) X.A (newList []) (λzm s₃=>
   wpAny (model X.prog X.w) X.A (newFunctionEnv scope X.env.globals (Fz X.env.cells scope.names []) [] X.env.qual none .none (some X.env)) (λnL s₄=>
    codeAny (model X.prog X.w) X.A (.compStart (.ListComp elt [⟨tg,iter,ifs,0⟩] scope pos) 0 it zm {nL with scope:=relabel scope X.env}) (RR zm nL.locals) s₄) X.xe s₃) X.xe s₂) X.xe s₁) X.xe s:=by
 obtain⟨ds,ed⟩:∃ds,fi δ=.ok ds:=by
  unfold Ct at o;cases e:fi δ with
  |ok ds=>exact⟨ds,rfl⟩
  |ex x=>rw[e]at o;exact o.elim
  |no=>rw[e]at o;exact o.elim
 obtain⟨Z,z1,z2,z3⟩:=src zc s σ G H δ ds I g0 h0 ed;refine Xq tU (B:=B) ho.hk ho.hb ho.hm ho.iO I (Z:=Z) z1 hB (F5 z2 (λ_ _ h=>F5 h (λ_ _ ⟨it,fp,tn,J,H2,G2,a,b,c,d,e,z,i⟩=>⟨it,fp,tn,J,H2,ds,G2,a,b,c,d,e,ed,z,i⟩) λ_ _ e=>e) λ_ _ e=>e) o λDa C s1 G2 H2 G' H' vs rs e Io qx fc z st h1 h2 h3 rl=> ?_;obtain⟨G'',Pg,x1,x2,x3,x4,x5,x6,x7⟩:=z3 Da C s1 G2 H2 G' H' vs rs Io fc z st h1 h2 h3 rl;exact NU Da C s1 G'' Pg vs rs e x1 qx x2 x3 x4 x5 x6 x7
def Xp(tU:∀e s,¬X.xe e s){B:Cx->Prop}(hB:∀zc σ C s0 H0 fp pn,Inv X zc σ H0 s0->B (mw X scope (Fz X.env.cells scope.names []) N' C s0 H0 fp pn))(src:Gj X B tg iter fi)(ho:eD X scope N' m tg ifs elt fg p f)
  (hs:∀x,foldedSetIterable iter X.env x=pure x:=by intro _;rfl):ED X Cm (.ListComp elt [⟨tg,iter,ifs,0⟩] scope pos) (Ct m fi fg p f):=by
 intro zc s σ H Q I q;obtain⟨G,δ,g0,h0,o⟩:=q;rw[eval_ListComp];have n:=xn I.ok ho.hk ho.hb;refine ZA2 (use:=none) rfl hs n.GZ n.kind n.names (JU (RR:=λzm C=>compPost (model X.prog X.w) X.A X.xe none (EP X zc σ Q) zm C) tU src ho I g0 h0 (hB _ _) ?_ λDa C s1 G' H' vs rs e Io qx fc st h1 h2 h3 rl=> ?_)
 ·cases e:Ct m fi fg p f δ with
  |ok w=>trivial
  |ex x=>rw[e]at o;exact o
  |no=>rw[e]at o;exact o
 ·rw[e]at o;obtain⟨mm,pX⟩:=qx;obtain⟨c0,c1,c2,c3,c4,c5⟩:=fc;exact⟨mm,pX,λh' sb=>⟨.ref Da,H',Io.turned (t':=s1.toks) (λb ob hb e=>(sb.2 b hb).trans e) c0 c1 c3 c4 c5,rfl,o (.ref Da) (λb=>b=Da) G' H' st (λa e=>by subst e;exact⟨h1,h3,by rw[h2];simp⟩) (.list h2 rfl rl)⟩⟩
def sX(hc:X.calm=true)(src:Gj X.mC Fe tg iter fi)(ho:eD X scope N' m tg ifs elt fg p f)
  (hs:∀x,foldedSetIterable iter X.env x=pure x:=by intro _;rfl):ED X EX (.ListComp elt [⟨tg,iter,ifs,0⟩] scope pos) (Ct m fi fg p f):=
 PE.imp (PE.mC (Xp (X:=X.mC) (λ_ _ z=>z) (B:=Fe) (λ_ _ _ _ _ _ _ _=>hc) src ⟨ho.hk,ho.hb,ho.hm,ho.iO⟩ hs)) λ σ H Q ⟨G,δ,g0,h0,o⟩=>by
  refine⟨G,δ,g0,h0, ?_⟩;cases e:Ct m fi fg p f δ with
  |ok w=>rw[e]at o;exact o
  |ex x=>exact(Ir e).elim
  |no=>rw[e]at o;exact o
end
theorem PS.mC{st:Stmt}{t:TS}(h:PS X.mC st t):PS X st t:=λzc s σ H D I hw=>
 F5 (h zc s σ H D (I.dY _) hw) (λ_ _ q=>q.cD) λ_ _ z=>False.elim z
def Uo{i:Nat}{js:List Nat}{f:FE}(h:∀δ x,f δ≠ .ex x){Δ Δ':SE}{x:Xn}(e:Al i js f Δ=.ex x Δ'):False:=by
 unfold Al at e;have hp:∀Δ2,Ei i Δ2 (f (At Δ2))=.ex x Δ'->False:=λ Δ2 e2=>by
  unfold Ei at e2;cases q:f (At Δ2) with
  |ok w=>rw[q]at e2;cases w <;> cases e2
  |ex y=>exact h _ _ q
  |no=>rw[q]at e2;cases e2
 cases q:f (At Δ) with
 |ok w=>rw[q]at e;cases w <;> cases e
 |ex y=>exact h _ _ q
 |no=>
  rw[q]at e;cases q2:f (Be Δ) with
  |ok w=>
   simp only[q2]at e
   split at e
   ·cases e
   ·exact hp _ e
  |ex y=>exact h _ _ q2
  |no=>simp only[q2]at e;cases e
def Wb{elt iter tg:Expr}{ifs:List Expr}{scope:Scope}{N':List Str}{fi:FI}{fg:gE}{p:FT}{f:FE}{m i:Nat}{y:Str}{py bc:Pos}(tU:∀e s,¬X.xe e s)(hc:X.calm=true)(src:Gj X Fe tg iter fi)(ho:eD X scope N' m tg ifs elt fg p f)
  (hN:X.N.Nodup) (hy:X.N[i]? =some y) (hx:Ga X.env.scope y) (hf:X.fn y=true\/X.env.scope.names.lookup y=some .local)
  (uM:swapsWith (.ListComp elt [⟨tg,iter,ifs,0⟩] scope pos) (some (.Name y py)) bc.line X.env=pure true)
  (hs:∀x,foldedSetIterable iter X.env x=pure x):PS X (.Assign [.Name y py] (.ListComp elt [⟨tg,iter,ifs,0⟩] scope pos) bc) (nF (tD X.K Cm (Ct m fi fg p f)) (ot i)):=by
 intro zc s σ H D I q;obtain⟨G,δ,g0,h0,o⟩:=q;have n:=xn I.ok ho.hk ho.hb;rw[exec_Assign_Name_used _ _ _ _ uM];refine A5 (S4 (A5 ?_));show wpAny _ X.A (do let _<-comprehension (.ListComp elt [⟨tg,iter,ifs,0⟩] scope pos) scope X.env _ (newList []) false (eval iter X.env) (some (assign (.Name y py) X.env))) _ _ s;refine A5 (F5 (ZA2 (use:=some (assign (.Name y py) X.env)) (Q:=λ_ s'=>SP X zc D .next s') rfl hs n.GZ n.kind n.names
  (JU (RR:=λzm C=>compPost (model X.prog X.w) X.A X.xe (some (assign (.Name y py) X.env)) (λ_ s'=>SP X zc D .next s') zm C) tU src ho I g0 h0 (λ_ _ _ _ _ _=>hc) ?_ λDa C s1 G' H' vs rs e Io qx fc st h1 h2 h3 rl=> ?_)) (λ_ s' hq=>F0 (F0 hq)) λ_ _ e=>e)
 ·cases e:Ct m fi fg p f δ with
  |ok w=>trivial
  |ex x=>rw[e]at o;exact o
  |no=>rw[e]at o;exact o
 ·rw[e]at o;obtain⟨mm,pX⟩:=qx;obtain⟨c0,c1,c2,c3,c4,c5⟩:=fc;show wpAny _ X.A (assign (.Name y py) X.env (.ref Da)) _ _ _;refine wpAny_assign_Name (Jz Io hN hy hx (v:=.ref Da) rfl (λs2 I2 ⟨a,sb,ha⟩=> ?_) hf);have hCa:C≠a:=by
   rcases ha with rfl|ha
   ·exact c1
   ·exact λz=>c4 y a ha z.symm
  refine⟨mm,pX.sameBut sb hCa,λh' sb'=>⟨_,H',I2.turned (t':=s2.toks) (λb ob hb e=>(sb'.2 b hb).trans e) c0 c1 c3 c4 c5, ?_⟩⟩;exact o (.ref Da) (λb=>b=Da) G' H' st (λa e=>by subst e;exact⟨h1,h3,by rw[h2];simp⟩) (.list h2 rfl rl)
def wH(js:List Nat){elt iter tg:Expr}{ifs:List Expr}{scope:Scope}{N':List Str}{fi:FI}{fg:gE}{p:FT}{f:FE}{m i:Nat}{y:Str}{py bc:Pos}(hc:X.calm=true)(src:Gj X.mC Fe tg iter fi)(ho:eD X scope N' m tg ifs elt fg p f)
  (hN:X.N.Nodup) (hy:X.N[i]? =some y:=by rfl) (hx:Ga X.env.scope y:=by trivial) (hf:X.fn y=true\/X.env.scope.names.lookup y=some .local:=by trivial)
  (uM:swapsWith (.ListComp elt [⟨tg,iter,ifs,0⟩] scope pos) (some (.Name y py)) bc.line X.env=pure true:=by rfl)
  (hs:∀x,foldedSetIterable iter X.env x=pure x:=by intro _;rfl):SD X EX (.Assign [.Name y py] (.ListComp elt [⟨tg,iter,ifs,0⟩] scope pos) bc) (Al i js (Ct m fi fg p f)):=
 PS.imp (PS.mC (Wb (X:=X.mC) (λ_ _ z=>z) hc src ⟨ho.hk,ho.hb,ho.hm,ho.iO⟩ hN hy hx hf uM hs)) λD σ H ⟨H0,G0,G,Δ,O,E,q⟩=>by
  refine Iu (EX:=Cm) (js:=js) ⟨H0,G0,G,Δ,O,E, ?_⟩;cases e:Al i js (Ct m fi fg p f) Δ with
  |ex x Δ'=>exact(Uo (λ_ _ z=>Ir z) e).elim
  |_=>rw[e]at q;exact q
end
def sJ:bootBuiltins "bool" =some (.type "bool"):=by decide +kernel
def uF{k:Nat}{scope:Scope}{cl:List (Str×Addr)}{N':List Str}{C:Addr}{s0:Shared}{H0:Hp}{fp:List Addr}{pn:AE}{c:Bool}(h:aF c k (Cx.A X)):aF c k (Cx.A (mw X scope cl N' C s0 H0 fp pn)):=h
def xJ{scope:Scope}{cl:List (Str×Addr)}{N':List Str}{C:Addr}{s0:Shared}{H0:Hp}{fp:List Addr}{pn:AE}(h:Cx.calm X=true):Cx.calm (mw X scope cl N' C s0 H0 fp pn)=true:=h
section
variable{X:Cx}{EX:Ax}{a b e:Expr}{es:List Expr}{f g:FE}{fa:FA}{pos p2:Pos}
abbrev FO:=DE->R (Option Int)
def Lx:FO:=λ_=> .ok none
def gu:D->R (Option Int)
 | .int i=> .ok (some i)
 |_=> .no
def Lw(f:FE):FO:=λ δ=>(f δ).bind λw=>gu w.d
def WX{α:Type}(xs:List α)(lo hi:Option Int):List α:=(xs.drop (HT.Nq xs.length 0 lo)).take (HT.Nq xs.length xs.length hi - HT.Nq xs.length 0 lo)
def RE:D->Option Int->Option Int->R W
 | .lst ds,lo,hi=> .ok (.ow (.lst (WX ds lo hi)))
 | .str x,lo,hi=>if x.length<=16777216 then .ok (.sh (.str (Txt.slice x lo hi))) else .no
 |_,_,_=> .no
def yo(f:FE)(lo hi:FO):FE:=λ δ=>(f δ).bind λw=>(lo δ).bind λl=>(hi δ).bind λu=>RE w.d l u
noncomputable def uv(T:String):D->Bool
 | .str _=>T == "str"
 | .int _=>T == "int"
 | .lst _=>T == "list"
 |_=>false
def QC{G H:Hp}{T:String}{d:D}(g:aB G H)(r:aM K G v d)(h:uv T d=true):LI K T v H:=by
 cases r with
 |str x=>exact eq_of_beq h
 |int i=>exact eq_of_beq h
 |lst hq r=>exact .inl ⟨eq_of_beq h,_,g.seq hq⟩
 |_=>cases h
def rDm(K:Frag)(fn:D->AF):V->List V->Hp->VK->Prop:=λx vs H Q=>∃(EX:jl) (G:Hp) (d:D) (ds:List D),aB G H/\aM K G x d/\aC K G vs ds/\Out K EX G H (fn d ds) Q
abbrev OZ(X:Cx)(id:String)(fn:D->AF):Prop:=zD X id (rDm X.K fn)
def ki(T:String)(fn:D->AF)(f:FE)(fa:FA):FE:=λ δ=>(f δ).bind λw=>if uv T w.d=true then(fa δ).bind λds=>fn w.d ds else .no
variable{o:Expr}{name:Str}{zf zd:Pos}{T id:String}{fn:D->AF}
def Hn(pa:PlainAttrs T)(slot:Slot T name id)(NJ:typeOf (.builtin id)=pure (.type "method_descriptor"))(hm:OZ X id fn)(ho:ED X EX o f)(ha:AD X EX (e::es) fa)
  (af:attributeBase o name X.env (eval o X.env)=eval o X.env:=by rfl)
  (az:((backTo zd (starEach (e::es) X.env)).all (λx=> !x.1) && (backToKw zd (keywordEach [] X.env)).all (λx=>x.1.isSome)
   && decide ((e::es).length + ([]:List Keyword).length + (if([]:List Keyword).isEmpty then 0 else 1) < 30))=true:=by rfl)
  (ae:(zf.endLine ==zd.line)=true:=by rfl) (hs:starEach (e::es) X.env=(false,eval e X.env)::starEach es X.env:=by rfl) (ag:(backTo zd (starEach es X.env)).any (·.1)=false:=by rfl):
  ED X EX (.Call (.Attribute o name zf) (e::es) [] zd) (ki T fn f fa):=
 PE.imp (rh pa slot NJ hm ho ha af az ae hs ag) λ σ H Q ⟨G,δ,g0,s0,o⟩=>tD.seq g0 s0 o λw v G1 H1 _ bM r1 o1=>by
  split at o1
  ·rename_i ht;exact⟨QC bM.gh r1 ht,gv.seq bM.gh (s0.mono bM.gg) o1 λds vs G2 H2 _ aT r2 o2=>⟨_,G2,w.d,ds,aT.gh,r1.mono aT.gg,r2,o2⟩⟩
  ·exact o1.elim
def yp(T:String)(fn:D->AF)(f:FE):FE:=λ δ=>(f δ).bind λw=>if uv T w.d=true then fn w.d [] else .no
def Hm{G:Hp}{d:D}{vs:List V}{ds:List D}(r:aM K G v d)(rl:aC K G vs ds){P:Prop}(h:∀x y,v=.str x->d=.str x->vs= [.str y]->ds= [.str y]->P)(n:(∀x y,¬(d=.str x/\ds= [.str y]))->P):P:=by
 by_cases e:∃x y,d=.str x/\ds= [.str y]
 ·obtain⟨x,y,rfl,rfl⟩:=e;cases r;cases rl with
  |cons a t=>cases a;cases t;exact h x y rfl rfl rfl rfl
 ·exact n λx y z=>e ⟨x,y,z⟩
def oo:D->List D->R W
 | .str x,[.str y]=> .ok (.sh (.int (Txt.find x y)))
 |_,_=> .no
def Wa:OZ X "str.find" oo:=by
 intro zc s σ H x vs v us Q I rx rv h;obtain⟨EX,G,d,ds,g,r,rl,o⟩:=h;refine Hm r rl (λx y e1 e2 e3 e4=> ?_) λn=> ?_
 ·subst e1 e2 e3 e4;obtain⟨t,rfl⟩:=rx;obtain⟨u,rfl,t',rfl⟩:=rv.one;exact SC.find ⟨.int _,H,I.tok _,⟨_,rfl⟩,Cz o g (.int _)⟩
 ·have e:oo d ds=.no:=by
   unfold oo
   split
   ·rename_i x y;exact absurd ⟨rfl,rfl⟩ (n x y)
   ·rfl
  rw[e]at o;exact o.elim
def Dh(T:String):D->Option Bool
 | .aK=>some false
 | .bl _=>some (T == "bool" || T == "int")
 | .int _=>some (T == "int")
 | .str _=>some (T == "str")
 | .lst _=>some (T == "list")
 | .tup _=>some (T == "tuple")
 |_=>none
def jY(T:String)(f:FE):FE:=λ δ=>(f δ).bind λw=>match Dh T w.d with
 |some k=> .ok (.sh (.bl k))
 |none=> .no
structure dR(K:Frag)(T:String):Prop where
 aK:kitOne K (.type "NoneType") (.type T)=some false
 bl:kitOne K (.type "bool") (.type T)=some (T == "bool" || T == "int")
 int:kitOne K (.type "int") (.type T)=some (T == "int")
 str:kitOne K (.type "str") (.type T)=some (T == "str")
 lst:kitOne K (.type "list") (.type T)=some (T == "list")
 tup:kitOne K (.type "tuple") (.type T)=some (T == "tuple")
def VZ{T:String}(k:dR X.K T):bR X (.builtin "isinstance") (λxs H Q=>∃G x d b,xs= [x,.ty T]/\aB G H/\aM X.K G x d/\Dh T d=some b/\Q (.bl b) H):=by
 intro zc s σ H xs us Q I rv h;obtain⟨G,x,d,b,rfl,g,r,e,q⟩:=h;obtain⟨u,u2,rfl,r1,r2⟩:=rv.two;cases r2;have fin:∀tk,EP X zc σ Q (.bool b) {s with toks:=tk}:=λtk=>⟨.bl b,H,I.tok _,rfl,q⟩;cases r with
 |aK=>cases r1;exact kia_one kitx_none I.cN True.intro (k.aK.trans e) (λz=>nomatch z) fin
 |bl y=>cases r1;exact kia_one kitx_bool I.cN True.intro (k.bl.trans e) (λz=>nomatch z) fin
 |int i=>obtain⟨t,rfl⟩:=r1;exact kia_one kitx_int I.cN True.intro (k.int.trans e) (λz=>nomatch z) fin
 |str y=>obtain⟨t,rfl⟩:=r1;exact kia_one kitx_str I.cN True.intro (k.str.trans e) (λz=>nomatch z) fin
 |lst h r=>
  cases r1;obtain⟨its,_,⟨ob,n,e1,c,_,_⟩,_⟩:=I.list (g.seq h);exact kia_one kitx_list I.cN ⟨ob,e1,c⟩ (k.lst.trans e) (λz=>nomatch z) fin
 |tup h r=>
  cases r1;obtain⟨its,_,⟨ob,e1,c,_⟩,_⟩:=I.tuple (aB.tupS g h);exact kia_one kitx_tuple I.cN ⟨ob,e1,c⟩ (k.tup.trans e) (λz=>nomatch z) fin
 |dP _ _=>cases e
 |dO _ _ _ _ _=>cases e
 |aE _ _ _=>cases e
 |obj _ _ _ _=>cases e
def mr{Tn:Str}{T:String}{pp p3:Pos}(k:dR X.K T)(ha:ED X EX a f)(hm:X.mg "isinstance" =none)(hmT:X.mg Tn=none)(hvT:bootBuiltins Tn=some (.type T))(hg:Gl X "isinstance" :=by rfl)(hgT:Gl X Tn:=by rfl)
  (hn:Tn≠ "__name__" :=by decide) (qz:AG Tn:=by decide)
  (he:starEach [a,.Name Tn p3] X.env=(false,eval a X.env)::starEach [.Name Tn p3] X.env:=by rfl) (bZ:(backTo pos (starEach [.Name Tn p3] X.env)).any (·.1)=false:=by rfl)
  (hs:starEach [.Name Tn p3] X.env=(false,eval (.Name Tn p3) X.env)::starEach [] X.env:=by rfl):ED X EX (.Call (.Name "isinstance" pp) [a,.Name Tn p3] [] pos) (jY T f):=
 PE.imp (IF (VZ k) hg hm boot_isinstance (iS ha (iS (UP (v:=.ty T) hgT hmT hvT rfl hn qz) mB hs) he) ⋯ ⋯ he bZ) λ σ H Q ⟨G,δ,g0,s0,o⟩=>tD.seq g0 s0 o λw v G1 H1 _ bM r1 o1=>by
  split at o1
  ·rename_i b e;exact⟨G1,v,w.d,b,rfl,bM.gh,r1,e,Cz o1 bM.gh (.bl b)⟩
  ·exact o1.elim
end
def oF(K:Frag):Sp:=λvs H Q _=>∃(a:Addr) (ns:List Int),vs= [.ref a]/\cF K H a (ns.map V.int)/\ns.length<=63/\∀H',Q (.bl true) H'
theorem Hl{G:Hp}:∀ns:List Int,aC K G (ns.map V.int) (ns.map D.int)
 | []=> .nil
 |n::ns=> .cons (.int n) (Hl ns)
def RD{P:Program}{w:World}{k:Nat}{f:Addr}{x:Str}{F:AF}(h:bI P w K mg base true k f fd [x] (Bo K 1 F))
  (hF:∀ns:List Int,ns.length<=63->∃v,F [.lst (ns.map D.int)]=.ok v/\v.d=.bl true):pE P w K mg base MW k f fd [x] (oF K):=by
 have hs:∀vs H Q E,oF K vs H Q E->Bo K 1 F vs H Q λ_ _ _=>False:=λvs H Q E q=>by
  obtain⟨a,ns,rfl,hS,hl,q⟩:=q;obtain⟨v,e,ev⟩:=hF ns hl;refine⟨rfl,H,[.lst (ns.map D.int)],aB.refl _,.cons (.lst hS (Hl ns)) .nil, ?_⟩;rw[e];refine WP.intro λu G' H' st r=> ?_;rw[ev]at r;cases r;exact q H'
 refine⟨λvs H Q E q=>(hs vs H Q E q).1,λA outer s H args us vs Q E hr e0 hb hv q=>R1 (h.run A outer s H args us vs Q _ (aF.of hr) e0 hb hv (hs vs H Q E q)) λr s' hq=> ?_⟩;cases r with
 |error e=>
  obtain⟨a,C,dx,T,H',_,_,_,_,_,_,_,_,_,_,z⟩:=hq;exact z
 |ok fl=>cases fl <;> exact hq
def eh_0{l:PySem.W.OpenLaw}{q:Program}{loose:List Str}{XP:(AB)->Heap->Prop}{YP:World->Heap->Prop}{d:DefRec}{K:Params->Frag}{x:Str}{k:Nat}(hn:l.most=some 63)(BG:d.params.defaults= [])(hr:eM k callerA)
  (hY:∀(w:World) (h:Heap),YP w h->(K w.params).In h)
  (F:∀(w:World) (mg:AB) (fa:Addr) (h:Heap),(K w.params).In h->h.Ns mainGlobals mg->mg d.name=some (.ref fa)->
   ∃fd:FuncData,(∀(s:Shared) (u:Value),BindsTo s fd ⟨[u],[]⟩ [(x,u)])/\∀base:Heap,(K w.params).In base->base.Ns mainGlobals mg->pE l.prog w (K w.params) mg base MW k fa fd [x] (oF (K w.params))):
  PySem.W.WalkO q loose XP YP l.row.toRowW d [] (λf vs=>PySem.call f vs):=
 UC (n:=63) (k:=k) (x:=x) (CX:=λ_=>MW) (sp:=λw=>oF (K w.params)) hn ⋯ BG hr hY F (λ_ _ a ns hl _ hS=>⟨a,ns,rfl,hS,hl,λ_=>rfl⟩) λ_ _ _ _ _ z=>z
def Inv.pair{zc:AE}{σ:Sg}{s:Shared}{e it:Addr}{h':Heap}{tk:Nat}{its:List Value}{vs:List V}(I:Inv X zc σ H s)(fe:Fs X zc H e)(fi:Fs X zc H it)
  (k:∀b o,b≠e->b≠it->s.heap.get? b=some o->h'.get? b=some o) (he:∃o,h'.get? e=some o) (hi:∃o,h'.get? it=some o) (ht:h'.get? s.heap.objs.size=some {cls:=.type "tuple",data:=.seq its.toArray}) (rv:Vals vs its) (hz:vs.length<=sizeLine):
  Inv X zc σ (upd H s.heap.objs.size (.tup vs)) {s with heap:=h',toks:=tk}:=by
 have hn:H s.heap.objs.size=none:=I.aJ.fresh (B6 _);obtain⟨e0,e1,e2,e3,e4,e5⟩:=fe;obtain⟨i0,i1,i2,i3,i4,i5⟩:=fi;have qp:∀b u,H b=some u->b≠e/\b≠it:=λb u q=>⟨λz=>(by rw[z,e0]at q;cases q),λz=>(by rw[z,i0]at q;cases q)⟩;have lt:∀b o,s.heap.get? b=some o->b≠s.heap.objs.size:=λb o q=>D8 (A6 q);refine I.step (g':=s.gens) (d':=s.drawn) (ch:=[e,it]) (λb hb=> ?_) (λb o _ _ hc q _=>k b o (λz=>hc (by simp[z])) (λz=>hc (by simp[z])) q)
  (λb o _ _ hc q _=>⟨o.slots,k b o (λz=>hc (by simp[z])) (λz=>hc (by simp[z])) q⟩) (λb o _ q n=>by rw[Ao (lt b o q)];exact n) (λb o hc q=>⟨o,k b o (λz=>hc (by simp[z])) (λz=>hc (by simp[z])) q⟩)
  (λb xs q=>by rw[Ao (Ep q hn)];exact q) (λb o u q=>by rw[Ao (Ep q hn)];exact q) (λb ps q=>⟨#[],by rw[Ao (Ep q hn),q];simp⟩) (λm hm=> ?_) (λb u q=> ?_) I.bare
 ·have cO:b=e\/b=it:=by simpa using hb
  rcases cO with rfl|rfl
  ·exact⟨e3,e1,e4,e5⟩
  ·exact⟨i3,i1,i4,i5⟩
 ·obtain⟨o,es,ep,ho,r⟩:=hm;exact⟨o,es,ep,k _ o (Ne.symm e1) (Ne.symm i1) ho,r⟩
 ·by_cases z:b=s.heap.objs.size
  ·subst z;rw[Bf]at q;cases q;exact⟨hz,its,rv,⟨_,ht,rfl,0,rfl⟩⟩
  ·rw[Ao z]at q;refine(I.aJ b u q).cX (λc v hc r=> ?_) (λc r=>by rw[Ao (Ep r hn)];exact r) λc xs r=>by rw[Ao (Ep r hn)];exact r
   rcases hc with rfl|hc
   ·exact k c v (qp c u q).1 (qp c u q).2 r
   ·exact k c v (qp c _ hc).1 (qp c _ hc).2 r
def Inv.fZ{zc:AE}{σ:Sg}{s:Shared}{e it:Addr}{h':Heap}{tk:Nat}(I:Inv X zc σ H s)(fe:Fs X zc H e)(fi:Fs X zc H it)
  (k:∀b o,b≠e->b≠it->s.heap.get? b=some o->h'.get? b=some o):Inv X zc σ H {s with heap:=h',toks:=tk}:=by
 obtain⟨e0,e1,e2,e3,e4,e5⟩:=fe;obtain⟨i0,i1,i2,i3,i4,i5⟩:=fi;have qp:∀b u,H b=some u->b≠e/\b≠it:=λb u q=>⟨λz=>(by rw[z,e0]at q;cases q),λz=>(by rw[z,i0]at q;cases q)⟩;refine I.step (g':=s.gens) (d':=s.drawn) (ch:=[e,it]) (λb hb=> ?_) (λb o _ _ hc q _=>k b o (λz=>hc (by simp[z])) (λz=>hc (by simp[z])) q)
  (λb o _ _ hc q _=>⟨o.slots,k b o (λz=>hc (by simp[z])) (λz=>hc (by simp[z])) q⟩) (λb o _ q n=>n) (λb o hc q=>⟨o,k b o (λz=>hc (by simp[z])) (λz=>hc (by simp[z])) q⟩)
  (λb xs q=>q) (λb o u q=>q) (λb ps q=>⟨#[],by rw[q];simp⟩) (λm hm=> ?_) (λb u q=> ?_) I.bare
 ·have cO:b=e\/b=it:=by simpa using hb
  rcases cO with rfl|rfl
  ·exact⟨e3,e1,e4,e5⟩
  ·exact⟨i3,i1,i4,i5⟩
 ·obtain⟨o,es,ep,ho,r⟩:=hm;exact⟨o,es,ep,k _ o (Ne.symm e1) (Ne.symm i1) ho,r⟩
 ·refine(I.aJ b u q).cX (λc v hc r=> ?_) (λc r=>r) λc xs r=>r;rcases hc with rfl|hc
  ·exact k c v (qp c u q).1 (qp c u q).2 r
  ·exact k c v (qp c _ hc).1 (qp c _ hc).2 r
def Mz(K:Frag)(l:Addr):It:=
 ⟨λi H=>∃xs x,cF K H l xs/\xs[i]? =some x,λi H v H'=>∃p,H p=none/\v=.ref p/\∀xs x,cF K H l xs->xs[i]? =some x->H'=upd H p (.tup [.int (i:Int),x]),λi H=>∃xs,cF K H l xs/\xs.length=i⟩
def Mx(z:Str):It:=
 ⟨λi _=>i < z.cps.size,λi H v H'=>∃p c,H p=none/\v=.ref p/\z.cps[i]? =some c/\H'=upd H p (.tup [.int (i:Int),.str ⟨#[c]⟩]),λi _=>i=z.cps.size⟩
def VY{P:Program}{w:World}{elts:List Expr}{x1:Nat}(e it l:Addr)(qy:e≠it):Turn P w K (.Tuple elts x1 pos) (Mz K l) [e,it] e (λi h=>(∃old,IsEnum h e it (i:Int) old)/\h.IsListIter it l i) where
 mem:=by simp
 obj:=λi h st b hb=>by
  have cO:b=e\/b=it:=by simpa using hb
  rcases cO with rfl|rfl
  ·obtain⟨⟨old,q⟩,_⟩:=st;exact⟨_,q,λv z=>by cases z⟩
  ·obtain⟨_,⟨o,q,c,d⟩⟩:=st;exact⟨o,q,λv z=>by rw[d]at z;cases z⟩
 keep:=λi h h' st k=>by
  obtain⟨⟨old,q⟩,r⟩:=st;exact⟨⟨old,k e (by simp) _ q⟩,r.at λo z=>k it (by simp) o z⟩
 item:=by
  intro X hP hw hK hc i zc s σ H E I hf st hg;subst hP hw hK;obtain⟨xs,x,hq,hx⟩:=hg;obtain⟨its,rv,p,hz⟩:=I.list hq;obtain⟨u,hu,ru⟩:=rv.get hx;obtain⟨⟨old,he⟩,hit⟩:=st;have fe:=hf e (by simp);have fi:=hf it (by simp);have pl:=p.isList;have nle:l≠e:=λz=>by
   subst z;obtain⟨o,ho,kO,_⟩:=pl;rw[show s.heap.get? l=_ from he]at ho;cases ho;exact absurd kO (by simp)
  have Nz:l≠it:=λz=>by
   subst z;obtain⟨o,ho,kO,_⟩:=pl;obtain⟨o',dJ,nj,_⟩:=hit;rw[ho]at dJ;cases dJ;rw[kO]at nj;exact absurd nj (by simp)
  have dF:i < its.toArray.size:=by
   have:=(B5.mp hu).1;simpa using this
  refine ZA8 (Draws.list (A:=X.A.in1) (I.ok.hd hc) it l Nz its.toArray) he ⟨hit,pl⟩ dF qy (by simp[qy,Ne.symm nle]) λy h' tk hy ho cA cj hsz kk=> ?_;have ey:y=u:=by
   have:its.toArray[i]? =some u:=by simpa using hu
   rw[this]at hy;exact(K1 hy).symm
  subst ey;refine⟨_,rfl,Y9 ho λMs ar sb=> ?_⟩;have ba:∃old,IsEnum Ms e it ((i + 1:Nat):Int) old:=⟨_,by
   have e1:((i + 1:Nat):Int)=(i:Int) + 1:=by lia
   rw[e1];exact ar⟩
  refine⟨.ref s.heap.objs.size,upd H s.heap.objs.size (.tup [.int (i:Int),x]), ?_,rfl,⟨_,I.aJ.fresh (B6 _),rfl,λys y' hy' ey'=> ?_⟩,⟨ba, ?_⟩,λb hb=> ?_⟩
  ·have ne:s.heap.objs.size≠e:=λz=>absurd (A6 he) (by rw[<-z];exact F3 _);refine Inv.pair (its:=[.int (i:Int) tk,y]) I fe fi (λb o h1 h2 q=>(sb.2 b h1).trans (kk b o h1 h2 q)) ⟨_,ar⟩ ?_ ((sb.2 _ ne).trans cj) (.cons ⟨_,rfl⟩ (.cons ru .nil)) (by show 2<=sizeLine;decide);obtain⟨⟨o,q,_⟩,_⟩:=cA;exact⟨o,(sb.2 it (Ne.symm qy)).trans q⟩
  ·have:=I.eE hy' hq;subst this;rw[hx]at ey';cases ey';rfl
  ·exact cA.1.at λo z=>(sb.2 it (Ne.symm qy)).trans z
  ·have cO:b=e\/b=it:=by simpa using hb
   have qA:b < s.heap.objs.size:=by
    rcases cO with rfl|rfl
    ·exact A6 he
    ·obtain⟨o,q,_⟩:=hit;exact A6 q
   rw[Ao (D8 qA)];exact(hf b hb).1
 done:=by
  intro X hP hw hK hc i zc s σ H E I hf st hg;subst hP hw hK;obtain⟨xs,hq,hx⟩:=hg;obtain⟨its,rv,p,hz⟩:=I.list hq;obtain⟨⟨old,he⟩,hit⟩:=st;have hl:=rv.length;have pl:=p.isList;have Nz:l≠it:=λz=>by
   subst z;obtain⟨o,ho,kO,_⟩:=pl;obtain⟨o',dJ,nj,_⟩:=hit;rw[ho]at dJ;cases dJ;rw[kO]at nj;exact absurd nj (by simp)
  have en:i=its.toArray.size:=by simp;lia
  refine ZC0 (Draws.list (A:=X.A.in1) (I.ok.hd hc) it l Nz its.toArray) he (by rw[<-en];exact⟨hit,pl⟩) λh' eb=>⟨rfl, ?_⟩;exact Inv.fZ (tk:=s.toks) I (hf e (by simp)) (hf it (by simp)) λb o h1 h2 q=>eb b o h2 q
 self:=λA i s Q E st h=>by
  obtain⟨⟨old,he⟩,_⟩:=st;exact V6 he h
def Jj{prog:Program}{w:World}{A:Around}(hh:A.handled=none)(it:Addr)(x:Str)(t:Tok):
  Draws prog w A it [it] x.cps.size (λi v=>∃c u,x.cps[i]? =some c/\v=.str ⟨#[c]⟩ u) (λi h=>h.IsStrIter it (strIterType x) x t i):=by
 unfold strIterType;cases ha:x.cps.all (· < 128)
 ·exact Draws.strWide hh it x t
 ·exact Draws.strAscii hh it x t
def VX{P:Program}{w:World}{elts:List Expr}{x1:Nat}(e it:Addr)(z:Str)(t:Tok)(qy:e≠it):Turn P w K (.Tuple elts x1 pos) (Mx z) [e,it] e (λi h=>(∃old,IsEnum h e it (i:Int) old)/\h.IsStrIter it (strIterType z) z t i) where
 mem:=by simp
 obj:=λi h st b hb=>by
  have cO:b=e\/b=it:=by simpa using hb
  rcases cO with rfl|rfl
  ·obtain⟨⟨old,q⟩,_⟩:=st;exact⟨_,q,λv z=>by cases z⟩
  ·obtain⟨_,⟨o,q,c,d⟩⟩:=st;exact⟨o,q,λv z=>by rw[d]at z;cases z⟩
 keep:=λi h h' st k=>by
  obtain⟨⟨old,q⟩,⟨o,r,c⟩⟩:=st;exact⟨⟨old,k e (by simp) _ q⟩,⟨o,k it (by simp) o r,c⟩⟩
 item:=by
  intro X hP hw hK hc i zc s σ H E I hf st hg;subst hP hw hK;obtain⟨⟨old,he⟩,hit⟩:=st;have fe:=hf e (by simp);have fi:=hf it (by simp);refine ZA8 (Jj (A:=X.A.in1) (I.ok.hd hc) it z t) he hit hg qy (by simp[qy]) λy h' tk hy ho cA cj hsz kk=> ?_;obtain⟨c,uc,hcx,rfl⟩:=hy;refine⟨_,rfl,Y9 ho λMs ar sb=> ?_⟩;have ba:∃old,IsEnum Ms e it ((i + 1:Nat):Int) old:=⟨_,by
   have e1:((i + 1:Nat):Int)=(i:Int) + 1:=by lia
   rw[e1];exact ar⟩
  refine⟨.ref s.heap.objs.size,upd H s.heap.objs.size (.tup [.int (i:Int),.str ⟨#[c]⟩]), ?_,rfl,⟨_,c,I.aJ.fresh (B6 _),rfl,hcx,rfl⟩,⟨ba, ?_⟩,λb hb=> ?_⟩
  ·have ne:s.heap.objs.size≠e:=λz=>absurd (A6 he) (by rw[<-z];exact F3 _);refine Inv.pair (its:=[.int (i:Int) tk,.str ⟨#[c]⟩ uc]) I fe fi (λb o h1 h2 q=>(sb.2 b h1).trans (kk b o h1 h2 q)) ⟨_,ar⟩ ?_ ((sb.2 _ ne).trans cj) (.cons ⟨_,rfl⟩ (.cons ⟨_,rfl⟩ .nil)) (by show 2<=sizeLine;decide);obtain⟨o,q,_⟩:=cA;exact⟨o,(sb.2 it (Ne.symm qy)).trans q⟩
  ·obtain⟨o,q,r⟩:=cA;exact⟨o,(sb.2 it (Ne.symm qy)).trans q,r⟩
  ·have cO:b=e\/b=it:=by simpa using hb
   have qA:b < s.heap.objs.size:=by
    rcases cO with rfl|rfl
    ·exact A6 he
    ·obtain⟨o,q,_⟩:=hit;exact A6 q
   rw[Ao (D8 qA)];exact(hf b hb).1
 done:=by
  intro X hP hw hK hc i zc s σ H E I hf st hg;subst hP hw hK;obtain⟨⟨old,he⟩,hit⟩:=st;have en:i=z.cps.size:=hg;refine ZC0 (Jj (A:=X.A.in1) (I.ok.hd hc) it z t) he (by rw[<-en];exact hit) λh' eb=>⟨rfl, ?_⟩;exact Inv.fZ (tk:=s.toks) I (hf e (by simp)) (hf it (by simp)) λb o h1 h2 q=>eb b o h2 q
 self:=λA i s Q E st h=>by
  obtain⟨⟨old,he⟩,_⟩:=st;exact V6 he h
def gy(k:Nat):List D->List D
 | []=> []
 |d::ds=> .tup [.int (k:Int),d]::gy (k + 1) ds
theorem sI:∀{ds:List D} {k i:Nat} {d:D},(gy k ds)[i]? =some d->∃d',ds[i]? =some d'/\d=.tup [.int ((k + i:Nat):Int),d']
 | [],_,_,_,h=>by simp[gy]at h
 |x::ds,k,0,d,h=>by simp[gy]at h;exact⟨x,rfl,h.symm⟩
 |x::ds,k,i + 1,d,h=>by
  obtain⟨d',e1,e2⟩:=sI (ds:=ds) (k:=k + 1) (i:=i) (by simpa[gy] using h);exact⟨d',by simpa using e1,by rw[e2,show k + 1 + i=k + (i + 1) by lia]⟩
theorem yG:∀(ds:List D) (k:Nat),(gy k ds).length=ds.length
 | [],_=>rfl
 |_::ds,k=>by simp[gy,yG ds (k + 1)]
def vP:D->R (List D)
 | .lst ds=> .ok (gy 0 ds)
 | .str x=> .ok (gy 0 (jM x))
 |_=> .no
def om(f:FE):FI:=λ δ=>(f δ).bind λw=>vP w.d
section
variable{X:Cx}{EX:Ax}{a:Expr}{f:FE}{elts:List Expr}{x1:Nat}{tp p pos:Pos}
def iEn(K:Frag)(t:TA):TI:=λ σ H Q=>t σ H λvs H1=>(∃l,vs= [.ref l]/\(∃xs,cF K H1 l xs)/\Q (Mz K l) H1)\/(∃z,vs= [.str z]/\Q (Mx z) H1)
def Hk{ta:TA}(hg:Gl X "enumerate")(hm:X.mg "enumerate" =none)(ha:PA X [a] ta)(hs:starEach [a] X.env= [(false,eval a X.env)]:=by rfl):PI X (.Tuple elts x1 tp) (.Call (.Name "enumerate" p) [a] [] pos) (iEn X.K ta):=by
 intro zc s σ H Q I h;refine Call_ (fU I hg hm PyProof.Rows.boot_enumerate (N4 (Ay (ha pos zc s σ H _ I h) λus s1 ⟨vs,H1,I1,r1,q1⟩=> ?_) hs rfl));rcases q1 with⟨l,rfl,⟨xs,hq⟩,q⟩|⟨z,rfl,q⟩
 ·obtain⟨u,rfl,ru⟩:=r1.one;cases ru;obtain⟨its,rv,pl,hz⟩:=I1.list hq;refine call_enumerate_list pl.isList λh' he hit hsz kk=>V6 he ?_;refine⟨s1.heap.objs.size + 1,[s1.heap.objs.size + 1,s1.heap.objs.size],_,Mz X.K l,H1,rfl,I1.kept (t':=s1.toks) kk,VY _ _ l (Nat.succ_ne_self _),⟨⟨_,he⟩,hit⟩,λb hb=> ?_,q⟩;have cO:b=s1.heap.objs.size + 1\/b=s1.heap.objs.size:=by simpa using hb
  have qA:s1.heap.objs.size<=b:=by
   rcases cO with rfl|rfl
   ·exact L7 _
   ·exact B6 _
  exact I1.fL qA (I1.aJ.fresh qA)
 ·obtain⟨u,rfl,t,rfl⟩:=r1.one;refine call_enumerate_str λh' he hit hsz kk=>V6 he ?_;refine⟨s1.heap.objs.size + 1,[s1.heap.objs.size + 1,s1.heap.objs.size],_,Mx z,H1,rfl,I1.kept (t':=s1.toks) kk,VX _ _ z t (Nat.succ_ne_self _),⟨⟨_,he⟩,hit⟩,λb hb=> ?_,q⟩;have cO:b=s1.heap.objs.size + 1\/b=s1.heap.objs.size:=by simpa using hb
  have qA:s1.heap.objs.size<=b:=by
   rcases cO with rfl|rfl
   ·exact L7 _
   ·exact B6 _
  exact I1.fL qA (I1.aJ.fresh qA)
def Hj{G:Hp}{l:Addr}{vs:List V}{ds:List D}(h:cF K G l vs)(r:aC K G vs ds):Gm K G (Mz K l) (gy 0 ds):=λG' H g1 g i=>by
 refine⟨λd e=> ?_,λe=> ?_⟩
 ·obtain⟨d',e1,rfl⟩:=sI e;obtain⟨v,e2,hv⟩:=r.get e1;refine⟨⟨vs,v,(g1.trans g).seq h,e2⟩,λx H' y=> ?_⟩;obtain⟨p,hp,rfl,y⟩:=y;have:=y vs v ((g1.trans g).seq h) e2;subst this;refine⟨_,Step.new g hp _,.tup (dD.of Bf) (.cons (by rw[P6];exact .int _) (.cons (hv.mono (g1.trans (jV (g.free hp) _))) .nil))⟩
 ·rw[yG]at e;exact⟨vs,(g1.trans g).seq h,by rw[r.length];exact e⟩
def Hi{G:Hp}(z:Str):Gm K G (Mx z) (gy 0 (jM z)):=λG' H g1 g i=>by
 refine⟨λd e=> ?_,λe=> ?_⟩
 ·obtain⟨d',e1,rfl⟩:=sI e;unfold jM at e1;rw[A9]at e1;cases q:z.cps.toList[i]? with
  |none=>rw[q]at e1;cases e1
  |some c=>
   rw[q]at e1;cases e1;have hi:i < z.cps.size:=by
    have:=(B5.mp q).1;simpa using this
   refine⟨hi,λx H' y=> ?_⟩;obtain⟨p,c',hp,rfl,hc,rfl⟩:=y;have:z.cps.toList[i]? =some c':=by simpa using hc
   rw[q]at this;cases this;refine⟨_,Step.new g hp _,.tup (dD.of Bf) (.cons (by rw[P6];exact .int _) (.cons (.str _) .nil))⟩
 ·rw[yG]at e;unfold jM at e;rw[A3]at e;show i=z.cps.size;simp at e;lia
def Hh(hm:X.mg "enumerate" =none)(he:ED X EX a f)(hg:Gl X "enumerate" :=by rfl)(hs:starEach [a] X.env= [(false,eval a X.env)]:=by rfl)(jg:starEach [a] X.env=(false,eval a X.env)::starEach [] X.env:=by rfl):
  ID X EX (.Tuple elts x1 tp) (.Call (.Name "enumerate" p) [a] [] pos) (om f):=
 PI.imp (Hk hg hm (iS he mB jg) hs) λ σ H Q ⟨G,δ,g0,s0,o⟩=>by
  refine⟨G,δ,g0,s0, ?_⟩;unfold om at o;cases e1:f δ with
  |ok w=>
   rw[e1]at o;simp only[R.aI]at o;refine WP.intro λv G' H' st r=> ?_;revert r o;cases w.d with
   |lst ds=>
    intro o r;cases r with
    |lst h r=>exact .inl ⟨_,rfl,⟨_,st.gh.seq h⟩,o _ G' H' st (Hj h r)⟩
   |str z=>
    intro o r;cases r;exact .inr ⟨z,rfl,o _ G' H' st (Hi z)⟩
   |_=>intro o _;exact False.elim o
  |ex x=>rw[e1]at o;exact o
  |no=>rw[e1]at o;exact o
end
def C3(i j c:Int):Prop:=0<=i/\i.natAbs < 1073741824/\j.natAbs < 1073741824/\0 < c/\c.natAbs < 1073741824
instance (i j c:Int):Decidable (C3 i j c):=by unfold C3;exact inferInstance
section
variable{X:Cx}{EX:Ax}{tg a b c:Expr}{fa:FA}{ta:TA}{p pos:Pos}
end
section
variable{X:Cx}{EX:Ax}{a:Expr}{f:FE}{pos:Pos}
def PK:D->R W
 | .int i=> .ok (.sh (.int (-i)))
 |_=> .no
def vt(f:FE):FE:=λ δ=>(f δ).bind λw=>PK w.d
def EY(ha:ED X EX a f):ED X EX (.UnaryOp .USub a pos) (vt f):=
 PE.imp (QQ RZ ha) λ σ H Q ⟨G,δ,g0,s0,o⟩=>tD.seq g0 s0 o λw v G1 H1 _ bM r1 o1=>by
  revert r1 o1;cases w.d with
  |int i=>intro r1 o1;cases r1;exact⟨i,rfl,Cz o1 bM.gh (.int _)⟩
  |_=>intro _ o1;exact False.elim o1
def lM:List D->Option (List Bool)
 | []=>some []
 | .bl b::ds=>(lM ds).map (b:: ·)
 |_=>none
def oO:List D->R W
 | [.lst ds]=>match lM ds with
  |some bs=> .ok (.sh (.bl (bs.all id)))
  |none=> .no
 |_=> .no
theorem Il{G:Hp}:∀{vs:List V} {ds:List D} {us:List Value} {bs:List Bool},aC K G vs ds->Vals vs us->lM ds=some bs->us=bs.map Value.bool
 |_,_,_,_,.nil,r,e=>by cases r;cases e;rfl
 |_,_,_,_,.cons h t,r,e=>by
  cases r with
  |cons r1 r2=>
   cases h with
   |bl x=>
    cases r1;simp only[lM]at e;obtain⟨zs,q,rfl⟩:=E8.mp e;rw[B3,Il t r2 q]
   |_=>cases e
def Xo(bs:List Bool):(List.range bs.length).all (λi=>bs.getD i true)=bs.all id:=by
 rw[O9,F8,F8];constructor
 ·intro h b hb;obtain⟨i,hi,e⟩:=List.getElem_of_mem hb;have:=h i (N5.mpr hi);simp[hi]at this;rw[<-e];exact this
 ·intro h i hi;have hi:=N5.mp hi;simp[hi];exact h _ (OR hi)
def Xm(hc:X.calm=true):Et X (.builtin "all") oO:=by
 intro zc s σ H vs us Q I rv q;obtain⟨EX,G,ds,g,r,o⟩:=q;cases r with
 |nil=>exact False.elim o
 |cons h t=>
  cases t with
  |cons _ _=>cases h <;> exact False.elim o
  |nil=>
   cases h with
   |lst h r=>
    rename_i l _ _;simp only[oO]at o
    split at o
    ·rename_i bs e;obtain⟨u,rfl,ru⟩:=rv.one;cases ru;obtain⟨its,eW,pl,hz⟩:=I.list (g.seq h);have eb:=Il r eW e;subst eb;have nl:l≠s.heap.objs.size:=λz=>by
      obtain⟨o',ho,_⟩:=pl.isList;exact absurd (A6 ho) (by rw[<-z];exact F3 _)
     refine call_all_walk (Z9 pl.isList ⟨s.heap.objs.size,_,_,_,_,_,λi=>bs.getD i true,rfl,Walks.list (A:=X.A.in1) (I.ok.hd hc) s.heap.objs.size l nl (bs.map Value.bool).toArray,⟨⟨_,C1 _ rfl,rfl,rfl⟩, ?_⟩,λi v s' Q' E' hP hQ=> ?_,λh' tk kk=> ?_⟩)
     ·exact pl.isList.at λo z=>A4 _ z
     ·have BP:(bs.map Value.bool)[i]? =some v:=by simpa using hP
      rw[A9]at BP;cases q:bs[i]? with
      |none=>rw[q]at BP;cases BP
      |some b=>
       rw[q]at BP;cases BP;have:bs.getD i true=b:=by simp[List.getD,q]
       dsimp only at hQ;rw[this]at hQ;exact N6 hQ
     ·have en:(bs.map Value.bool).toArray.size=bs.length:=by simp
      rw[en,Xo];refine⟨.bl _,H,I.kept (t':=tk) λb o' z=>kk b o' (by
       have hb:b≠s.heap.objs.size:=D8 (A6 z);simpa using hb) (A4 _ z),rfl,Cz o g (.bl _)⟩
    ·exact o.elim
   |_=>exact False.elim o
def lL:D->List D->R W
 | .str x,[.str y]=>match Builtin.Str.occurrences x y 0 x.length 1 with
  |i::_=> .ok (.sh (.int (i:Nat)))
  | []=> .no
 |_,_=> .no
def Xl:OZ X "str.index" lL:=by
 intro zc s σ H x vs v us Q I rx rv h;obtain⟨EX,G,d,ds,g,r,rl,o⟩:=h;refine Hm r rl (λx y e1 e2 e3 e4=> ?_) λn=> ?_
 ·subst e1 e2 e3 e4;obtain⟨t,rfl⟩:=rx;obtain⟨u,rfl,t',rfl⟩:=rv.one;simp only[lL]at o
  split at o
  ·rename_i i Cu e;exact SC.index e ⟨.int _,H,I.tok _,⟨_,rfl⟩,Cz o g (.int _)⟩
  ·exact o.elim
 ·have e:lL d ds=.no:=by
   unfold lL
   split
   ·rename_i x y;exact absurd ⟨rfl,rfl⟩ (n x y)
   ·rfl
  rw[e]at o;exact o.elim
end
section
variable{prog:Program}{w:World}{A:Around}{E:AA}{s:Shared}
def aal{env:Env}{elts:List Expr}{x1}{t:Addr}{items:Array Value}{Q:Unit->Shared->Prop}(hh:A.handled=none)(ht:s.heap.IsList t items)
  (hn:(assignEach elts env).length=items.size) (cg:(assignEach elts env).findIdx? (·.1)=none)
  (h:∀h',Heap.ExtBut s.heap.objs.size s.heap h'->wpAny (model prog w) A (assignInOrder ((assignEach elts env).map (·.2)) items.toList) Q E {s with heap:=h'}):
  wpAny (model prog w) A (assign (.Tuple elts x1 pos) env (.ref t)) Q E s:=by
 rw[assign_Tuple,unpack,hn,cg];exact A5 (S4 (A5 (S3 (kun_itemsOf hh ht h))))
end
section
variable{X:Cx}{EX:Ax}{pos:Pos}
def Qb(K:Frag)(n:Nat)(t:qe):TG:=λv σ H Q=>∃a xs,v=.ref a/\(dD K H a xs\/cF K H a xs)/\xs.length=n/\t xs σ H Q
def vO{es:List Expr}{k:Nat}{t:qe}{n:Nat}(hc:X.calm=true)(h:qH X es t)
  (hn:(assignEach es X.env).length=n:=by rfl) (cA:(assignEach es X.env).findIdx? (·.1)=none:=by rfl):PG X (.Tuple es k pos) (Qb X.K n t):=by
 intro zc s σ H v u Q I r hw;obtain⟨a,xs,e1,hq,hl,hw⟩:=hw;rcases hq with hq|hq
 ·exact wc hc h hn cA zc s σ H v u Q I r ⟨a,xs,e1,hq,hl,hw⟩
 ·subst e1;cases r;obtain⟨its,rv,ht,hz⟩:=I.list hq;refine aal (I.ok.hd hc) ht.isList (by simp[hn,<-hl,rv.length]) cA λh' hx=> ?_;have I1:Inv X zc σ H {s with heap:=h'}:=I.kept (t':=s.toks) λb o e=>hx b o (D8 (A6 e)) e;exact h zc _ σ H xs _ Q I1 (by simpa using rv) hw
def aU.skip{G:Hp}{σ:Sg}{δ:DE}{i:Nat}(h:aU K G σ δ)(e:δ[i]? =some none):aU K G (σ.set i (some v)) δ:=by
 refine⟨by rw[F9];exact h.len,λj d' e'=> ?_⟩;obtain⟨v',e1,r'⟩:=h.get j d' e';refine⟨v', ?_,r'⟩;rw[C4]
 ·exact e1
 ·rintro rfl
  rw[e]at e';cases e'
def zu(i j:Nat):gE:=λd δ=>match d with
 | .tup [a,b]=>(gC i a δ).bind λ δ1=>gC j b δ1
 | .lst [a,b]=>(gC i a δ).bind λ δ1=>gC j b δ1
 |_=> .no
def Mt(i j l:Nat):gE:=λd δ=>match d with
 | .tup [a,b,c]=>(gC i a δ).bind λ δ1=>(gC j b δ1).bind λ δ2=>gC l c δ2
 | .lst [a,b,c]=>(gC i a δ).bind λ δ1=>(gC j b δ1).bind λ δ2=>gC l c δ2
 |_=> .no
def ph(i:Nat)(d:D)(δ:DE):(δ[i]? =some none/\gC i d δ=.ok (δ.set i (some d)))\/gC i d δ=.no:=by
 unfold gC;cases e:δ[i]? with
 |none=>exact .inr rfl
 |some o=>
  cases o with
  |some _=>exact .inr rfl
  |none=>exact .inl ⟨rfl,rfl⟩
def sx{δ:DE}{i j:Nat}{d:D}(h:(δ.set i (some d))[j]? =some none):δ[j]? =some none:=by
 rcases Fa h with⟨_,q⟩|⟨_,q⟩
 ·cases q
 ·exact q
def Hg{G:Hp}{σ:Sg}{δ:DE}{i j l:Nat}{v1 v2 v3:V}{a b c:D}{Q:Sg->Hp->Prop}(s:aU K G σ δ)(r1:aM K G v1 a)(r2:aM K G v2 b)(r3:aM K G v3 c)
  (q:match(gC i a δ).bind λ δ1=>(gC j b δ1).bind λ δ2=>gC l c δ2 with| .ok δ'=>∀σ',aU K G σ' δ'->aU K G σ' δ->Q σ' H| .ex x=>(EX σ).p x G H| .no=>False):Q (((σ.set i (some v1)).set j (some v2)).set l (some v3)) H:=by
 rcases ph i a δ with⟨n1,e1⟩|e1
 ·rw[e1]at q;simp only[R.aI]at q;rcases ph j b (δ.set i (some a)) with⟨n2,e2⟩|e2
  ·rw[e2]at q;simp only[R.aI]at q;rcases ph l c ((δ.set i (some a)).set j (some b)) with⟨n3,e3⟩|e3
   ·rw[e3]at q;exact q _ (((s.put r1 i).put r2 j).put r3 l) (((s.skip n1).skip (sx n2)).skip (sx (sx n3)))
   ·rw[e3]at q;exact q.elim
  ·rw[e2]at q;exact q.elim
 ·rw[e1]at q;exact q.elim
def DN{G:Hp}{σ:Sg}{δ:DE}{i j:Nat}{v1 v2:V}{a b:D}{Q:Sg->Hp->Prop}(s:aU K G σ δ)(r1:aM K G v1 a)(r2:aM K G v2 b)
  (q:match(gC i a δ).bind λ δ1=>gC j b δ1 with| .ok δ'=>∀σ',aU K G σ' δ'->aU K G σ' δ->Q σ' H| .ex x=>(EX σ).p x G H| .no=>False):Q ((σ.set i (some v1)).set j (some v2)) H:=by
 rcases ph i a δ with⟨n1,e1⟩|e1
 ·rw[e1]at q;simp only[R.aI]at q;rcases ph j b (δ.set i (some a)) with⟨n2,e2⟩|e2
  ·rw[e2]at q;exact q _ ((s.put r1 i).put r2 j) ((s.skip n1).skip (sx n2))
  ·rw[e2]at q;exact q.elim
 ·rw[e1]at q;exact q.elim
def VW{i j l k:Nat}{x y z:Str}{p1 p2 p3:Pos}(hc:X.calm=true)(hN:X.N.Nodup)(hi:X.N[i]? =some x:=by rfl)(hj:X.N[j]? =some y:=by rfl)(hl:X.N[l]? =some z:=by rfl)(hx:Ga X.env.scope x:=by trivial)(hy:Ga X.env.scope y:=by trivial)(hz:Ga X.env.scope z:=by trivial)
  (hf:X.fn x=true\/X.env.scope.names.lookup x=some .local:=by trivial) (uP:X.fn y=true\/X.env.scope.names.lookup y=some .local:=by trivial) (hf3:X.fn z=true\/X.env.scope.names.lookup z=some .local:=by trivial)
  (hn:(assignEach [.Name x p1,.Name y p2,.Name z p3] X.env).length=3:=by rfl) (cA:(assignEach [.Name x p1,.Name y p2,.Name z p3] X.env).findIdx? (·.1)=none:=by rfl)
  (hs:(assignEach [.Name x p1,.Name y p2,.Name z p3] X.env).map (·.2)=assign (.Name x p1) X.env::(assignEach [.Name y p2,.Name z p3] X.env).map (·.2):=by rfl) (eN:(assignEach [.Name y p2,.Name z p3] X.env).map (·.2)=assign (.Name y p2) X.env::(assignEach [.Name z p3] X.env).map (·.2):=by rfl) (hs3:(assignEach [.Name z p3] X.env).map (·.2)=assign (.Name z p3) X.env::(assignEach [] X.env).map (·.2):=by rfl):
  GC X EX (.Tuple [.Name x p1,.Name y p2,.Name z p3] k pos) (Mt i j l):=
 PG.imp (vO hc (pV (mF hN hi hx hf) (pV (mF hN hj hy uP) (pV (mF hN hl hz hf3) oY hs3) eN) hs) hn cA) λv σ H Q ⟨G,δ,d,g,s,r,q⟩=>by
  cases r with
  |tup h r=>
   cases r with
   |nil=>exact False.elim q
   |cons r1 r=>
    cases r with
    |nil=>exact False.elim q
    |cons r2 r=>
     cases r with
     |nil=>exact False.elim q
     |cons r3 r=>
      cases r with
      |nil=>exact⟨_,_,rfl,.inl (aB.tupS g h),rfl,_,_,rfl,_,_,rfl,_,_,rfl,rfl,Hg s r1 r2 r3 q⟩
      |cons _ _=>exact False.elim q
  |lst h r=>
   cases r with
   |nil=>exact False.elim q
   |cons r1 r=>
    cases r with
    |nil=>exact False.elim q
    |cons r2 r=>
     cases r with
     |nil=>exact False.elim q
     |cons r3 r=>
      cases r with
      |nil=>exact⟨_,_,rfl,.inr (g.seq h),rfl,_,_,rfl,_,_,rfl,_,_,rfl,rfl,Hg s r1 r2 r3 q⟩
      |cons _ _=>exact False.elim q
  |_=>exact False.elim q
def EV{i j k:Nat}{x y:Str}{p1 p2:Pos}(hc:X.calm=true)(hN:X.N.Nodup)(hi:X.N[i]? =some x:=by rfl)(hj:X.N[j]? =some y:=by rfl)(hx:Ga X.env.scope x:=by trivial)(hy:Ga X.env.scope y:=by trivial)
  (hf:X.fn x=true\/X.env.scope.names.lookup x=some .local:=by trivial) (uP:X.fn y=true\/X.env.scope.names.lookup y=some .local:=by trivial)
  (hn:(assignEach [.Name x p1,.Name y p2] X.env).length=2:=by rfl) (cA:(assignEach [.Name x p1,.Name y p2] X.env).findIdx? (·.1)=none:=by rfl)
  (hs:(assignEach [.Name x p1,.Name y p2] X.env).map (·.2)=assign (.Name x p1) X.env::(assignEach [.Name y p2] X.env).map (·.2):=by rfl) (eN:(assignEach [.Name y p2] X.env).map (·.2)=assign (.Name y p2) X.env::(assignEach [] X.env).map (·.2):=by rfl):
  GC X EX (.Tuple [.Name x p1,.Name y p2] k pos) (zu i j):=
 PG.imp (vO hc (pV (mF hN hi hx hf) (pV (mF hN hj hy uP) oY eN) hs) hn cA) λv σ H Q ⟨G,δ,d,g,s,r,q⟩=>by
  cases r with
  |tup h r=>
   cases r with
   |nil=>exact False.elim q
   |cons r1 r=>
    cases r with
    |nil=>exact False.elim q
    |cons r2 r=>
     cases r with
     |nil=>exact⟨_,_,rfl,.inl (aB.tupS g h),rfl,_,_,rfl,_,_,rfl,rfl,DN s r1 r2 q⟩
     |cons _ _=>exact False.elim q
  |lst h r=>
   cases r with
   |nil=>exact False.elim q
   |cons r1 r=>
    cases r with
    |nil=>exact False.elim q
    |cons r2 r=>
     cases r with
     |nil=>exact⟨_,_,rfl,.inr (g.seq h),rfl,_,_,rfl,_,_,rfl,rfl,DN s r1 r2 q⟩
     |cons _ _=>exact False.elim q
  |_=>exact False.elim q
end
section
variable{X:Cx}{EX:Ax}
noncomputable def nJ:D->Bool
 | .aK=>true
 |_=>false
def gX(neg:Bool):D->D->R W
 |d,.aK=> .ok (.sh (.bl (if neg then !nJ d else nJ d)))
 |_,_=> .no
def EU{G:Hp}{d:D}(r:aM K G v d):decide (v=.aK)=nJ d:=by
 cases r <;> rfl
def Hf:Ee X (compareOp .Is) (gX false):=by
 intro zc s σ H x y v u Q I rx ry q;obtain⟨EX,G,a,b,g,ra,rb,o⟩:=q;cases rb with
 |aK=>exact RY zc s σ H _ _ _ _ Q I rx ry ⟨rfl,by rw[EU ra];exact Cz o g (.bl _)⟩
 |_=>exact False.elim o
def Ik:Ee X (compareOp .IsNot) (gX true):=by
 intro zc s σ H x y v u Q I rx ry q;obtain⟨EX,G,a,b,g,ra,rb,o⟩:=q;cases rb with
 |aK=>exact UM zc s σ H _ _ _ _ Q I rx ry ⟨rfl,by rw[EU ra];exact Cz o g (.bl _)⟩
 |_=>exact False.elim o
end
section
variable{X:Cx}{EX:Ax}{tg a b:Expr}{f g:FE}{fa:FA}{p pos:Pos}
theorem aC.rep{G:Hp}{vs:List V}{ds:List D}(r:aC K G vs ds):∀n:Nat,aC K G (List.replicate n vs).flatten (List.replicate n ds).flatten
 |0=> .nil
 |n + 1=>by rw[L9,L9,P2,P2];exact r.append (aC.rep r n)
def qM(ds:List D):D->R W
 | .int k=>if k.natAbs < 4611686018427387904/\ds.length * k.toNat<=16777216 then .ok (.ow (.lst (List.replicate k.toNat ds).flatten)) else .no
 |_=> .no
def qP(fa:FA)(f:FE):FE:=λ δ=>(fa δ).bind λds=>if ds.length<=16777216 then(f δ).bind λw=>qM ds w.d else .no
def RC{es:List Expr}{du:Pos}(ha:AD X EX es fa)(hb:ED X EX b f):ED X EX (.BinOp (.List es du) .Mult b pos) (qP fa f):=
 PE.imp (DS RP (vX ha) hb) λ σ H Q ⟨G,δ,g0,s0,o⟩=>gv.seq g0 s0 o λds vs G' H' _ st r o'=>by
  split at o'
  ·rename_i hz;refine⟨by rw[r.length,D9];exact hz,λq hq=> ?_⟩;have so:=Step.own st.gh hq (.lst vs);refine tD.seq so.gh (s0.mono st.gg) (Out.mono so o') λw v G2 H2 _ aT r2 o2=> ?_;revert r2 o2;cases w.d with
   |int k=>
    intro r2 o2;cases r2;simp only[qM]at o2
    split at o2
    ·rename_i hk;exact⟨q,k,vs,rfl,rfl,aT.hh _ _ Bf,by have:=hk.1;lia,by have:=hk.1;lia,by rw[r.length,D9];exact hk.2,sZ o2 aT.gh ((r.mono aT.gg).rep k.toNat)⟩
    ·exact o2.elim
   |_=>intro _ o2;exact False.elim o2
  ·exact o'.elim
def kE:List D->Option (List Int)
 | []=>some []
 | .int i::ds=>(kE ds).map (i:: ·)
 |_=>none
def nI:List D->R W
 | [.lst ds]=>match kE ds with
  |some is=> .ok (.sh (.int is.sum))
  |none=> .no
 |_=> .no
theorem He{G:Hp}:∀{vs:List V} {ds:List D} {us:List Value} {is:List Int},aC K G vs ds->Vals vs us->kE ds=some is->us.length=is.length/\∀(j:Nat) (v:Value),us[j]? =some v->∃t,v=.int (is.getD j 0) t
 |_,_,_,_,.nil,r,e=>by cases r;cases e;exact⟨rfl,λj v h=>by simp at h⟩
 |_,_,_,_,.cons h t,r,e=>by
  cases r with
  |cons r1 r2=>
   cases h with
   |int x=>
    obtain⟨tk,rfl⟩:=r1;simp only[kE]at e;obtain⟨zs,q,rfl⟩:=E8.mp e;obtain⟨h1,h2⟩:=He t r2 q;refine⟨by simp[h1],λj v hj=> ?_⟩;cases j with
    |zero=>simp at hj;subst hj;exact⟨tk,rfl⟩
    |succ j=>
     obtain⟨t',e'⟩:=h2 j v (by simpa using hj);exact⟨t',by rw[e'];simp⟩
   |_=>cases e
theorem Ku(is:List Int):∀j,preSum (λi=>is.getD i 0) j=(is.take j).sum
 |0=>by simp[preSum]
 |j + 1=>by rw[preSum,Ku is j,PySem.sum_take_succ]
def Xk(hc:X.calm=true):Et X (.builtin "sum") nI:=by
 intro zc s σ H vs us Q I rv q;obtain⟨EX,G,ds,g,r,o⟩:=q;cases r with
 |nil=>exact False.elim o
 |cons h t=>
  cases t with
  |cons _ _=>cases h <;> exact False.elim o
  |nil=>
   cases h with
   |lst h r=>
    rename_i l _ _;simp only[nI]at o
    split at o
    ·rename_i is e;obtain⟨u,rfl,ru⟩:=rv.one;cases ru;obtain⟨its,eW,pl,hz⟩:=I.list (g.seq h);obtain⟨el,ev⟩:=He r eW e;have nl:l≠s.heap.objs.size:=λz=>by
      obtain⟨o',ho,_⟩:=pl.isList;exact absurd (A6 ho) (by rw[<-z];exact F3 _)
     have ll:l < s.heap.objs.size:=by
      obtain⟨o',ho,_⟩:=pl.isList;exact A6 ho
     refine call_sum_walkAnyS (Z9 pl.isList ⟨s.heap.objs.size,_,_,_,_,_,_,λi=>is.getD i 0,rfl,(Walks.list (A:=X.A.in1) (I.ok.hd hc) s.heap.objs.size l nl its.toArray).toS,⟨⟨_,C1 _ rfl,rfl,rfl⟩, ?_⟩,λb hb=> ?_,λi v hP=>ev i v (by simpa using hP),λs' t' mv=> ?_⟩)
     ·exact pl.isList.at λo z=>A4 _ z
     ·rw[N8];have cO:b=s.heap.objs.size\/b=l:=by simpa using hb
      rcases cO with rfl|rfl
      ·exact T9 _
      ·exact S9 ll
     ·have en:its.toArray.size=is.length:=by simp[el]
      rw[en,Ku,U1];obtain⟨m1,m2,m3,m4,m5⟩:=mv;have e':s'={s with heap:=s'.heap,toks:=s'.toks}:=by
       cases s';simp only at m2 m3 m4;subst m2 m3 m4;rfl
      rw[e'];refine⟨.int _,H,I.kept (t':=s'.toks) λb o' z=>m1 b o' (by
       have hb:b≠s.heap.objs.size:=D8 (A6 z);simpa using hb) (A4 _ z),⟨t',rfl⟩,Cz o g (.int _)⟩
    ·exact o.elim
   |_=>exact False.elim o
def gP(i j:Nat):FG:=λd Δ=>match d with
 | .tup [a,b]=> .ok ((Δ.set i (.sh a)).set j (.sh b))
 | .lst [a,b]=> .ok ((Δ.set i (.sh a)).set j (.sh b))
 |_=> .no
def wG{i j k:Nat}{x y:Str}{p1 p2:Pos}(hc:X.calm=true)(hN:X.N.Nodup)(hi:X.N[i]? =some x:=by rfl)(hj:X.N[j]? =some y:=by rfl)(hx:Ga X.env.scope x:=by trivial)(hy:Ga X.env.scope y:=by trivial)
  (hf:X.fn x=true\/X.env.scope.names.lookup x=some .local:=by trivial) (uP:X.fn y=true\/X.env.scope.names.lookup y=some .local:=by trivial)
  (hn:(assignEach [.Name x p1,.Name y p2] X.env).length=2:=by rfl) (cA:(assignEach [.Name x p1,.Name y p2] X.env).findIdx? (·.1)=none:=by rfl)
  (hs:(assignEach [.Name x p1,.Name y p2] X.env).map (·.2)=assign (.Name x p1) X.env::(assignEach [.Name y p2] X.env).map (·.2):=by rfl) (eN:(assignEach [.Name y p2] X.env).map (·.2)=assign (.Name y p2) X.env::(assignEach [] X.env).map (·.2):=by rfl):
  GD X EX (.Tuple [.Name x p1,.Name y p2] k pos) (gP i j):=
 PG.imp (vO hc (pV (mF hN hi hx hf) (pV (mF hN hj hy uP) oY eN) hs) hn cA) λv σ H Q ⟨H0,G0,G,Δ,O,d,E,r,q⟩=>by
  cases r with
  |tup h r=>
   cases r with
   |nil=>exact False.elim q
   |cons r1 r=>
    cases r with
    |nil=>exact False.elim q
    |cons r2 r=>
     cases r with
     |nil=>exact⟨_,_,rfl,.inl (aB.tupS E.st.gh h),rfl,_,_,rfl,_,_,rfl,rfl,q _ G H O ((E.put r1).put r2) (aB.refl _)⟩
     |cons _ _=>exact False.elim q
  |lst h r=>
   cases r with
   |nil=>exact False.elim q
   |cons r1 r=>
    cases r with
    |nil=>exact False.elim q
    |cons r2 r=>
     cases r with
     |nil=>exact⟨_,_,rfl,.inr (E.st.gh.seq h),rfl,_,_,rfl,_,_,rfl,rfl,q _ G H O ((E.put r1).put r2) (aB.refl _)⟩
     |cons _ _=>exact False.elim q
  |_=>exact False.elim q
def Fu(fg:FG)(js:List Nat)(f:FE):FS:=λ Δ=>match f (At (aD js Δ)) with
 | .ok w=>(match fg w.d (aD js Δ) with
  | .ok Δ'=> .nx Δ'
  |_=> .no)
 | .ex x=> .ex x (aD js Δ)
 | .no=> .no
def rA{fg:FG}(js:List Nat){e tg:Expr}(he:ED X EX e f)(hg:GD X EX tg fg)(hs:swapsWithSole [tg] e pos.line X.env=pure false:=by rfl)(hw:swappedStores [tg] e X.env=pure none:=by rfl)
  (h1:(assignEach [tg] X.env).map (·.2)= [assign tg X.env]:=by rfl):SD X EX (.Assign [tg] e pos) (Fu fg js f):=
 PS.imp (FJ he hg hs hw h1) λD σ H ⟨H0,G0,G,Δ,O,E,q⟩=>by
  obtain⟨G1,O1,sg,E1⟩:=E.aD js;unfold Fu at q;refine⟨G1,At (aD js Δ),E1.st.gh,E1.dU, ?_⟩;cases e1:f (At (aD js Δ)) with
  |ok w=>
   simp only[e1]at q;refine WP.intro λv G' H' st r=>⟨H0,G0,G',aD js Δ,O1,w.d,E1.grow st,r, ?_⟩;cases e2:fg w.d (aD js Δ) with
   |ok Δ'=>simp only[e2]at q;exact λ σ' G2 H2 O2 E2 s2=>q σ' G2 H2 O2 E2 (sg.trans (st.gg.trans s2))
   |ex x=>simp only[e2]at q;exact q.elim
   |no=>simp only[e2]at q;exact q.elim
  |ex x=>simp only[e1]at q;exact q σ G1 H O1 E1 sg
  |no=>simp only[e1]at q;exact q.elim
end
@[elab_as_elim] theorem lK{P:List Value->Prop}{us:List Value}{n:Nat}(h:us.length=n)(k:∀y:Nat->Value,P ((List.range n).map y)):P us:=by
 have e:us=(List.range n).map λi=>us.getD i .none:=by
  apply S8;intro i;rw[A9]
  by_cases hi:i < n
  ·rw[U4 hi,M3,K8,A8 ()];rfl
  ·rw[K0 (),K0 (by rw[Q5];lia)];rfl
 rw[e];exact k _
section
variable{K:Frag}{x qual:Str}{st:Stmt}{f:Addr}{fd:FuncData}{ps:List Str}
def bC.yw(F:bC K x qual st f fd)(hl:ps.length=1:=by rfl)(h:∀(kV doc pm:Value) (an:Option Addr) (zp ct a:Value),bindArgs (fnOf x qual (iR st) (Ft st) (Cc st) .none kV doc pm an zp ct) ⟨[a],[]⟩=pure (ps.zip [a]):=by intros;rfl):Binds K fd ps []:=
 F.binds λkV doc pm an zp ct us hu=>lK (hu.trans hl) λy=>h kV doc pm an zp ct (y 0)
def bC.yv(F:bC K x qual st f fd)(hl:ps.length=2:=by rfl)(h:∀(kV doc pm:Value) (an:Option Addr) (zp ct a b:Value),bindArgs (fnOf x qual (iR st) (Ft st) (Cc st) .none kV doc pm an zp ct) ⟨[a,b],[]⟩=pure (ps.zip [a,b]):=by intros;rfl):Binds K fd ps []:=
 F.binds λkV doc pm an zp ct us hu=>lK (hu.trans hl) λy=>h kV doc pm an zp ct (y 0) (y 1)
def bC.yu(F:bC K x qual st f fd)(hl:ps.length=3:=by rfl)(h:∀(kV doc pm:Value) (an:Option Addr) (zp ct a b c:Value),bindArgs (fnOf x qual (iR st) (Ft st) (Cc st) .none kV doc pm an zp ct) ⟨[a,b,c],[]⟩=pure (ps.zip [a,b,c]):=by intros;rfl):Binds K fd ps []:=
 F.binds λkV doc pm an zp ct us hu=>lK (hu.trans hl) λy=>h kV doc pm an zp ct (y 0) (y 1) (y 2)
def bC.yt(F:bC K x qual st f fd)(hl:ps.length=4:=by rfl)(h:∀(kV doc pm:Value) (an:Option Addr) (zp ct a b c d:Value),bindArgs (fnOf x qual (iR st) (Ft st) (Cc st) .none kV doc pm an zp ct) ⟨[a,b,c,d],[]⟩=pure (ps.zip [a,b,c,d]):=by intros;rfl):Binds K fd ps []:=
 F.binds λkV doc pm an zp ct us hu=>lK (hu.trans hl) λy=>h kV doc pm an zp ct (y 0) (y 1) (y 2) (y 3)
def bC.yr(F:bC K x qual st f fd)(hl:ps.length=5:=by rfl)(h:∀(kV doc pm:Value) (an:Option Addr) (zp ct a b c d e:Value),bindArgs (fnOf x qual (iR st) (Ft st) (Cc st) .none kV doc pm an zp ct) ⟨[a,b,c,d,e],[]⟩=pure (ps.zip [a,b,c,d,e]):=by intros;rfl):Binds K fd ps []:=
 F.binds λkV doc pm an zp ct us hu=>lK (hu.trans hl) λy=>h kV doc pm an zp ct (y 0) (y 1) (y 2) (y 3) (y 4)
def bC.yq(F:bC K x qual st f fd)(hl:ps.length=6:=by rfl)(h:∀(kV doc pm:Value) (an:Option Addr) (zp ct a b c d e g:Value),bindArgs (fnOf x qual (iR st) (Ft st) (Cc st) .none kV doc pm an zp ct) ⟨[a,b,c,d,e,g],[]⟩=pure (ps.zip [a,b,c,d,e,g]):=by intros;rfl):Binds K fd ps []:=
 F.binds λkV doc pm an zp ct us hu=>lK (hu.trans hl) λy=>h kV doc pm an zp ct (y 0) (y 1) (y 2) (y 3) (y 4) (y 5)
end
structure aaz(z TI TO i1 i2:Addr):Prop where
 TIz:TI≠z
 TOz:TO≠z
 i1z:i1≠z
 i2z:i2≠z
 TITO:TI≠TO
 TIi1:TI≠i1
 TIi2:TI≠i2
 TOi1:TO≠i1
 TOi2:TO≠i2
 i12:i1≠i2
section
variable{X:Cx}{EX:Ax}{a b:Expr}{fa:FA}{elts:List Expr}{x1:Nat}{tp p pos:Pos}
end
def met(is:List Int):List Int:=PyProof.Rows.firstMet (λi=>is.getD i 0) is.length
def wF:D->R W
 | .lst ds=>match kE ds with
  |some is=>if is.length<=4000 then .ok (.sh (.int (met is).length)) else .no
  |none=> .no
 |_=> .no
def oU(f:FE):FE:=λ δ=>(f δ).bind λw=>wF w.d
theorem xm{G:Hp}:∀{vs:List V} {ds:List D} {us:List Value} {is:List Int},aC K G vs ds->Vals vs us->kE ds=some is->IntsAre us is
 |_,_,_,_,.nil,r,e=>by cases r;cases e;exact .nil
 |_,_,_,_,.cons h t,r,e=>by
  cases r with
  |cons r1 r2=>
   cases h with
   |int x=>
    obtain⟨tk,rfl⟩:=r1;simp only[kE]at e;obtain⟨zs,q,rfl⟩:=E8.mp e;exact .cons x tk (xm t r2 q)
   |_=>cases e
section
variable{X:Cx}{EX:Ax}{a:Expr}{f:FE}{p p' pos pos':Pos}
def Xj(hc:X.calm=true)(hml:X.mg "len" =none)(hm:X.mg "set" =none)(ha:ED X EX a f)(NQ:Gl X "len" :=by rfl)(hg:Gl X "set" :=by rfl)
  (hs:starEach [a] X.env=(false,eval a X.env)::starEach [] X.env:=by rfl)
  (eN:starEach [.Call (.Name "set" p') [a] [] pos'] X.env=(false,eval (.Call (.Name "set" p') [a] [] pos') X.env)::starEach [] X.env:=by rfl) (bZ:(backTo pos (starEach [] X.env)).any (·.1)=false:=by rfl) (fq:(backTo pos' (starEach [] X.env)).any (·.1)=false:=by rfl):
  ED X EX (.Call (.Name "len" p) [.Call (.Name "set" p') [a] [] pos'] [] pos) (oU f):=by
 intro zc s σ H Q I q;obtain⟨G,δ,g0,s0,o⟩:=q;refine Call_ (fU I NQ hml G6 (W7 ?_ eN bZ));rw[eN];show wpAny _ _ (spliced ((false,eval (.Call (.Name "set" p') [a] [] pos') X.env)::backTo pos (starEach [] X.env))) _ _ s;refine M9 ?_;refine Call_ (fU I hg hm PyProof.Rows.boot_set (N4 ?_ hs fq));rw[hs];show wpAny _ _ (spliced ((false,eval a X.env)::backTo pos' (starEach [] X.env))) _ _ s;refine M9 (Ay (ha zc s σ H _ I (tD.seq g0 s0 o (P:=λv H1=>∃l ds vs is G1,aB G1 H1/\v=.ref l/\cF X.K G1 l vs/\aC X.K G1 vs ds/\kE ds=some is/\is.length<=4000/\Out X.K (EX σ) G1 H1 (.ok (.sh (.int (met is).length))) Q) λw v G' H' _ st r o'=> ?_)) λu s1 ⟨v,H1,I1,r1,q1⟩=>Q4 ?_)
 ·revert r o';cases w.d with
  |lst ds=>
   intro r o';cases r with
   |lst h r=>
    simp only[wF]at o'
    split at o'
    ·rename_i is e
     split at o'
     ·rename_i hl;exact⟨_,ds,_,is,G',st.gh,rfl,h,r,e,hl,o'⟩
     ·exact o'.elim
    ·exact o'.elim
  |_=>intro _ o';exact False.elim o'
 ·obtain⟨l,ds,vs,is,G1,sg,rfl,hq,r,e,hl,o'⟩:=q1;cases r1;obtain⟨its,rv,pl,hz⟩:=I1.list (sg.seq hq);have ia:=xm r rv e;have il:its.length=is.length:=ia.length;refine PySem.call_set_list (ns:=is) (I1.ok.hd hc) pl.isList (by simpa using ia) (by rw[D6,il];show is.length + 1 < 4096;lia) λh' tk so kk=> ?_;refine Q4 ?_;obtain⟨ob,es,ep,t,ho,hex,hd,_,_,hb,hf,hn⟩:=so;have cO:es.size < 4096:=hb;refine PySem.call_len_set ho hex hd hf () ?_;rw[hn,D6,il];exact⟨.int _,H1,I1.kept (t':=_) λb ob hbo=>kk b ob (A6 hbo) hbo,⟨_,rfl⟩,Cz o' sg (.int _)⟩
end
noncomputable def Ea:D->Option Ae
 | .int i=>some (.inl i)
 | .str x=>some (.inr x)
 |_=>none
def mP{G:Hp}{d:D}{k:Ae}(r:aM K G v d)(e:Ea d=some k):v=kV k:=by
 cases r <;> first|(cases e;rfl)|cases e
section
variable{α:Type}
noncomputable def Bc(kvs:List (Ae×α))(k:Ae):Option α:=(kvs.find? λkv=>decide (kv.1=k)).map (·.2)
noncomputable def Df(kvs:List (Ae×α))(k:Ae)(v:α):List (Ae×α):=if(kvs.any λkv=>decide (kv.1=k))=true then kvs.map (λkv=>if kv.1=k then(kv.1,v) else kv) else kvs ++ [(k,v)]
noncomputable def Gd(kvs:List (Ae×α))(k:Ae):List (Ae×α):=kvs.filter λkv=>decide (kv.1≠k)
def Do(kvs:List (Ae×α))(k:Ae):Bool:=(Bc kvs k).isSome
end
def Hc(kvs:List (Ae×V))(k:Ae)(v:V):El kvs k v=Df kvs k v:=rfl
theorem jD{G:Hp}:∀{kvs:List (Ae×V)} {aA:List (Ae×D)} (k:Ae),kvs.map (·.1)=aA.map (·.1)->aC K G (kvs.map (·.2)) (aA.map (·.2))->(Co kvs k).isSome=Do aA k/\∀d,Bc aA k=some d->∃v,Co kvs k=some v/\aM K G v d
 | [],[],k,_,_=>⟨rfl,λd e=>by cases e⟩
 | [],_::_,k,e,_=>by simp at e
 |_::_,[],k,e,_=>by simp at e
 |(x,v)::kvs,(y,d)::aA,k,e,r=>by
  simp only[B3,R9]at e;obtain⟨e1,e2⟩:=e;subst e1;cases r with
  |cons h r=>
   obtain⟨i1,i2⟩:=jD (kvs:=kvs) (aA:=aA) k e2 r
   by_cases q:x=k
   ·have a1:Co ((x,v)::kvs) k=some v:=kQ q;have a2:Bc ((x,d)::aA) k=some d:=by unfold Bc;rw[R4 (by simpa using q)];rfl
    refine⟨by unfold Do;rw[a1,a2];rfl,λd' e'=> ?_⟩;rw[a2]at e';cases e';exact⟨v,a1,h⟩
   ·have a1:Co ((x,v)::kvs) k=Co kvs k:=jU q;have a2:Bc ((x,d)::aA) k=Bc aA k:=by unfold Bc;rw[R5 (by simpa using q)]
    refine⟨by unfold Do at i1⊢;rw[a1,a2];exact i1,λd' e'=> ?_⟩;rw[a2]at e';rw[a1];exact i2 d' e'
theorem Ij{α β:Type}:∀{kvs:List (Ae×α)} {aA:List (Ae×β)} (k:Ae),kvs.map (·.1)=aA.map (·.1)->(kvs.any λkv=>decide (kv.1=k))=aA.any λkv=>decide (kv.1=k)
 | [],[],_,_=>rfl
 | [],_::_,k,e=>by simp at e
 |_::_,[],k,e=>by simp at e
 |(x,v)::kvs,(y,d)::aA,k,e=>by
  simp only[B3,R9]at e;obtain⟨e1,e2⟩:=e;subst e1;rw[P0,P0,Ij k e2]
def wD{G:Hp}{kvs:List (Ae×V)}{aA:List (Ae×D)}(k:Ae){d:D}(e:kvs.map (·.1)=aA.map (·.1))(r:aC K G (kvs.map (·.2)) (aA.map (·.2)))(h:aM K G v d):
  (El kvs k v).map (·.1)=(Df aA k d).map (·.1)/\aC K G ((El kvs k v).map (·.2)) ((Df aA k d).map (·.2)):=by
 rw[Hc];unfold Df;rw[Ij k e]
 split
 ·have all:∀{kvs:List (Ae×V)} {aA:List (Ae×D)},kvs.map (·.1)=aA.map (·.1)->aC K G (kvs.map (·.2)) (aA.map (·.2))->
    (kvs.map (λkv=>if kv.1=k then(kv.1,v) else kv)).map (·.1)=(aA.map (λkv=>if kv.1=k then(kv.1,d) else kv)).map (·.1)/\aC K G ((kvs.map (λkv=>if kv.1=k then(kv.1,v) else kv)).map (·.2)) ((aA.map (λkv=>if kv.1=k then(kv.1,d) else kv)).map (·.2)):=by
   intro kvs
   induction kvs with
   |nil=>
    intro aA e r;cases aA with
    |nil=>exact⟨rfl,.nil⟩
    |cons _ _=>simp at e
   |cons p kvs ih=>
    intro aA e r;cases aA with
    |nil=>simp at e
    |cons q aA=>
     obtain⟨x,u⟩:=p;obtain⟨y,w⟩:=q;simp only[B3,R9]at e;obtain⟨e1,e2⟩:=e;subst e1;cases r with
     |cons h1 r=>
      obtain⟨i1,i2⟩:=ih e2 r;simp only[B3]
      by_cases z:x=k
      ·simp only[z,if_true];exact⟨by rw[i1],.cons h i2⟩
      ·simp only[z,P1];exact⟨by rw[i1],.cons h1 i2⟩
  exact all e r
 ·refine⟨by rw[F4,F4,e];rfl, ?_⟩;rw[F4,F4];exact r.append (.cons h .nil)
section
variable{X:Cx}{EX:Ax}{pos:Pos}
def fN:FE:=λ_=> .ok (.ow (.aE []))
def rS:ED X EX (.Dict [] [] pos) fN:=PE.imp Wj λ σ H Q ⟨G,δ,g,s,o⟩=>λp hp=>
 o (.ref p) (λb=>b=p) G _ (Step.own g hp _) (λa e=>by subst e;exact⟨hp,g.free hp,by rw[Bf];simp⟩) (.dict Bf rfl rfl .nil)
def Ew(neg:Bool):D->D->R W
 |d,.aE kvs=>match Ea d with
  |some k=> .ok (.sh (.bl (if neg then !Do kvs k else Do kvs k)))
  |none=> .no
 |_,_=> .no
def cV.rd{a:Addr}{kvs:List (Ae×V)}{k:Ae}(e:Rd H a (.dK kvs)):cV H a (kV k) (Co kvs k):=.inl ⟨kvs,k,e,rfl,rfl⟩
def ET(hu:X.A.units + 64 < cLine):Ee X (compareOp .In) (Ew false):=by
 intro zc s σ H x y v u Q I rx ry q;obtain⟨EX,G,a,b,g,ra,rb,o⟩:=q;cases rb with
 |aE h hk r=>
  simp only[Ew]at o
  split at o
  ·rename_i k ek;have ex:=mP ra ek;subst ex;cases ry;refine Wf () I (cV.rd (k:=k) (aB.jb g h)) rx λs' I'=>⟨.bl _,H,I',rfl, ?_⟩;rw[(jD k hk r).1];exact Cz o g (.bl _)
  ·exact o.elim
 |_=>exact False.elim o
def zK(hu:X.A.units + 64 < cLine):Ee X (compareOp .NotIn) (Ew true):=by
 intro zc s σ H x y v u Q I rx ry q;obtain⟨EX,G,a,b,g,ra,rb,o⟩:=q;cases rb with
 |aE h hk r=>
  simp only[Ew]at o
  split at o
  ·rename_i k ek;have ex:=mP ra ek;subst ex;cases ry;refine UB () I (cV.rd (k:=k) (aB.jb g h)) rx λs' I'=>⟨.bl _,H,I',rfl, ?_⟩;rw[(jD k hk r).1];exact Cz o g (.bl _)
  ·exact o.elim
 |_=>exact False.elim o
def Eo:D->D->R W
 | .aE kvs,d=>match Ea d with
  |some k=>(match Bc kvs k with
   |some x=> .ok (.sh x)
   |none=> .no)
  |none=> .no
 |_,_=> .no
def oS{o i:Expr}{f g:FE}(hu:X.A.units + 64 < cLine)(ho:ED X EX o f)(hi:ED X EX i g)(hs:yh i:=by intro _ _;rfl):ED X EX (.Subscript o i pos) (Ag Eo f g):=
 PE.imp (Uz () ho hi hs) λ σ H Q ⟨G,δ,g0,s0,o⟩=>tD.seq g0 s0 o λw v G1 H1 _ bM r1 o1=>tD.seq bM.gh (s0.mono bM.gg) o1 λw2 v2 G2 H2 _ aT r2 o2=>by
  have r1:=r1.mono aT.gg;revert r1 o2;cases w.d with
  |aE kvs=>
   intro o2 r1;simp only[Eo]at o2
   split at o2
   ·rename_i k ek
    split at o2
    ·rename_i x ex;cases r1 with
     |aE h hk r=>
      obtain⟨u,e1,e2⟩:=(jD k hk r).2 x ex;have e3:=mP r2 ek;subst e3;refine⟨_,u,rfl, ?_,Cz o2 aT.gh e2⟩;rw[<-e1];exact cV.rd (aB.jb aT.gh h)
    ·exact o2.elim
   ·exact o2.elim
  |_=>intro o2 _;exact False.elim o2
def fJ:List D->R W
 | [.aE kvs]=> .ok (.sh (.int kvs.length))
 |_=> .no
def zJ:Et X (.builtin "len") fJ:=by
 intro zc s σ H vs us Q I rv q;obtain⟨EX,G,ds,g,r,o⟩:=q;cases r with
 |nil=>exact False.elim o
 |cons h t=>
  cases t with
  |cons _ _=>cases h <;> exact False.elim o
  |nil=>
   cases h with
   |aE h hk r=>
    rename_i kvs aA;obtain⟨u,rfl,ru⟩:=rv.one;cases ru;refine QH I (aB.jb g h) λt s' I'=>⟨.int _,H,I',⟨t,rfl⟩, ?_⟩;have hl:aA.length=kvs.length:=by
     have:=K4 List.length hk;rw[A3,A3]at this;exact this.symm
    rw[<-hl];exact Cz o g (.int _)
   |_=>exact False.elim o
def qZ(i:Nat)(js:List Nat)(fk fe:FE):FS:=λ Δ=>match(aD js Δ)[i]? with
 |some (.ow (.aE kvs))=>(match fe (At (aD js Δ)) with
  | .ok w=>(match fk (Be (aD js Δ)) with
   | .ok z=>(match Ea z.d with
    |some k=>if kvs.length < 16777216 then .nx ((aD js Δ).set i (.ow (.aE (Df kvs k w.d)))) else .no
    |none=> .no)
   |_=> .no)
  |_=> .no)
 |_=> .no
def Um{i:Nat}(js:List Nat){x:Str}{e ie:Expr}{fe fk:FE}{p1 zg pos:Pos}(hu:X.A.units + 64 < cLine)(he:ED X EX e fe)(hi:ED X EX ie fk)(hN:X.N[i]? =some x:=by rfl)(hv:Fm X.env.scope x:=by trivial)(hd:AG x:=by decide)
  (bO:(x ==("__classdict__" :Str))=false:=by decide) (hs:swapsWith e (some (.Subscript (.Name x p1) ie zg)) pos.line X.env=pure false:=by rfl):
  SD X EX (.Assign [.Subscript (.Name x p1) ie zg] e pos) (qZ i js fk fe):=
 PS.imp (wJ () (Fd hN hv hd bO) hi he hs) λD σ H ⟨H0,G0,G,Δ,O,E,q⟩=>by
  obtain⟨G1,O1,sg,E1⟩:=E.aD js;unfold qZ at q;generalize aD js Δ=Δ1 at q E1
  split at q
  ·rename_i aA e1;obtain⟨v0,s1,t⟩:=E1.ow i _ _ e1 rfl;obtain⟨a,kvs,rfl,m,hH,hk,rl⟩:=t.cE;refine⟨G1,At Δ1,E1.st.gh,E1.dU, ?_⟩;cases e2:fe (At Δ1) with
   |ex x=>rw[e2]at q;exact q.elim
   |no=>rw[e2]at q;exact q.elim
   |ok w=>
    simp only[e2]at q;refine WP.intro λv G' H' st r=> ?_;have E2:=E1.grow st;refine⟨.ref a,s1,Cy G' H' O1,Be Δ1,E2.aH,E2.eJ, ?_⟩;cases e3:fk (Be Δ1) with
    |ex x=>simp only[e3]at q;exact q.elim
    |no=>simp only[e3]at q;exact q.elim
    |ok z=>
     simp only[e3]at q;refine WP.intro λv2 G2 H2 aT r2=> ?_
     split at q
     ·rename_i k ek
      split at q
      ·rename_i hl;have e4:=mP r2 ek;subst e4;have hH2:H2 a=some (.dK kvs):=aT.hh _ _ (st.hh _ _ hH);have hle:kvs.length=aA.length:=by
        have:=K4 List.length hk
        rwa[A3,A3]at this
       obtain⟨p1,p2⟩:=wD k hk (rl.mono st.gg) r;exact⟨a,_,rfl,fW.k hH2 (by rw[hle,D9];exact hl),q σ G' _ _ ((E2.keep aT.hh).yk s1 m p1 p2) (sg.trans st.gg)⟩
      ·exact q.elim
     ·exact q.elim
  ·exact q.elim
end
section
variable{K:Frag}{H0 H1:HB}{G0 G H:Hp}{σ:Sg}{Δ:SE}{O:OS}
end
section
variable{X:Cx}{EX:Ax}{pos:Pos}
end
section
variable{X:Cx}{EX:Ax}{pos:Pos}
end
section
variable{X:Cx}{EX:Ax}{a b:Expr}{fa:FA}{p pos:Pos}
end
section
variable{K:Frag}{G H:Hp}
theorem aR.append:∀{vs us:List V} {ts rs:List Tn} {S1 S2 S:AS},aR K G H vs ts S1->aR K G H us rs S2->(∀b,S1 b->S2 b->False)->(∀b,S1 b->S b)->(∀b,S2 b->S b)->aR K G H (vs ++ us) (ts ++ rs) S
 |_,_,_,_,_,_,_,.nil,r,_,_,i2=>r.mono (aB.refl _) (λ_ _ _ q=>q) i2
 |_,_,_,_,S1,S2,S,.cons (S1:=Sa) (S2:=Sb) h r dj s1 s2,q,d,i1,i2=>
  .cons (S2:=λb=>Sb b\/S2 b) h (aR.append r q (λb z1 z2=>d b (s2 b z1) z2) (λb z=> .inl z) λb z=> .inr z) (λb z1 z2=>by
   rcases z2 with z2|z2
   ·exact dj b z1 z2
   ·exact d b (s1 b z1) z2) (λb z=>i1 b (s1 b z)) λb z=>by
   rcases z with z|z
   ·exact i1 b (s2 b z)
   ·exact i2 b z
end
section
variable{α:Type}
noncomputable def Di:List (Ae×α)->Ae->α->List (Ae×α)
 | [],_,_=> []
 |(x,v)::r,k,v'=>if x=k then(x,v')::r else(x,v)::Di r k v'
theorem xI:∀(l:List (Ae×α)) (k:Ae) (v:α),(Di l k v).map (·.1)=l.map (·.1)
 | [],_,_=>rfl
 |(x,v0)::r,k,v=>by
  unfold Di
  split
  ·rfl
  ·rw[B3,B3,xI r k v]
end
noncomputable def Gg:List (Ae×Tn)->Option (List (Ae×D))
 | []=>some []
 |(k,.sh d)::r=>(Gg r).map ((k,d):: ·)
 |_=>none
theorem yA:∀{zk:List (Ae×Tn)} {aA:List (Ae×D)},Gg zk=some aA->zk=aA.map λp=>(p.1,Tn.sh p.2)
 | [],_,e=>by cases e;rfl
 |(k,t)::r,aA,e=>by
  cases t with
  |sh d=>
   simp only[Gg]at e;cases q:Gg r with
   |none=>rw[q]at e;cases e
   |some l=>
    rw[q]at e;cases e;rw[yA q];rfl
  |_=>cases e
section
variable{K:Frag}{G H:Hp}
theorem aR.fY(k:Ae):∀{kvs:List (Ae×V)} {zk:List (Ae×Tn)} {S:AS} {t:Tn},kvs.map (·.1)=zk.map (·.1)->aR K G H (kvs.map (·.2)) (zk.map (·.2)) S->Bc zk k=some t->
  ∃v S1,Co kvs k=some v/\Ow K G H v t S1/\(∀b,S1 b->S b)/\
   ∀{H':Hp} {t':Tn},(∀b o,S b->¬S1 b->H b=some o->H' b=some o)->Ow K G H' v t' S1->aR K G H' (kvs.map (·.2)) ((Di zk k t').map (·.2)) S
 | [],[],_,_,_,_,e=>by cases e
 | [],_::_,_,_,e,_,_=>by simp at e
 |_::_,[],_,_,e,_,_=>by simp at e
 |(x,v)::kvs,(y,t0)::zk,S,t,e,r,h=>by
  simp only[B3,R9]at e;obtain⟨e1,e2⟩:=e;subst e1;cases r with
  |cons hh r dj s1 s2=>
   rename_i S1 S2
   by_cases q:x=k
   ·have a2:Bc ((x,t0)::zk) k=some t0:=by unfold Bc;rw[R4 (by simpa using q)];rfl
    rw[a2]at h;cases h;refine⟨v,S1,kQ q,hh,s1,λ{H' t'} f h'=> ?_⟩;unfold Di;rw[if_pos q];exact .cons h' (r.mono (aB.refl _) (λb o hb z=>f b o (s2 b hb) (λw=>dj b w hb) z) λ_ z=>z) dj s1 s2
   ·have a2:Bc ((x,t0)::zk) k=Bc zk k:=by unfold Bc;rw[R5 (by simpa using q)]
    rw[a2]at h;obtain⟨v',S',e1,h',i',f'⟩:=aR.fY k e2 r h;refine⟨v',S',by rw[jU q];exact e1,h',λb z=>s2 b (i' b z),λ{H' t'} f h2=> ?_⟩;unfold Di;rw[if_neg q];exact .cons (hh.mono (aB.refl _) (λb o hb z=>f b o (s1 b hb) (λw=>dj b hb (i' b w)) z) λ_ z=>z) (f' (λb o hb nb z=>f b o (s2 b hb) nb z) h2) dj s1 s2
end
def Sl.tree:Sl->Option (Tn×Bool)
 | .ow d=>some (Tn.of d,false)
 | .tr t=>some (t,false)
 | .lt t=>some (t,true)
 |_=>none
noncomputable def Sl.mk(b:Bool)(t:Tn):Sl:=if b then .lt t else .tr t
def Sl.aZ{s:Sl}{t:Tn}{b:Bool}(e:s.tree=some (t,b)):s.own=some t:=by
 cases s <;> first|(cases e;rfl)|cases e
def Sl.dI(b:Bool)(t:Tn):(Sl.mk b t).own=some t:=by cases b <;> rfl
def Sl.eR(b:Bool)(t:Tn):∀d,Sl.mk b t≠ .lk d:=by intro d;cases b <;> (intro z;cases z)
def Ev.eQ{H0:HB}{G0 G H:Hp}{σ:Sg}{Δ:SE}{O:OS}(E:Ev K H0 G0 G H σ Δ O){i:Nat}{s:Sl}{t:Tn}{b:Bool}(e:Δ[i]? =some s)(q:s.tree=some (t,b))(t':Tn):∀d,Sl.mk b t'=.lt d->σ[i]? =some (some (.ref (H0.b i))):=by
 intro d z;cases b with
 |false=>cases z
 |true=>
  cases s with
  |lt t0=>exact E.lt i t0 e
  |_=>cases q
def Ev.dW{H0:HB}{G0 G H:Hp}{σ:Sg}{Δ:SE}{O:OS}(E:Ev K H0 G0 G H σ Δ O){i:Nat}{s:Sl}{t t':Tn}{b:Bool}{a:Addr}{o:HO}(e:Δ[i]? =some s)(q:s.tree=some (t,b))(s1:σ[i]? =some (some v))(m:O i a)(t1:Ow K G (upd H a o) v t' (O i)):
  Ev K H0 G0 G (upd H a o) σ (Δ.set i (Sl.mk b t')) (Cq O i (O i)):=
 have ms:=bP.write E.st.gh m (E.out i a m).1 o
 E.dN (Sl.dI b t') (Sl.eR b t') (E.eQ e q t') ms.weak s1 (λb hb=>⟨.inl hb,(E.out i b hb).1,ms.al b (E.out i b hb).2.2⟩) t1
def Ow.pJ{G H:Hp}{zk:List (Ae×Tn)}{S:AS}(t:Ow K G H v (.aE zk) S):∃a kvs S1,v=.ref a/\S a/\H a=some (.dK kvs)/\kvs.map (·.1)=zk.map (·.1)/\(∀b,S1 b->S b/\b≠a)/\aR K G H (kvs.map (·.2)) (zk.map (·.2)) S1:=by
 cases t with
 |aE h hk ha sub r=>exact⟨_,_,_,rfl,ha,h,hk,sub,r⟩
section
variable{X:Cx}{EX:Ax}{pos:Pos}
end
theorem xl{G:Hp}(k:Ae):∀{kvs:List (Ae×V)} {aA:List (Ae×D)},kvs.map (·.1)=aA.map (·.1)->aC K G (kvs.map (·.2)) (aA.map (·.2))->(gK kvs k).map (·.1)=(Gd aA k).map (·.1)/\aC K G ((gK kvs k).map (·.2)) ((Gd aA k).map (·.2))
 | [],[],_,_=>⟨rfl,.nil⟩
 | [],_::_,e,_=>by simp at e
 |_::_,[],e,_=>by simp at e
 |(x,v)::kvs,(y,d)::aA,e,r=>by
  simp only[B3,R9]at e;obtain⟨e1,e2⟩:=e;subst e1;cases r with
  |cons h r=>
   obtain⟨i1,i2⟩:=xl k (kvs:=kvs) (aA:=aA) e2 r
   by_cases q:x=k
   ·have a1:gK ((x,v)::kvs) k=gK kvs k:=Xu q;have a2:Gd ((x,d)::aA) k=Gd aA k:=by unfold Gd;rw[ZB0 (by simpa using q)]
    rw[a1,a2];exact⟨i1,i2⟩
   ·have a1:gK ((x,v)::kvs) k=(x,v)::gK kvs k:=Xt q;have a2:Gd ((x,d)::aA) k=(x,d)::Gd aA k:=by unfold Gd;rw[ZB1 (by simpa using q)]
    rw[a1,a2];exact⟨by rw[B3,B3,i1],.cons h i2⟩
section
variable{X:Cx}{EX:Ax}{pos:Pos}
end
def kD:Ae->D
 | .inl i=> .int i
 | .inr x=> .str x
def oE{G:Hp}(k:Ae):aM K G (kV k) (kD k):=by cases k <;> constructor
theorem Hb{G:Hp}:∀ks:List Ae,aC K G (ks.map kV) (ks.map kD)
 | []=> .nil
 |k::ks=> .cons (oE k) (Hb ks)
def vE{P:Program}{w:World}{k:Ae}{u:Value}(h:(Ec P w).is k u=true):RelV (kV k) u:=by
 rcases qb h with⟨i,t,rfl,rfl⟩|⟨x,t,rfl,rfl⟩
 ·exact⟨t,rfl⟩
 ·exact⟨t,rfl⟩
theorem xH{P:Program}{w:World}:∀{kvs:List (Ae×V)} {vs:List (Ae×Value)} {us:List Value},KV kvs vs->us.length=vs.length->(∀(j:Nat) v,us[j]? =some v->∃k x,vs[j]? =some (k,x)/\(Ec P w).is k v=true)->Vals ((kvs.map (·.1)).map kV) us
 | [],vs,us,r,hl,_=>by
  have:=r.length;simp at this;have:us= []:=X4 ();subst this;exact .nil
 |(k,v)::kvs,vs,us,r,hl,h=>by
  cases r with
  |cons h1 r=>
   rename_i q vs;obtain⟨k',x⟩:=q;cases us with
   |nil=>simp at hl
   |cons u us=>
    obtain⟨k2,x2,e,i⟩:=h 0 u rfl;have e:(k',x)=(k2,x2):=by simpa using e
    cases e;have e1:k=k':=h1.1;subst e1;exact .cons (vE i) (xH r (by simpa using hl) λj v e=>by
     obtain⟨a,b,c,d⟩:=h (j + 1) v (by simpa using e);exact⟨a,b,by simpa using c,d⟩)
section
variable{X:Cx}{EX:Ax}{pos:Pos}
end
section
variable{X:Cx}{EX:Ax}{pos:Pos}
theorem aC.dropLast{G:Hp}{vs:List V}{ds:List D}(h:aC K G vs ds):aC K G vs.dropLast ds.dropLast:=by
 rw[List.dropLast_eq_take,List.dropLast_eq_take,h.length];exact h.take _
theorem aC.eraseIdx{G:Hp}:∀{vs:List V} {ds:List D} (n:Nat),aC K G vs ds->aC K G (vs.eraseIdx n) (ds.eraseIdx n)
 |_,_,_,.nil=> .nil
 |_,_,0,.cons _ r=>r
 |_,_,n + 1,.cons h r=> .cons h (aC.eraseIdx n r)
def qY(kvs:List (Ae×D))(b c:D):R W:=match Ea b with
 |some k=>(match Bc kvs k with
  |some x=> .ok (.sh x)
  |none=> .ok (.sh c))
 |none=> .no
def oj(f g h:FE):FE:=λ δ=>(f δ).bind λa=>match a.d with
 | .aE kvs=>(g δ).bind λb=>(h δ).bind λc=>qY kvs b.d c.d
 |_=> .no
def Ul{o e e2:Expr}{f g h:FE}{zf zd:Pos}(hu:X.A.units + 64 < cLine)(ho:ED X EX o f)(he:ED X EX e g)(hf:ED X EX e2 h)(hm:M2 X o "get" zf e e2 zd:=by exact⟨rfl,rfl,rfl,rfl⟩):
  ED X EX (.Call (.Attribute o "get" zf) [e,e2] [] zd) (oj f g h):=
 PE.imp (Wh () ho he hf hm) λ σ H Q ⟨G,δ,g0,s0,o⟩=>tD.seq g0 s0 o λw v G1 H1 e1 bM r1 o1=>by
  revert r1 o1;cases w.d with
  |aE kvs=>
   intro r1 o1;cases r1 with
   |aE hh hk r=>
    rename_i a0 kv0;refine⟨_,rfl,.inl ⟨_,aB.jb bM.gh hh⟩, ?_⟩;refine tD.seq bM.gh (s0.mono bM.gg) o1 λw2 v2 G2 H2 _ aT r2 o2=>tD.seq aT.gh (s0.mono (bM.gg.trans aT.gg)) o2 λw3 v3 G3 H3 _ ja r3 o3=> ?_;unfold qY at o3
    split at o3
    ·rename_i k ek;have ev:=mP r2 ek;subst ev;have hg:=aB.jb ja.gh (aB.jb ja.gg (aB.jb aT.gg hh));refine⟨_,cV.rd hg, ?_⟩;obtain⟨i1,i2⟩:=jD (K:=X.K) (G:=G3) k hk (r.mono (aT.gg.trans ja.gg))
     split at o3
     ·rename_i x ex;obtain⟨u,e5,e6⟩:=i2 x ex;rw[e5];exact Cz o3 ja.gh e6
     ·rename_i ex;have:Co kv0 k=none:=by
       cases q:Co kv0 k with
       |none=>rfl
       |some u=>
        rw[q]at i1;unfold Do at i1;rw[ex]at i1;cases i1
      rw[this];exact Cz o3 ja.gh r3
    ·exact o3.elim
  |_=>intro _ o1;exact False.elim o1
end
section
variable{X:Cx}{EX:Ax}{e:Expr}{es:List Expr}{x:Str}{pp pos:Pos}{c:Bool}{k k':Nat}{ps:List Str}
def Ii{sp:Sp}{ta:TA}{f:Addr}(hr:aF c k' X.A)(lk:Lk X EX)(ok:bI X.prog X.w X.K X.mg X.base c k f fd ps sp)(hm:X.mg x=some (.ref f))(kp:keepIn X.K (.ref f)=true)(hb:Binds X.K fd ps [])(ha:PA X (e::es) ta)(hk:k<=k')(hg:Gl X x)(cW:AG x)
  (he:starEach (e::es) X.env=(false,eval e X.env)::starEach es X.env) (bZ:(backTo pos (starEach es X.env)).any (·.1)=false):
  PE X (.Call (.Name x pp) (e::es) [] pos) (λ σ H Q=>ta σ H λvs H1=>sp vs H1 Q (nE X.K (EX σ))):=by
 intro zc s σ H Q I q;refine N0 (qi I hg hm ?_ cW);refine Y6 (h₀:=X.base) I.ok.mod.mG kp (Ay (ha pos zc s σ H _ I q) λus s1 ⟨vs,H1,I1,r,q⟩=>⟨I1.cN, ?_⟩) he bZ;exact rV ok (hr.mono hk) hb lk I1 r q
end
def bU(K:Frag)(cs:List Str)(f:Str):Prop:=∀c,cs.contains c=true->∀C,ClsAt K c C->gQ K C/\aY K C f
def bU.nil{f:Str}:bU K [] f:=λc h=>by cases h
def ClsAt.same{c:Str}{C C':Addr}(a:ClsAt K c C)(b:ClsAt K c C'):C'=C:=by
 unfold ClsAt at a b;rw[a]at b;injection b with b
 injection b with b
 injection b with b
 exact b.symm
def bU.one{c:Str}{C:Addr}{cs:List Str}{f:Str}(a:ClsAt K c C)(k:gQ K C)(n:aY K C f)(r:bU K cs f):bU K (c::cs) f:=λc' h C' a'=>by
 rw[N1,U7]at h;rcases h with h|h
 ·have e:=N7.mp h;subst e;rw[a.same a'];exact⟨k,n⟩
 ·exact r c' h C' a'
def Dm(cs:List Str)(f:Str)(fo:FE):FE:=λ δ=>(fo δ).bind λw=>match w.d with
 | .obj c ns vs=>if cs.contains c then(match(ns.zip vs).lookup f with
  |some d=> .ok (.sh d)
  |none=> .no) else .no
 |_=> .no
theorem rR{G:Hp}{f:Str}:∀{ns:List Str} {us:List V} {vs:List D},aC K G us vs->ns.length=us.length->(∀d,(ns.zip vs).lookup f=some d->∃v,(ns.zip us).lookup f=some v/\aM K G v d)/\(ns.contains f=false->(ns.zip us).lookup f=none)
 | [],_,_,_,_=>⟨λd e=>(by cases e),λ_=>rfl⟩
 |n::ns,[],_,_,e=>by simp at e
 |n::ns,u::us,_,.cons h r,e=>by
  obtain⟨i1,i2⟩:=rR (f:=f) (ns:=ns) r (by simpa using e);refine⟨λd q=> ?_,λq=> ?_⟩
  ·rw[N2,J6]at q⊢;cases hb:f ==n with
   |true=>simp only[hb]at q⊢;cases q;exact⟨u,rfl,h⟩
   |false=>simp only[hb]at q⊢;exact i1 d q
  ·rw[N1,X5]at q;rw[N2,J6];simp only[q.1];exact i2 q.2
section
variable{X:Cx}{EX:Ax}{e:Expr}{pos:Pos}
def kJ{cs:List Str}{f:Str}{fo:FE}(k:bU X.K cs f)(he:ED X EX e fo)(hb:attributeBase e f X.env (eval e X.env)=eval e X.env:=by rfl):ED X EX (.Attribute e f pos) (Dm cs f fo):=
 PE.imp (vZ he hb) λ σ H Q ⟨G,δ,g0,s0,o⟩=>tD.seq g0 s0 o λw v G1 H1 _ st r o'=>by
  revert o' r;cases w.d with
  |obj c ns vs=>
   intro r o';simp only at o'
   split at o'
   ·rename_i hc
    split at o'
    ·rename_i d ed;cases r with
     |obj hC hh hl rl=>
      obtain⟨v1,e1,h1⟩:=(rR (f:=f) rl hl).1 d ed;obtain⟨kc,kn⟩:=k c hc _ hC;exact⟨_,_,_,_,v1,rfl,st.gh _ _ hh,kc,kn,e1,Cz o' st.gh h1⟩
    ·exact o'.elim
   ·exact o'.elim
  |_=>intro _ o';exact False.elim o'
end
structure iD(P:Program)(w:World)(K:Frag)(mg:AB)(base:Heap)(cc:Bool)(k n:Nat)(m c:Str)(F:AF):Prop where
 ex:∃C f fd ps,ClsAt K c C/\gQ K C/\Meth K C m f/\bI P w K mg base cc k f fd ps (Bo K (n + 1) F)/\Binds K fd ps []
def bF(P:Program)(w:World)(K:Frag)(mg:AB)(base:Heap)(cc:Bool)(k n:Nat)(m:Str)(tb:List (Str×(AF))):Prop:=∀c F,tb.lookup c=some F->iD P w K mg base cc k n m c F
def bF.nil{P:Program}{w:World}{cc:Bool}{k n:Nat}{m:Str}:bF P w K mg base cc k n m []:=λc F e=>by cases e
def bI.up{P:Program}{w:World}{c:Bool}{j k:Nat}{f:Addr}{ps:List Str}{sp:Sp}(F:bI P w K mg base c j f fd ps sp)(h:j<=k):bI P w K mg base c k f fd ps sp:=
 ⟨F.len,λA outer s H args us vs Q E hr=>F.run A outer s H args us vs Q E (hr.mono h)⟩
def bF.one{P:Program}{w:World}{cc:Bool}{j k n:Nat}{m c:Str}{F:AF}{tb:List (Str×(AF))}(d:iD P w K mg base cc j n m c F)(hj:j<=k)(r:bF P w K mg base cc k n m tb):bF P w K mg base cc k n m ((c,F)::tb):=λc' F' e=>by
 rw[J6]at e;cases hb:c' ==c with
 |true=>
  simp only[hb]at e;cases e;have:=N7.mp hb;subst this;obtain⟨C,f,fd,ps,a1,a2,a3,a4,a5⟩:=d.ex;exact⟨C,f,fd,ps,a1,a2,a3,a4.up hj,a5⟩
 |false=>simp only[hb]at e;exact r c' F' e
def Cg(m:Str)(n:Nat)(tb:List (Str×(AF)))(fo:FE)(fa:FA):FE:=λ δ=>(fo δ).bind λw=>match w.d with
 | .obj c ns vs=>if ns.contains m then .no else match tb.lookup c with
  |some F=>(fa δ).bind λds=>if ds.length=n then F (.obj c ns vs::ds) else .no
  |none=> .no
 |_=> .no
section
variable{X:Cx}{EX:Ax}{e o:Expr}{es:List Expr}{pos zf:Pos}{cc:Bool}{k k' n:Nat}{m:Str}{tb:List (Str×(AF))}{fo:FE}{fa:FA}
def vD(X:Cx)(EX:Ax)(cc:Bool)(k:Nat)(m:Str)(ta:TE)(t:TA):TE:=λ σ H Q=>ta σ H λx H1=>∃a C dx fs f fd ps sp,x=.ref a/\H1 a=some (.ins C dx fs)/\fs.lookup m=none/\gQ X.K C/\Meth X.K C m f/\
 bI X.prog X.w X.K X.mg X.base cc k f fd ps sp/\Binds X.K fd ps []/\t σ H1 λvs H2=>sp (.ref a::vs) H2 Q (nE X.K (EX σ))
def Ha{pl:Sem Bool}{ta:TE}{t:TA}(he:PE X o ta)(hr:aF cc k X.A)(lk:Lk X EX)(ha:PA X (e::es) t)
  (cA:starEach (e::es) X.env=(false,eval e X.env)::starEach es X.env) (bZ:(backTo pos (starEach es X.env)).any (·.1)=false)
  (ht:eval (.Call (.Attribute o m zf) (e::es) [] pos) X.env=(do
   let ov<-eval o X.env
   standAt zf.atName
   let(f,first)<-holding [ov] (getMethod ov m pl)
   callWith pos f first (backTo pos (starEach (e::es) X.env)) (backToKw pos (keywordEach [] X.env)))):
  PE X (.Call (.Attribute o m zf) (e::es) [] pos) (vD X EX cc k m ta t):=by
 intro zc s σ H Q I h;refine ZD6 (pl:=pl) (Ay (he zc s σ H _ I h) λu s1 hh=> ?_) ht;obtain⟨x,H1,I1,rx,a,C,dx,fs,f,fd,ps,sp,ex,ea,l,c,hm,F,hb,q⟩:=hh;subst ex;obtain rfl:u=Value.ref a:=rx;refine JW I1 ea c hm l ?_;refine Y6 (first:=[.ref a]) (h₀:=X.base) I.ok.mod.mG hm.kp (Ay (ha pos zc s1 σ H1 _ I1 q) λus s2 ⟨vs,H2,I2,r,q2⟩=>⟨I2.cN, ?_⟩) cA bZ;exact rV (us:=.ref a::us) (vs:=.ref a::vs) F hr hb lk I2 (.cons rfl r) q2
def VU{pl:Sem Bool}{ta:TE}(he:PE X o ta)(hr:aF cc k X.A)(lk:Lk X EX)
  (ht:eval (.Call (.Attribute o m zf) [] [] pos) X.env=(do
   let ov<-eval o X.env
   standAt zf.atName
   let(f,first)<-holding [ov] (getMethod ov m pl)
   callWith pos f first (backTo pos (starEach [] X.env)) (backToKw pos (keywordEach [] X.env)))):
  PE X (.Call (.Attribute o m zf) [] [] pos) (vD X EX cc k m ta qL):=by
 intro zc s σ H Q I h;refine ZD6 (pl:=pl) (Ay (he zc s σ H _ I h) λu s1 hh=> ?_) ht;obtain⟨x,H1,I1,rx,a,C,dx,fs,f,fd,ps,sp,ex,ea,l,c,hm,F,hb,q⟩:=hh;subst ex;obtain rfl:u=Value.ref a:=rx;refine JW I1 ea c hm l ?_;exact callWith_K0 (first:=[.ref a]) I1.cN hm.kp (rV (us:=[.ref a]) (vs:=[.ref a]) F hr hb lk I1 (.cons rfl .nil) q)
def RB{σ:Sg}{Q:VK}(hK:X.K=K)(T:bF X.prog X.w X.K X.mg X.base cc k n m tb)(q:tD K EX (Cg m n tb fo fa) σ H Q):vD X EX cc k m (tD K EX fo) (gv K EX fa) σ H Q:=by
 subst hK;obtain⟨G,δ,g0,s0,o⟩:=q;refine tD.seq g0 s0 o λw v G1 H1 _ st r o'=> ?_;revert o' r;cases w.d with
 |obj c ns vs=>
  intro r o';simp only at o'
  split at o'
  ·exact o'.elim
  ·rename_i hn
   split at o'
   ·rename_i F ef;cases r with
    |obj hC hh hl rl=>
     rename_i a0 C0 dx0 us0;obtain⟨C,f,fd,ps,a1,a2,a3,a4,a5⟩:=(T c F ef).ex;have:=a1.same hC;subst this;refine⟨_,_,_,_,f,fd,ps,_,rfl,st.gh _ _ hh,(rR (f:=m) rl hl).2 (by simpa using hn),a2,a3,a4,a5, ?_⟩;refine gv.seq st.gh (s0.mono st.gg) o' λds us G' H' _ dE r' o2=> ?_
     split at o2
     ·rename_i zj;refine⟨by rw[B4,r'.length,zj],G',.obj c ns vs::ds,dE.gh,.cons (aM.mono dE.gg (.obj hC hh hl rl)) r', ?_⟩;cases q:F (.obj c ns vs::ds) with
      |ok w=>rw[q]at o2;exact o2
      |ex x=>rw[q]at o2;exact bW.in o2
      |no=>rw[q]at o2;exact o2.elim
     ·exact o2.elim
   ·exact o'.elim
 |_=>intro _ o';exact False.elim o'
def mX{pl:Sem Bool}(T:bF X.prog X.w X.K X.mg X.base cc k n m tb)(hr:aF cc k' X.A)(lk:Lk X EX)(he:ED X EX o fo)(ha:AD X EX (e::es) fa)(hk:k<=k':=by decide)
  (cA:starEach (e::es) X.env=(false,eval e X.env)::starEach es X.env:=by rfl) (bZ:(backTo pos (starEach es X.env)).any (·.1)=false:=by rfl)
  (ht:eval (.Call (.Attribute o m zf) (e::es) [] pos) X.env=(do
   let ov<-eval o X.env
   standAt zf.atName
   let(f,first)<-holding [ov] (getMethod ov m pl)
   callWith pos f first (backTo pos (starEach (e::es) X.env)) (backToKw pos (keywordEach [] X.env))):=by rfl):ED X EX (.Call (.Attribute o m zf) (e::es) [] pos) (Cg m n tb fo fa):=
 PE.imp (Ha he (hr.mono hk) lk ha cA bZ ht) λ_ _ _ q=>RB rfl T q
def tu{pl:Sem Bool}(T:bF X.prog X.w X.K X.mg X.base cc k 0 m tb)(hr:aF cc k' X.A)(lk:Lk X EX)(he:ED X EX o fo)(hk:k<=k':=by decide)
  (ht:eval (.Call (.Attribute o m zf) [] [] pos) X.env=(do
   let ov<-eval o X.env
   standAt zf.atName
   let(f,first)<-holding [ov] (getMethod ov m pl)
   callWith pos f first (backTo pos (starEach [] X.env)) (backToKw pos (keywordEach [] X.env))):=by rfl):ED X EX (.Call (.Attribute o m zf) [] [] pos) (Cg m 0 tb fo Ad):=
 PE.imp (VU he (hr.mono hk) lk ht) λ σ H Q ⟨G,δ,g0,s0,q⟩=>tD.seq g0 s0 q λw v G1 H1 _ st r o'=>by
  revert o' r;cases w.d with
  |obj c ns vs=>
   intro r o';simp only at o'
   split at o'
   ·exact o'.elim
   ·rename_i hn
    split at o'
    ·rename_i F ef;cases r with
     |obj hC hh hl rl=>
      obtain⟨C,f,fd,ps,a1,a2,a3,a4,a5⟩:=(T c F ef).ex;have:=a1.same hC;subst this;refine⟨_,_,_,_,f,fd,ps,_,rfl,st.gh _ _ hh,(rR (f:=m) rl hl).2 (by simpa using hn),a2,a3,a4,a5, ?_⟩;have o2:Out X.K (EX σ) G1 H1 (F [.obj c ns vs]) Q:=o';refine⟨rfl,G1,[.obj c ns vs],st.gh,.cons (.obj hC hh hl rl) .nil, ?_⟩;cases q:F [.obj c ns vs] with
      |ok w=>rw[q]at o2;exact o2
      |ex x=>rw[q]at o2;exact bW.in o2
      |no=>rw[q]at o2;exact o2.elim
    ·exact o'.elim
  |_=>intro _ o';exact False.elim o'
end
noncomputable def oC(n:Nat)(c:Str)(ds:List D):SE:=.lt (.obj c [] [])::(ds.map Sl.sh ++ List.replicate (n - (ds.length + 1)) .no)
def spI(K:Frag)(C:Addr)(n:Nat)(F:List D->R (List Str×List D)):Sp:=λvs H Q E=>∃x dx dB Hq G ds,vs=.ref x::dB/\dB.length=n/\Hq x=none/\aB Hq H/\H x=some (.ins C dx [])/\aB G Hq/\aC K G dB ds/\
 (match F ds with
 | .ok p=>∀G' H' us dx',Step G Hq G' H'->G' x=none->H' x=some (.ins C dx' (p.1.zip us))->p.1.length=us.length->aC K G' us p.2->Q .aK H'
 | .ex e=>(bW K E).p e G Hq
 | .no=>False)
def xG{G H h0:Hp}{v0:V}{vs:List V}{ds:List D}{N:List Str}{b:Nat->Addr}(g:aB G H)(i0:aB h0 H)(r:aC K G vs ds)(hl:vs.length + 1<=N.length):Ev K ⟨h0,b⟩ G G H (L2.start N (v0::vs)) (.no::(ds.map Sl.sh ++ List.replicate (N.length - (ds.length + 1)) .no)) (λ_ _=>False):=by
 have key:∀(i:Nat) (s:Sl),(Sl.no::(ds.map Sl.sh ++ List.replicate (N.length - (ds.length + 1)) .no))[i]? =some s->(∃j d,i=j + 1/\s=.sh d/\ds[j]? =some d)\/s=.no:=λi s e=>by
  cases i with
  |zero=>exact .inr (by simpa using e.symm)
  |succ i=>
   rw[N3]at e
   by_cases hi:i < ds.length
   ·rw[E9 (by rw[A3];exact hi),A9]at e;obtain⟨d,e1,e2⟩:=E8.mp e;exact .inl ⟨i,d,rfl,e2.symm,e1⟩
   ·rw[K7 (by rw[A3];lia),L5]at e
    split at e
    ·cases e;exact .inr rfl
    ·cases e
 refine⟨⟨i0,g,aB.refl _,λ_ n _=>n⟩, ?_,λi d e=> ?_,λi z d e zo=> ?_,λ_ _ ha=>ha.elim,λ_ _ _ ha=>ha.elim,λi d e=> ?_,λi d e=> ?_⟩
 ·unfold L2.start;have:=r.length;simp only[B8,A3,M5,B4]at hl⊢;lia
 ·rcases key i _ e with⟨j,d',rfl,q,q2⟩|q
  ·cases q;obtain⟨v,e1,h⟩:=r.get q2;refine⟨v, ?_,h⟩;unfold L2.start;have hi:j < vs.length:=(B5.mp e1).1;rw[E9 (by rw[A3,B4];lia),A9,N3,e1];rfl
  ·cases q
 ·rcases key i _ e with⟨j,d',_,q,_⟩|q <;> (subst q;cases zo)
 ·rcases key i _ e with⟨j,d',_,q,_⟩|q <;> cases q
 ·rcases key i _ e with⟨j,d',_,q,_⟩|q <;> cases q
theorem xk{f:Str}{y:V}:∀{ns:List Str} {us:List V},ns.length=us.length->ns.contains f=false->Ge f y (ns.zip us)=(ns ++ [f]).zip (us ++ [y])
 | [],[],_,_=>rfl
 | [],_::_,e,_=>by simp at e
 |_::_,[],e,_=>by simp at e
 |n::ns,u::us,e,h=>by
  rw[N1,X5]at h;have hn:¬n=f:=λz=>by rw[z]at h;simp at h
  show Ge f y ((n,u)::ns.zip us)=(n,u)::(ns ++ [f]).zip (us ++ [y]);unfold Ge;rw[if_neg hn,xk (by simpa using e) h.2]
def ij(i:Nat)(cs:List Str)(f:Str)(js:List Nat)(fe:FE):FS:=λ Δ=>match(aD js Δ)[i]? with
 |some (.lt (.obj c ns ts))=>if cs.contains c=true/\ns.contains f=false/\ns.length < 1000 then(match fe (At (aD js Δ)) with
  | .ok w=> .nx ((aD js Δ).set i (.lt (.obj c (ns ++ [f]) (ts ++ [.sh w.d]))))
  | .ex x=> .ex x (aD js Δ)
  | .no=> .no) else .no
 |_=> .no
section
variable{X:Cx}{EX:Ax}{pos:Pos}
def rQ{i:Nat}{cs:List Str}{f x:Str}(js:List Nat){e:Expr}{fe:FE}{p1 p2:Pos}(k:bU X.K cs f)(he:ED X EX e fe)(hN:X.N[i]? =some x:=by rfl)(hv:Fm X.env.scope x:=by trivial)(hd:AG x:=by decide)
  (bO:(x ==("__classdict__" :Str))=false:=by decide) (hs:swapsWith e (some (.Attribute (.Name x p1) f p2)) pos.line X.env=pure false:=by rfl):SD X EX (.Assign [.Attribute (.Name x p1) f p2] e pos) (ij i cs f js fe):=
 PS.imp (vY (Fd hN hv hd bO) he hs) λD σ H ⟨H0,G0,G,Δ,O,E,q⟩=>by
  obtain⟨G1,O1,sg,E1⟩:=E.aD js;unfold ij at q;generalize aD js Δ=Δ1 at q E1
  split at q
  ·rename_i c ns ts e1
   split at q
   ·rename_i hc;obtain⟨BL,nj,BK⟩:=hc;refine⟨G1,At Δ1,E1.st.gh,E1.dU, ?_⟩;cases e2:fe (At Δ1) with
    |ex y=>simp only[e2]at q;exact q σ G1 H O1 E1 sg
    |no=>simp only[e2]at q;exact q.elim
    |ok w=>
     simp only[e2]at q;refine WP.intro λv G2 H2 st r=> ?_;have E2:=E1.grow st;obtain⟨v0,s1,t⟩:=E2.ow i _ _ e1 rfl;have s2:=E2.lt i _ e1;generalize et:(Tn.obj c ns ts)=t0 at t;cases t with
     | @obj a C dx c2 ns2 us ts2 S S1 hC h hl ha sub rl=>
      injection et with et1 Oc et3
      subst et1 Oc et3;obtain⟨kc,kn⟩:=k _ BL _ hC;refine⟨_,s1,_,_,_,_,rfl,h,kc,kn,by rw[U8,<-hl,ML];exact BK, ?_⟩;rw[xk hl nj];have ms:=bP.write (S:=O1 i) E2.st.gh ha (E2.out i _ ha).1 (.ins C dx ((ns ++ [f]).zip (us ++ [v])));refine q σ G2 _ _ (E2.dN (S:=O1 i) (z:=.lt _) rfl (λ_ z=>by cases z) (λ_ _=>by rw[s1]at s2⊢;exact s2) ms.weak s1 (λb hb=>⟨.inl hb,(E2.out i b hb).1,ms.al b (E2.out i b hb).2.2⟩) ?_) (sg.trans st.gg);refine .obj hC Bf (by rw[B8,B8,hl];rfl) ha sub ?_;refine aR.append (S2:=λ_=>False) (rl.mono (aB.refl _) (λb o hb z=> ?_) λ_ z=>z) (.cons (S1:=λ_=>False) (S2:=λ_=>False) (.sh r) .nil (λ_ z _=>z) (λ_ z=>z.elim) λ_ z=>z.elim) (λ_ _ z=>z) (λ_ z=>z) λ_ z=>z.elim;rw[Ao (sub b hb).2];exact z
     |_=>cases et
   ·exact q.elim
  ·exact q.elim
end
section
variable{X:Cx}{EX:Ax}{e:Expr}{es:List Expr}{x:Str}{pp pos:Pos}{cc:Bool}{k k' n:Nat}{ps:List Str}{C f:Addr}{fd:FuncData}
def Xi{zc:AE}{σ:Sg}{s:Shared}{Q:VK}{vs:List V}{sp:Sp}(M:Mk X.K C f)(F:bI X.prog X.w X.K X.mg X.base cc k f fd ps sp)(hr:aF cc (k + 1) X.A)(hb:Binds X.K fd ps [])(lk:Lk X EX)(I:Inv X zc σ H s)(r:Vals vs us)
  (h:∀x dx,H x=none->H dx=none->dx≠x->sp (.ref x::vs) (upd (upd H dx (.own x)) x (.ins C dx [])) (λv H2=>v=.aK/\Q (.ref x) H2) (nE X.K (EX σ))):wpAny (model X.prog X.w) X.A (call (.ref C) us) (EP X zc σ Q) X.xe s:=by
 have hq:=h (s.heap.objs.size + 1) s.heap.objs.size (I.aJ.fresh (L7 _)) (I.aJ.fresh (B6 _)) (D8 (T9 _));have I2:=Inv.made (C:=C) I;have r2:Vals (V.ref (s.heap.objs.size + 1)::vs) (Value.ref (s.heap.objs.size + 1)::us):=.cons rfl r;have hl:(Value.ref (s.heap.objs.size + 1)::us).length=ps.length:=by
  rw[<-r2.length];exact F.len _ _ _ _ hq
 have cO:=hb _ (Value.ref (s.heap.objs.size + 1)::us) I2.cN (by rw[E4];exact hl);rw[E4]at cO;refine W8 (Wt (f:=f) I.cN M.makes M.init (N7.mp M.fn) (R1 (F.run _ X.stack _ _ ⟨Value.ref (s.heap.objs.size + 1)::us,[]⟩ (Value.ref (s.heap.objs.size + 1)::us) _ _ _ (hr.make C us []) (I2.vq.make C us []) cO r2 hq) λr s' eO=> ?_));cases r with
 |error e=>exact lk zc σ _ _ e s' I2 eO
 |ok fl=>
  cases fl with
  |ret u=>
   obtain⟨v,H',I3,rv,ev,q3⟩:=I2.after eO;subst ev;exact⟨rv,⟨V.ref (s.heap.objs.size + 1),H',I3,rfl,q3⟩⟩
  |next=>exact False.elim eO
  |brk=>exact False.elim eO
  |cont=>exact False.elim eO
def aay(P:Program)(w:World)(K:Frag)(mg:AB)(base:Heap)(cc:Bool)(c:Str)(k n:Nat)(F:List D->R (List Str×List D)):Prop:=
 ∃C f fd ps,ClsAt K c C/\mg c=some (.ref C)/\Mk K C f/\bI P w K mg base cc k f fd ps (spI K C n F)/\Binds K fd ps []
end
section
variable{K:Frag}{G:Hp}{a:Addr}{vs:List V}{ds:List D}
theorem aC.eV:∀{vs:List V} {ds es:List D},aC K G vs ds->aC K G vs es->ds.all Bh=true->es=ds
 |_,_,_,.nil,.nil,_=>rfl
 |_,_,_,.cons h r,.cons h' r',f=>by
  rw[P7,D5]at f;rw[aC.eV r r' f.2]
  congr 1
  cases h with
  |aK=>cases h';rfl
  |bl b=>cases h';rfl
  |int i=>cases h';rfl
  |str x=>cases h';rfl
  |_=>cases f.1
end
section
variable{X:Cx}{EX:Ax}{pos:Pos}
end
end L3
namespace L3
open PySem L2 Builtin Builtin.Str
variable{K:Frag}{fd:FuncData}{mg:AB}{us:List Value}{base:Heap}{H:Hp}{X:Cx}{pos:Pos}{v:V}
def GY{x y:Str}(h:x.cps.toList=y.cps.toList):x=y:=by
 obtain⟨a⟩:=x;obtain⟨b⟩:=y;simp only at h;have:a=b:=by
  have:=K4 List.toArray h;simpa using this
 rw[this]
def Uk(x:Str):x.length=x.cps.toList.length:=by simp[Str.length]
def Uj(x y:Str):(x ++ y).cps.toList=x.cps.toList ++ y.cps.toList:=by
 show(Str.append x y).cps.toList=_;simp[Str.append]
end L3
namespace L3
open PySem L2
variable{K:Frag}{fd:FuncData}{mg:AB}{us:List Value}{base:Heap}{H:Hp}{X:Cx}{pos:Pos}{v:V}
def iQ(i j:Int):Dj (.int i) (.int j)=.ok (.sh (.bl (decide (i=j)))):=by
 have h:Ek (.int i) (.int j)=decide (i=j):=by
  show(i ==j)=decide (i=j);rw[Bool.beq_eq_decide_eq]
 show(if Fo (.int i) (.int j)=true then R.ok (W.sh (D.bl (Ek (.int i) (.int j)))) else .no)=_;rw[if_pos (by rfl),h]
def mW(i j:Int):Ck (.int i) (.int j)=.ok (.sh (.bl (!decide (i=j)))):=by
 have h:Ek (.int i) (.int j)=decide (i=j):=by
  show(i ==j)=decide (i=j);rw[Bool.beq_eq_decide_eq]
 show(if Fo (.int i) (.int j)=true then R.ok (W.sh (D.bl (!Ek (.int i) (.int j)))) else .no)=_;rw[if_pos (by rfl),h]
def GX(x y:Str):Dj (.str x) (.str y)=.ok (.sh (.bl (decide (x=y)))):=rfl
def Ui(x y:Str):Ck (.str x) (.str y)=.ok (.sh (.bl (!decide (x=y)))):=rfl
def jd{i j:Int}(h1: -18446744073709551616 < i)(h2:i < 18446744073709551616):Es i j=true:=C9 (.inl ())
def rq{i j:Int}(h1: -18446744073709551616 < j)(h2:j < 18446744073709551616):Es i j=true:=C9 (.inr ())
def fE{i j:Int}(h:Es i j=true):Dr (.int i) (.int j)=.ok (.sh (.int (i * j))):=by unfold Dr intD;simp only[h,if_true]
def Fc(i j:Int):Bv (.int i) (.int j)=.ok (.sh (.int (i + j))):=rfl
def pN(i j:Int):En (.int i) (.int j)=.ok (.sh (.int (i - j))):=rfl
def ip{i j:Int}(h1:0 < j)(h2:j < 1361129467683753853853498429727072845824):Cv (.int i) (.int j)=.ok (.sh (.int (i / j))):=by
 exact if_pos (show divC i j=true from C9 ⟨h1,by lia⟩)
def Cw{i j:Int}(h1:0 < j):Bz (.int i) (.int j)=.ok (.sh (.int (i % j))):=by
 exact if_pos (show CV i j=true from C9 h1)
def Gh(i j:Int):tN (.int i) (.int j)=.ok (.sh (.bl (decide (i < j)))):=rfl
def hX(i j:Int):tO (.int i) (.int j)=.ok (.sh (.bl (decide (i<=j)))):=rfl
def vC(i j:Int):yZ (.int i) (.int j)=.ok (.sh (.bl (decide (j < i)))):=rfl
def RA{x y:Str}(h:x.length + y.length<=16777216):Bv (.str x) (.str y)=.ok (.sh (.str (x ++ y))):=if_pos h
def Rz{i j:Int}(h:powC i j=true):kZ (.int i) (.int j)=.ok (.sh (.int (i ^ j.toNat))):=by unfold kZ intD;simp only[h,if_true]
def VT{i j:Int}(h1:0<=j)(h2:j<=1000000)(h3: -18446744073709551616 < i)(h4:i < 18446744073709551616):powC i j=true:=C9 ⟨h1,by lia,by lia⟩
def jS(ds:List D):Dd [.lst ds]=.ok (.sh (.int ds.length)):=rfl
def VS{x:Str}(h:x.length<=16777216):Dd [.str x]=.ok (.sh (.int x.length)):=if_pos h
def ES(i j:Int):maxD [.int i,.int j]=.ok (.sh (.int (max i j))):=by
 show R.ok (W.sh (D.int (if j > i then j else i)))=_;rw[show(if j > i then j else i)=max i j by rw[Int.max_def];split <;> split <;> lia]
def ER(i j:Int):minD [.int i,.int j]=.ok (.sh (.int (min i j))):=by
 show R.ok (W.sh (D.int (if j < i then j else i)))=_;rw[show(if j < i then j else i)=min i j by rw[Int.min_def];split <;> split <;> lia]
def iM{ds:List D}{i:Int}{d:D}(h:dM ds i=some d):Ba (.lst ds) (.int i)=.ok (.sh d):=by unfold Ba;simp only[h]
def Uh{x:Str}{i:Int}{c:Nat}(hz:x.length<=16777216)(h:dM x.cps.toList i=some c):Ba (.str x) (.int i)=.ok (.sh (.str ⟨#[c]⟩)):=by
 unfold Ba;simp only[h,if_pos hz]
def vN{α:Type}{xs:List α}{i:Int}{x:α}(h0:0<=i)(h:xs[i.toNat]? =some x):dM xs i=some x:=by
 have hl:i.toNat < xs.length:=(B5.mp h).1;unfold dM tQ;rw[if_pos h0,if_pos ()];exact h
def Xh(fg:FG)(g:FS)(I:Nat->SE->Prop){n:Nat}{lo:Int}{Δ:SE}(h0:I 0 Δ)
  (step:∀k Δ,k < n->I k Δ->∃Δ1,fg (.int (lo + (k:Int))) Δ=.ok Δ1/\∃Δ2,(g Δ1=.nx Δ2\/g Δ1=.ct Δ2)/\I (k + 1) Δ2):∃Δ',De fg g (iY lo n) Δ=.nx Δ'/\I n Δ':=by
 have all:∀(m k:Nat) (Δ:SE),k + m=n->I k Δ->∃Δ',De fg g ((List.range' k m).map λ(j:Nat)=>D.int (lo + (j:Int))) Δ=.nx Δ'/\I n Δ':=by
  intro m
  induction m with
  |zero=>intro k Δ e h;exact⟨Δ,rfl,by rw[<-e];exact h⟩
  |succ m ih=>
   intro k Δ e h;obtain⟨Δ1,e1,Δ2,e2,h2⟩:=step k Δ () h;obtain⟨Δ',e3,h3⟩:=ih (k + 1) Δ2 () h2;refine⟨Δ', ?_,h3⟩;rw[List.range'_succ,B3];show(match fg (.int (lo + (k:Int))) Δ with
    | .ok Δ1=>(match g Δ1 with
     | .nx Δ2=>De fg g _ Δ2
     | .ct Δ2=>De fg g _ Δ2
     | .bk Δ2=> .nx Δ2
     |r=>r)
    | .ex _=> .no
    | .no=> .no)=_
   rw[e1];rcases e2 with e2|e2
   ·simp only[e2];exact e3
   ·simp only[e2];exact e3
 obtain⟨Δ',e,h⟩:=all n 0 Δ () h0;refine⟨Δ', ?_,h⟩;unfold iY;rw[List.range_eq_range'];exact e
def uE(fg:FG)(g:FS)(I:Nat->SE->Prop){ds:List D}{Δ:SE}(h0:I 0 Δ)
  (step:∀k d Δ,ds[k]? =some d->I k Δ->∃Δ1,fg d Δ=.ok Δ1/\∃Δ2,(g Δ1=.nx Δ2\/g Δ1=.ct Δ2)/\I (k + 1) Δ2):∃Δ',De fg g ds Δ=.nx Δ'/\I ds.length Δ':=by
 have all:∀(m k:Nat) (Δ:SE),k + m=ds.length->I k Δ->∃Δ',De fg g (ds.drop k) Δ=.nx Δ'/\I ds.length Δ':=by
  intro m
  induction m with
  |zero=>
   intro k Δ e h;rw[V5 ()];exact⟨Δ,rfl,by rw[<-e];exact h⟩
  |succ m ih=>
   intro k Δ e h;obtain⟨d,d1,d2⟩:=pj (l:=ds) (i:=k) ();obtain⟨Δ1,e1,Δ2,e2,h2⟩:=step k d Δ d1 h;obtain⟨Δ',e3,h3⟩:=ih (k + 1) Δ2 () h2;refine⟨Δ', ?_,h3⟩;rw[d2];show(match fg d Δ with
    | .ok Δ1=>(match g Δ1 with
     | .nx Δ2=>De fg g (ds.drop (k + 1)) Δ2
     | .ct Δ2=>De fg g (ds.drop (k + 1)) Δ2
     | .bk Δ2=> .nx Δ2
     |r=>r)
    | .ex _=> .no
    | .no=> .no)=_
   rw[e1];rcases e2 with e2|e2
   ·simp only[e2];exact e3
   ·simp only[e2];exact e3
 have:=all ds.length 0 Δ () h0
 rwa[List.drop_zero]at this
def Xg{fg:gE}{p:FT}{f:FE}{δ:DE}{F:Int->D}:∀(n:Nat) (lo:Int),(∀k:Nat,k < n->∃δ1 w,fg (.int (lo + (k:Int))) δ=.ok δ1/\p δ1=.ok true/\f δ1=.ok w/\w.d=F (lo + (k:Int)))->
  eZ fg p f δ (iY lo n)=.ok ((List.range n).map λ(k:Nat)=>F (lo + (k:Int))):=by
 have all:∀(es:List Nat) (lo:Int),(∀k∈es,∃δ1 w,fg (.int (lo + ((k:Nat):Int))) δ=.ok δ1/\p δ1=.ok true/\f δ1=.ok w/\w.d=F (lo + (k:Int)))->
   eZ fg p f δ (es.map λ(k:Nat)=>D.int (lo + (k:Int)))=.ok (es.map λ(k:Nat)=>F (lo + (k:Int))):=by
  intro es lo
  induction es with
  |nil=>intro _;rfl
  |cons k es ih=>
   intro h;obtain⟨δ1,w,e1,e2,e3,e4⟩:=h k C8;have e5:=ih λj hj=>h j (B9 _ hj);rw[B3,B3];show((fg (.int (lo + (k:Int))) δ).bind λ δ1=>(p δ1).bind λb=>if b=true then(f δ1).bind λw=>(eZ fg p f δ _).bind λrs=> .ok (w.d::rs) else eZ fg p f δ _)=_;rw[e1];simp only[R.aI,e2,if_true,e3];rw[e5];simp only[R.aI,e4]
 intro n lo h;exact all (List.range n) lo λk hk=>h k (N5.mp hk)
def wC{j:Int}(h1: -4611686018427387903<=j)(h2:j < 4611686018427387904):gT [.int j]=.ok (iY 0 j.toNat):=by
 have h:j.natAbs < 4611686018427387904:=by lia
 exact if_pos h
def ng{m:Nat}{fi:FI}{fg:gE}{p:FT}{f:FE}{δ:DE}{ds rs:List D}(h:fi δ=.ok ds)(hl:ds.length<=16777216)(hc:eZ fg p f (δ ++ List.replicate m none) ds=.ok rs):Ct m fi fg p f δ=.ok (.ow (.lst rs)):=by
 unfold Ct;rw[h];simp only[R.aI];rw[if_pos hl,hc];rfl
def Ry(d:D):Sl.bT (.sh d)=some d:=rfl
def Rx(d:D):Sl.bT (.ow d)=none:=rfl
def Rw:Sl.bT .no=none:=rfl
def Rv(d:D):Sl.any (.sh d)=some d:=rfl
def Ru(d:D):Sl.any (.ow d)=some d:=rfl
def Rt:Sl.any .no=none:=rfl
def do_1(d:D):Sl.give (.sh d)=.sh d:=rfl
def Ug(d:D):Sl.give (.ow d)=.sh d:=rfl
def Ue:Sl.give .no=.no:=rfl
def iL{g h:FS}{Δ Δ':SE}(e:g Δ=.nx Δ'):Af g h Δ=h Δ':=by unfold Af;rw[e]
def jR{n:Nat}{g:FS}{ds:List D}{w:W}(e:g (Br n ds)=.rt w):An n g ds=.ok w:=by unfold An;rw[e]
theorem nq{fg:gE}{p:FT}{f:FE}{δ:DE}(P:D->Bool)(F:D->D):∀(ds:List D),(∀d∈ds,∃δ1,fg d δ=.ok δ1/\p δ1=.ok (P d)/\(P d=true->∃w,f δ1=.ok w/\w.d=F d))->
  eZ fg p f δ ds=.ok ((ds.filter P).map F)
 | [],_=>rfl
 |d::ds,h=>by
  obtain⟨δ1,e1,e2,e3⟩:=h d C8;have ih:=nq P F ds λx hx=>h x (B9 _ hx);show((fg d δ).bind λ δ1=>(p δ1).bind λb=>if b=true then(f δ1).bind λw=>(eZ fg p f δ ds).bind λrs=> .ok (w.d::rs) else eZ fg p f δ ds)=_;rw[e1];simp only[R.aI,e2];cases hP:P d with
  |true=>
   obtain⟨w,e4,e5⟩:=e3 hP;rw[if_pos rfl,e4,ih];simp only[R.aI,e5,ZB1 hP,B3]
  |false=>
   rw[if_neg A7,ih,ZB0 (by rw[hP];exact A7)]
def VR{fg:gE}{f:FE}{δ:DE}(F:D->D)(ds:List D)(h:∀d∈ds,∃δ1 w,fg d δ=.ok δ1/\f δ1=.ok w/\w.d=F d):
  eZ fg (λ_=> .ok true) f δ ds=.ok (ds.map F):=by
 have:=nq (fg:=fg) (p:=λ_=> .ok true) (f:=f) (δ:=δ) (λ_=>true) F ds λd hd=>by
  obtain⟨δ1,w,e1,e2,e3⟩:=h d hd;exact⟨δ1,e1,rfl,λ_=>⟨w,e2,e3⟩⟩
 rw[this,P5.mpr λ_ _=>rfl]
def Zd:Dh "int" .aK=some false:=rfl
def Yq(b:Bool):Dh "int" (.bl b)=some true:=rfl
def Zc(i:Int):Dh "int" (.int i)=some true:=rfl
def Zb(x:Str):Dh "int" (.str x)=some false:=rfl
def Za(l:List D):Dh "int" (.lst l)=some false:=rfl
def YZ(l:List D):Dh "int" (.tup l)=some false:=rfl
def ZE:Dh "bool" .aK=some false:=rfl
def YY(b:Bool):Dh "bool" (.bl b)=some true:=rfl
def ZC(i:Int):Dh "bool" (.int i)=some false:=rfl
def ZA(x:Str):Dh "bool" (.str x)=some false:=rfl
def Zz(l:List D):Dh "bool" (.lst l)=some false:=rfl
def Zy(l:List D):Dh "bool" (.tup l)=some false:=rfl
def YX:Dh "str" .aK=some false:=rfl
def Yp(b:Bool):Dh "str" (.bl b)=some false:=rfl
def YW(i:Int):Dh "str" (.int i)=some false:=rfl
def YV(x:Str):Dh "str" (.str x)=some true:=rfl
def YU(l:List D):Dh "str" (.lst l)=some false:=rfl
def YT(l:List D):Dh "str" (.tup l)=some false:=rfl
def Zx:Dh "list" .aK=some false:=rfl
def YS(b:Bool):Dh "list" (.bl b)=some false:=rfl
def Zw(i:Int):Dh "list" (.int i)=some false:=rfl
def Zv(x:Str):Dh "list" (.str x)=some false:=rfl
def Zu(l:List D):Dh "list" (.lst l)=some true:=rfl
def Zt(l:List D):Dh "list" (.tup l)=some false:=rfl
def ZU:Dh "tuple" .aK=some false:=rfl
def Zs(b:Bool):Dh "tuple" (.bl b)=some false:=rfl
def ZT(i:Int):Dh "tuple" (.int i)=some false:=rfl
def ZS(x:Str):Dh "tuple" (.str x)=some false:=rfl
def ZR(l:List D):Dh "tuple" (.lst l)=some false:=rfl
def ZQ(l:List D):Dh "tuple" (.tup l)=some true:=rfl
end L3
namespace L3
open PySem PySem.Spec PyProof.Rows L2
variable{K:Frag}{fd:FuncData}{mg:AB}{us:List Value}{base:Heap}{H:Hp}{X:Cx}{pos:Pos}{v:V}
def rp:List Value->Bool
 | .ref _::r=>rp r
 |l=>l == [.type "ValueError",.type "Exception",.type "BaseException",.type "object"]
theorem KW(self:Value):∀{l:List Value},rp l=true->refuseLoop self "__setattr__" l=pure .unit
 | [],e=>by cases e
 | .ref c::r,e=>by rw[refuseLoop_ref];exact KW self e
 | .type n::r,e=>by
  have e':(Value.type n::r)= [.type "ValueError",.type "Exception",.type "BaseException",.type "object"]:=eq_of_beq e;rw[e'];exact PySem.F.store_ValueError.passes self
 | .none::r,e=>by cases(eq_of_beq (show((Value.none::r) == [.type "ValueError",.type "Exception",.type "BaseException",.type "object"])=true from e))
 | .bool b::r,e=>by cases(eq_of_beq (show((Value.bool b::r) == [.type "ValueError",.type "Exception",.type "BaseException",.type "object"])=true from e))
 | .int b t::r,e=>by cases(eq_of_beq (show((Value.int b t::r) == [.type "ValueError",.type "Exception",.type "BaseException",.type "object"])=true from e))
 | .str b t::r,e=>by cases(eq_of_beq (show((Value.str b t::r) == [.type "ValueError",.type "Exception",.type "BaseException",.type "object"])=true from e))
 | .builtin b::r,e=>by cases(eq_of_beq (show((Value.builtin b::r) == [.type "ValueError",.type "Exception",.type "BaseException",.type "object"])=true from e))
theorem JT:∀{l:List Value},rp l=true->l.contains (.type "object")=true/\l.isEmpty=false
 | [],e=>by cases e
 | .ref c::r,e=>⟨by rw[N1,(JT (l:=r) e).1,MM],rfl⟩
 | .type n::r,e=>by
  have e':(Value.type n::r)= [.type "ValueError",.type "Exception",.type "BaseException",.type "object"]:=eq_of_beq e;rw[e'];exact⟨by decide,rfl⟩
 | .none::r,e=>by cases(eq_of_beq (show((Value.none::r) == [.type "ValueError",.type "Exception",.type "BaseException",.type "object"])=true from e))
 | .bool b::r,e=>by cases(eq_of_beq (show((Value.bool b::r) == [.type "ValueError",.type "Exception",.type "BaseException",.type "object"])=true from e))
 | .int b t::r,e=>by cases(eq_of_beq (show((Value.int b t::r) == [.type "ValueError",.type "Exception",.type "BaseException",.type "object"])=true from e))
 | .str b t::r,e=>by cases(eq_of_beq (show((Value.str b t::r) == [.type "ValueError",.type "Exception",.type "BaseException",.type "object"])=true from e))
 | .builtin b::r,e=>by cases(eq_of_beq (show((Value.builtin b::r) == [.type "ValueError",.type "Exception",.type "BaseException",.type "object"])=true from e))
structure fV(K:Frag)(C:Addr):Prop where
 sa:findIn K (.ref C) "__setattr__" =some (some (.builtin "object.__setattr__"))
 over:(clsIn K C).any (λcd=>rp cd.mro && cd.hasDict)=true
section
variable{prog:Program}{w:World}{A:Around}{E:AA}{s:Shared}{K:Frag}{x C:Addr}{R:Result->Shared->Prop}
def Ud{ox:Obj}{od:Option Obj}{name:Str}{tk:Tok}{v:Value}(X:K.In s.heap)(I:InstAt s.heap x ox C od)(xc:fV K C)(ha:findIn K (.ref C) name=some none)
  (h:wpAny (model prog w) A.in1 (Builtin.ObjectAttr.storeInOwnDict (.ref x) (.ref C) (.str name tk) name v false)
   (λfin s'=>match fin with| .done f=>R (.ok f) s'| .again c'=>c'.quiet=true/\codeAny (model prog w) A c' R s') (λe s'=>R (.error e) s') s):
  codeAny (model prog w) A (.call (.builtin "object.__setattr__") ⟨[.ref x,.str name tk,v],[]⟩) R s:=by
 have SF:=PySem.F.store_object;obtain⟨cd,hc,ho⟩:=any_some xc.over;rw[D5]at ho;obtain⟨jg,eN⟩:=JT ho.1;have sub:Looks (model prog w) s.heap (isInstance (.ref x) (.type "object")) true:=I.type.andThen (looks_mroIn X (by unfold mroIn;rw[hc,OQ,if_neg (by rw[eN];decide),jg]));refine codeAny_call_builtin SF.slot.plain SF.entry (@check_slot (model prog w) _ _ s "object.__setattr__" "object" "__setattr__" (.ref x) [.str name tk,v] [] _ SF.kind SF.split sub (SF.args (.ref x) (.str name tk) v) ?_);have hm:Looks (model prog w) s.heap (mroOf (.ref C)) cd.mro:=(OL X hc).andThen .now;rw[osa_eq,refuse_eq];refine A5 (A5 (I.type.here (A5 (hm.here ?_))));rw[KW _ ho.1];refine F0 (A5 (I.type.here (A5 ((ZE0 X ha).here (A5 (F0 (a:=(none:Option Value)) ?_))))));exact h
def Xf{D:Addr}{name:Str}{tk:Tok}{v:Value}{Q:PySem.Fin->Shared->Prop}(hD:s.heap.get? D=some {cls:=.type "dict",data:=.dict #[]})
  (h:∀h' tk,h'.Ns1 D (λy=>if y=name then some v else none)->Heap.SameBut D s.heap h'->Q (.done (.ret .none)) {s with heap:=h',toks:=tk}):wpAny (model prog w) A (Builtin.ObjectAttr.storeInDict D (.str name tk) name v) Q E s:=by
 have bq:s.heap.Ns D λ_=>none:=⟨_, #[],_,hD,rfl,λ_ he=>(Array.not_mem_empty _ he).elim,λ_=>rfl⟩;unfold Builtin.ObjectAttr.storeInDict Builtin.ObjectAttr.newKeyGuard
 wp_walk using wpAny_nsSet1 (Heap.Ns1.of_empty bq)
 intro h' n sb;obtain⟨o,es,ep,MF,is1,zw⟩:=n.count (.cons name v .nil);have le:es.size<=sizeLine + 1:=D4 zw (by simp[D9]);exact A5 (wpAny_lookBehind MF (is1▸pastItsLine_dict le) (F0 (h h' _ n sb)))
def YR{name:Str}{v:Value}{us:Array Value}{Q:Unit->Shared->Prop}(X:K.In s.heap)(hx:s.heap.get? x=some ⟨.ref C,none,.fields us, #[]⟩)(xc:fV K C)(ha:findIn K (.ref C) name=some none)
  (h:∀h' tk,h'.get? x=some ⟨.ref C,some s.heap.objs.size,.fields us, #[]⟩->h'.Ns1 s.heap.objs.size (λy=>if y=name then some v else none)->(∀b o,b≠x->s.heap.get? b=some o->h'.get? b=some o)->Q .unit {s with heap:=h',toks:=tk}):
  wpAny (model prog w) A (setAttr (.ref x) name v) Q E s:=by
 have I:InstAt s.heap x ⟨.ref C,none,.fields us, #[]⟩ C none:=⟨hx,rfl,rfl,True.intro⟩;refine set_plain X I xc.sa (Ud (s:={s with toks:=s.toks + 1}) X I xc ha ?_);obtain⟨cd,hc,fF⟩:=any_some xc.over;rw[D5]at fF;refine A5 (F0 (A5 (A5 (wpAny_loadPart (s:={s with toks:=s.toks + 1}) hx (A5 (MI (s:={s with toks:=s.toks + 1}) (OL X hc) ?_))))));rw[fF.2]
 
 have Ck:x≠s.heap.objs.size:=D8 (A6 hx);have old:∀b o,b≠x->s.heap.get? b=some o->((s.heap.push {cls:=.type "dict",data:=.dict #[]}).update x λo=>{o with dict:=some s.heap.objs.size}).get? b=some o:=λb o hb e=>by
  rw[U5 _ _ _ _ hb];exact A4 _ e
 have itself:=S6 (λo:Obj=>{o with dict:=some s.heap.objs.size}) (A4 {cls:=.type "dict",data:=.dict #[]} hx) rfl;have isD:((s.heap.push {cls:=.type "dict",data:=.dict #[]}).update x λo=>{o with dict:=some s.heap.objs.size}).get? s.heap.objs.size=some {cls:=.type "dict",data:=.dict #[]}:=by
  rw[U5 _ _ _ _ (Ne.symm Ck)];exact C1 _ rfl
 refine A5 (wpAny_alloc' (A5 (wpAny_update' (A4 _ hx) (F0 (Xf isD λh' tk n sb=>h h' tk ?_ n λb o hb e=> ?_)))))
 ·rw[sb.2 x Ck];exact itself
 ·rw[sb.2 b (D8 (A6 e))];exact old b o hb e
end
def XE(a:Addr)(o:Obj):HO:=.ext λh=>h.get? a=some o
def XE.ok{P:Program}{w:World}{h:Heap}{a:Addr}{o:Obj}(e:h.get? a=some o):aP P w H h a (XE a o):=⟨e,⟨o,e⟩,λ_ _ p k=>k _ p⟩
theorem XE.get{P:Program}{w:World}{h:Heap}{a:Addr}{o:Obj}(x:cP P w H h)(e:H a=some (XE a o)):h.get? a=some o:=(x a _ e).1
def XO.ok{P:Program}{w:World}{h:Heap}{a C:Addr}{dx:Option Addr}{us:Array Value}{sl:Array (Option Value)}(e:h.get? a=some ⟨.ref C,dx,.fields us,sl⟩)(c2:us[2]? =some .none):aP P w H h a (XO a C dx):=
 ⟨⟨us,sl,e,c2⟩,⟨_,e⟩,λ_ _ ⟨us,sl,p,c⟩ k=>⟨us,sl,k _ p,c⟩⟩
section
variable{X:Cx}{zc:AE}{σ:Sg}{H:Hp}{s:Shared}
def Inv.yn{a:Addr}{o0 o1:Obj}{h':Heap}{t':Nat}{fs:List (Str×V)}{mA:AB}(I:Inv X zc σ H s)(e:H a=some (XE a o0))(hx:h'.get? a=some o1)(hn:h'.Ns1 s.heap.objs.size mA)(hr:∀f,bJ (fs.lookup f) (mA f))
  (k:∀b o,b≠a->s.heap.get? b=some o->h'.get? b=some o):Inv X zc σ (upd (upd H s.heap.objs.size (.xd fs)) a (XE a o1)) {s with heap:=h',toks:=t'}:=by
 have hf:H s.heap.objs.size=none:=I.aJ.fresh (B6 _);have other:∀b u,H b=some u->b≠a->(upd (upd H s.heap.objs.size (.xd fs)) a (XE a o1)) b=some u:=λb u q n=>by
  rw[Ao n,Ao (Ep q hf)];exact q
 refine I.un (h':=h') ⟨λb o q n _ _=>k b o (λz=>by subst z;rw[e]at n;cases n) q,λb o q n _ _=>⟨o.slots,k b o (λz=>by subst z;rw[e]at n;cases n) q⟩,λb o q n _=> ?_,λb o q _=> ?_,λb xs q=> ?_,λb o u q=> ?_,λb ps q=> ?_⟩ λb u q=> ?_
 ·rw[Ao (λz=>by subst z;rw[e]at n;cases n),Ao (D8 (A6 q))];exact n
 ·by_cases z:b=a
  ·subst z;exact⟨_,hx⟩
  ·exact⟨_,k b o z q⟩
 ·exact other b _ q λz=>by subst z;rw[e]at q;cases q
 ·exact other b _ q λz=>by subst z;rw[e]at q;cases q
 ·exact⟨#[],by rw[other b _ q λz=>by subst z;rw[e]at q;cases q];simp⟩
 ·by_cases z:b=a
  ·subst z;rw[Bf]at q;cases q;exact XE.ok hx
  ·rw[Ao z]at q
   by_cases z2:b=s.heap.objs.size
   ·subst z2;rw[Bf]at q;cases q;exact⟨mA,hn,hr⟩
   ·rw[Ao z2]at q;refine(I.aJ b u q).cX (λc v hc z3=>k c v ?_ z3) (λc z3=>other c _ z3 λz4=> ?_) λc xs z3=>other c _ z3 λz4=> ?_
    ·rcases hc with rfl|hc
     ·exact z
     ·exact λz4=>by subst z4;rw[e]at hc;cases hc
    ·subst z4;rw[e]at z3;cases z3
    ·subst z4;rw[e]at z3;cases z3
def Inv.forget{a:Addr}{φ:Heap->Prop}(I:Inv X zc σ (upd H a (.ext φ)) s)(hn:H a=none):Inv X zc σ H s:=by
 have sub:∀b u,H b=some u->upd H a (.ext φ) b=some u:=λb u e=>by rw[Ao (Ep e hn)];exact e
 have nf:∀b,upd H a (.ext φ) b=none->H b=none:=λb e=>by
  by_cases z:b=a
  ·subst z;exact hn
  ·rw[Ao z]at e;exact e
 have bk:∀b u,upd H a (.ext φ) b=some u->(∀ψ,u≠ .ext ψ)->H b=some u:=λb u e n=>by
  by_cases z:b=a
  ·subst z;rw[Bf]at e;cases e;exact absurd rfl (n φ)
  ·rw[Ao z]at e;exact e
 have B:=I.base;refine⟨I.ok,I.os,I.bare,⟨B.keep,B.slot,λb u q n x=>nf b (B.free b u q n x),B.there,λb xs q=>bk _ _ (B.cS b xs q) (λ_ z=>nomatch z),λb u v q=>bk _ _ (B.cC b u v q) (λ_ z=>nomatch z),λb ps q=> ?_⟩,I.loc,I.cell,nf _ I.free,λx c e=>nf _ (I.bE x c e),λp hp=> ?_,λb u e=> ?_,I.len⟩
 ·obtain⟨more,z⟩:=B.cT b ps q;exact⟨more,bk _ _ z (λ_ z=>nomatch z)⟩
 ·obtain⟨p1,p2,p3⟩:=I.pin p hp;exact⟨p1,nf _ p2,p3⟩
 ·exact(I.aJ b u (sub b u e)).cX (λ_ _ _ q=>q) (λc q=>bk _ _ q (λ_ z=>nomatch z)) (λc xs q=>bk _ _ q (λ_ z=>nomatch z))
end
def lJ(C:Addr)(f:Str):Sp:=λvs H Q _=>∃a v us,vs= [.ref a,v]/\H a=some (XE a ⟨.ref C,none,.fields us, #[]⟩)/\∀d,H d=none->d≠a->Q .aK (upd (upd H d (.xd [(f,v)])) a (XE a ⟨.ref C,some d,.fields us, #[]⟩))
section
variable{X:Cx}{C:Addr}{f:Str}{pos pos' p1 p2:Pos}{x y:Str}
def DM(C:Addr)(f:Str):TS:=λD σ H=>∃a v us,σ[0]? =some (some (.ref a))/\σ[1]? =some (some v)/\H a=some (XE a ⟨.ref C,none,.fields us, #[]⟩)/\∀d,H d=none->d≠a->D.nx σ (upd (upd H d (.xd [(f,v)])) a (XE a ⟨.ref C,some d,.fields us, #[]⟩))
def GW(xc:fV X.K C)(hn:findIn X.K (.ref C) f=some none)(ho:PE X (.Name x p1) (qK 0))(hv:PE X (.Name y p2) (qK 1))(hs:swapsWith (.Name y p2) (some (.Attribute (.Name x p1) f pos')) pos.line X.env=pure false:=by rfl):
  PS X (.Assign [.Attribute (.Name x p1) f pos'] (.Name y p2) pos) (DM C f):=by
 intro zc s σ H D I h;obtain⟨a,v,us,e0,e1,ha,q⟩:=h;refine W1 (Ay (hv zc s σ H (λy H1=>y=v/\H1=H) I ⟨v,e1,rfl,rfl⟩) λu s1 ⟨y,H1,I1,ry,ey,eH⟩=>Ay (ho zc s1 σ H1 (λy H2=>y=.ref a/\H2=H) I1 ⟨.ref a,e0,rfl,eH⟩) λov s2 ⟨x,H2,I2,rx,ex,eH2⟩=> ?_) hs;subst ey ex eH eH2;obtain rfl:ov=Value.ref a:=rx;refine YR I2.cN (XE.get I2.aJ ha) xc hn λh' tk g1 g2 g3=> ?_;refine⟨σ,_,Inv.yn I2 (t':=tk) (fs:=[(f,y)]) ha g1 g2 (λg=> ?_) g3,q _ (I2.aJ.fresh (B6 _)) ?_⟩
 ·show bJ ([(f,y)].lookup g) (if g=f then some u else none)
  by_cases z:g=f
  ·subst z;rw[if_pos rfl];simp only[J6,M4];exact ry
  ·rw[if_neg z];have zb:(g ==f)=false:=by simpa using z
   simp only[J6,zb,List.lookup_nil]
   trivial
 ·exact Y3 (A6 (XE.get I2.aJ ha))
end
abbrev hU:List Value:=[.type "ValueError",.type "Exception",.type "BaseException",.type "object"]
def pU(es:Array DictEntry):Bool:=es.toList.all λe=>match e.key with| .str _ _=>true|_=>false
def Yo{es:Array DictEntry}(h:pU es=true):StrKeys es:=λe he=>by
 have q:=F8.mp h e (Array.mem_toList_iff.mpr he);revert q;cases hk:e.key with
 |str n t=>intro _;exact⟨n,t,rfl⟩
 |_=>intro q;cases q
def qX{N:Addr}{oc:Value}{od:Option Addr}{es:Array DictEntry}{ep:Nat}{sl:Array (Option Value)}(l:K.lookup N=some ⟨oc,od,.dict es ep,sl⟩)(k:pU es=true){h:Heap}(X:K.In h):h.Ns N (nsFind es):=
 ⟨_,es,ep,X _ _ l,rfl,Yo k,λ_=>rfl⟩
def OV(K:Frag)(C fI:Addr):Prop:=∃(nm q:Str) (N:Addr) (bs bm:List Value) (sn:List Str) (sub:List Value) (ab:Bool) (col:Option Bool) (dd:Option Addr) (k0 k1 k2 k3 k5:Option Value) (mN:AB),
 K.lookup C=some (excClassObj nm q C N bs bm true sn sub ab col dd k0 k1 k2 k3 k5 "ValueError.__new__")/\(∀h:Heap,K.In h->OwnTail h hU bm)/\(∀h:Heap,K.In h->h.Ns N mN)/\mN "__init__" =some (.ref fI)
def Rr{C fI N L:Addr}{nm q:Str}{bs:List Value}{sn:List Str}{sub:List Value}{ab:Bool}{col:Option Bool}{dd:Option Addr}{k0 k1 k2 k3 k5:Option Value}{oc c0 oL:Value}{od uW uH:Option Addr}{es ji:Array DictEntry}{ep uV:Nat}{sl uz uy:Array (Option Value)}{cd:ClassData}
  (lc:K.lookup C=some (excClassObj nm q C N bs (.ref L::hU) true sn sub ab col dd k0 k1 k2 k3 k5 "ValueError.__new__")) (ln:K.lookup N=some ⟨oc,od,.dict es ep,sl⟩) (kn:pU es=true) (hi:nsFind es "__init__" =some (.ref fI))
  (ll:K.lookup L=some ⟨c0,uW,.cls cd,uz⟩) (lm:K.lookup cd.ns=some ⟨oL,uH,.dict ji uV,uy⟩) (km:pU ji=true) (hL:nsFind ji "__init__" =none):OV K C fI:=
 ⟨nm,q,N,bs,_,sn,sub,ab,col,dd,k0,k1,k2,k3,k5,nsFind es,lc,λh X=> .own (X _ _ ll) (qX lm km X) hL .base,λh X=>qX ln kn X,hi⟩
def Uc{C N L:Addr}{nm q:Str}{bs:List Value}{sn:List Str}{sub:List Value}{ab:Bool}{col:Option Bool}{dd:Option Addr}{k0 k1 k2 k3 k5:Option Value}
  (lc:K.lookup C=some (excClassObj nm q C N bs (.ref L::hU) true sn sub ab col dd k0 k1 k2 k3 k5 "ValueError.__new__")) (sa:findIn K (.ref C) "__setattr__" =some (some (.builtin "object.__setattr__"))):fV K C:=
 ⟨sa,by unfold clsIn;rw[lc];rfl⟩
def GV{c:Bool}{P:Program}{w:World}{x qual sf at_ fl:Str}{st:Stmt}{f C:Addr}{k:Nat}(F:bC K x qual st f fd)(S:aV [sf,at_] [sf,at_] (Cc st))
  (zh:∀(zp:Value) (A:Around) (outer:List Env) (s:Shared) (H:Hp) (E:XK),gO (Gr c P w K mg base [sf,at_] qual (Cc st) f zp A outer s H E) (Ft st) (DM C fl)):bI P w K mg base c (k + 1) f fd [sf,at_] (lJ C fl):=by
 refine bC.AN F S (λvs H Q E h=> ?_) λzp A outer s H vs Q E hr h=>⟨_,zh zp A outer s H E, ?_⟩
 ·obtain⟨a,v,us,rfl,_⟩:=h;rfl
 ·obtain⟨a,v,us,rfl,ha,q⟩:=h;exact⟨a,v,us,rfl,rfl,ha,q⟩
theorem xF{h:Heap}:∀{bm:List Value},OwnTail h hU bm->bm.contains (.type "BaseException")=true
 |_,.base=>by decide
 |_,.own _ _ _ t=>by rw[N1,xF t,MM]
structure XC(P:Program)(w:World)(K:Frag)(mg:AB)(base:Heap)(c:Str)(f:Str)(C:Addr):Prop where
 at_:ClsAt K c C
 glob:mg c=some (.ref C)
 kp:keepIn K (.ref C)=true
 xc:fV K C
 made:∃(fI:Addr) (fd:FuncData) (ps:List Str) (oI:Obj),OV K C fI/\K.lookup fI=some oI/\oI.cls=.type "function" /\bI P w K mg base false 1 fI fd ps (lJ C f)/\Binds K fd ps []
section
variable{X:Cx}{zc:AE}{σ:Sg}{H:Hp}{s:Shared}{C:Addr}{c f:Str}
def VQ{e d:Addr}{o0 o1 x:HO}:upd (upd (upd H e o0) d x) e o1=upd (upd H d x) e o1:=by
 funext b
 unfold upd
 by_cases z:b=e
 ·rw[if_pos z,if_pos z]
 ·rw[if_neg z,if_neg z,if_neg z]
def Xe{u:Value}{Q:AA}{E:AA}(M:XC X.prog X.w X.K X.mg X.base c f C)(hr:aF false 2 X.A)(I:Inv X zc σ H s)(r:RelV v u)
  (h:∀a d t s',H a=none->H d=none->d≠a->s.heap.objs.size<=a->Inv X zc σ (upd (upd H d (.xd [(f,v)])) a (XE a ⟨.ref C,some d,.fields #[.ref t,.none,.none,.none,.bool false,.none], #[]⟩)) s'->Q (.ref a) s'):
  wpAny (model X.prog X.w) X.A (call (.ref C) [u]) Q E s:=by
 obtain⟨fI,fd,ps,oI,⟨nm,q,N,bs,bm,sn,sub,ab,col,dd,k0,k1,k2,k3,k5,mN,lc,tl,hn,hi⟩,lI,hI,F,hb⟩:=M.made;have KX:=I.cN;obtain⟨hh,g,dr,tk,os⟩:=s;refine Wn Z0 (tl hh KX) (KX _ _ lc) (hn hh KX) hi (KX _ _ lI) hI (λh' e me ze=> ?_) (by show 1<=sizeLine;rw[D9];lia);obtain⟨kk,new,t,et,_,_⟩:=me;have I2:Inv X zc σ (upd H e (XE e ⟨.ref C,none,.fields #[.ref t,.none,.none,.none,.bool false,.none], #[]⟩)) ⟨h',g,dr,tk,os⟩:=I.laid (h':=h') (t':=tk) kk ze (XE.ok et);have he:H e=none:=I.aJ.fresh ze;have r2:Vals [.ref e,v] [.ref e,u]:=.cons rfl (.cons r .nil);have sp:lJ C f [.ref e,v] (upd H e (XE e ⟨.ref C,none,.fields #[.ref t,.none,.none,.none,.bool false,.none], #[]⟩)) (λy H2=>y=.aK/\∃d,H d=none/\d≠e/\H2=upd (upd H d (.xd [(f,v)])) e (XE e ⟨.ref C,some d,.fields #[.ref t,.none,.none,.none,.bool false,.none], #[]⟩)) (λ_ _ _=>False):=
  ⟨e,v,_,rfl,Bf,λd hd ne=>⟨rfl,d,by rw[Ao ne]at hd;exact hd,ne,VQ⟩⟩
 have hl: [Value.ref e,u].length=ps.length:=F.len _ _ _ _ sp;have cO:=hb ⟨h',g,dr,tk,os⟩ [.ref e,u] I2.cN (by rw[E4];exact hl);rw[E4]at cO;refine W8 (R1 (F.run _ X.stack _ _ ⟨[.ref e,u],[]⟩ [.ref e,u] [.ref e,v] _ _ (hr.make C [u] []) (I2.vq.make C [u] []) cO r2 sp) λr s' hq=> ?_);cases r with
 |error x=>
  obtain⟨a,C',dx,T,H',_,_,_,_,_,_,_,_,_,_,z⟩:=hq;exact z.elim
 |ok fl=>
  cases fl with
  |ret y=>
   obtain⟨v',H',I3,rv,ev,d,hd,ne,eH⟩:=I2.after hq;subst ev eH;exact⟨rv,h e d t s' he hd ne ze I3⟩
  |next=>exact False.elim hq
  |brk=>exact False.elim hq
  |cont=>exact False.elim hq
def Pa(X:Cx)(EX:Ax):Prop:=∀(zc:AE) (σ:Sg) (H H':Hp) (s s':Shared) (a C:Addr) (dx:Option Addr) (o:Obj) (us:Array Value),Inv X zc σ H s->Inv X zc σ H' s'->s'.heap.get? a=some o->o.cls=.ref C->o.dict=dx->o.data=.fields us->us[1]? =some .none->us[2]? =some .none->
 H' a=none->s.heap.objs.size<=a->nE X.K (EX σ) (.ref C) dx H'->X.xe (.ref a) s'
def rP{cm:Bool}{P:Program}{w:World}{N:List Str}{qual:Str}{scope:Scope}{f:Addr}{cd:Value}{A:Around}{outer:List Env}{s:Shared}{E:XK}:
  Pa (Gr cm P w K mg base N qual scope f cd A outer s H E) (λ_=>bW K E):=λzc σ H H' s s' a C dx o us I I' he hc hx hd h1 c2 n1 z1 q=>ZF I I' he hc hx hd h1 c2 n1 z1 q.of
def lH(c f:Str)(js:List Nat)(fe:FE):FS:=λ Δ=>match fe (At (aD js Δ)) with
 | .ok w=> .ex ⟨c,[f],[w.d]⟩ (aD js Δ)
 | .ex x=> .ex x (aD js Δ)
 | .no=> .no
def Ih{EX:Ax}(js:List Nat){e:Expr}{fe:FE}{np zd pos:Pos}(M:XC X.prog X.w X.K X.mg X.base c f C)(hr:aF true 2 X.A)(l1:Pa X EX)(he:ED X EX e fe)(hg:Gl X c:=by rfl)(cW:AG c:=by decide)
  (hs:starEach [e] X.env=(false,eval e X.env)::starEach [] X.env:=by rfl) (bZ:(backTo zd (starEach [] X.env)).any (·.1)=false:=by rfl):
  SD X EX (.Raise (some (.Call (.Name c np) [e] [] zd)) none pos) (lH c f js fe):=by
 intro zc s σ H D I q;obtain⟨H0,G0,G,Δ,O,E,q⟩:=q;obtain⟨G',O',sg,E'⟩:=E.aD js;obtain⟨fI,fd,ps,oI,⟨nm,qn,N,bs,bm,sn,sub,ab,col,dd,k0,k1,k2,k3,k5,mN,lc,tl,hn,hi⟩,lI,hI,F,hb⟩:=M.made;have hB:bm.contains (.type "BaseException")=true:=xF (tl s.heap I.cN);rw[arm_exec_Raise];have tD0:tD X.K EX fe σ H λv H1=>∃v' w G1,[v]= [v']/\fe (At (aD js Δ))=.ok w/\Step G' H G1 H1/\aM X.K G1 v' w.d:=by
  refine⟨G',At (aD js Δ),E'.st.gh,E'.dU, ?_⟩;unfold lH at q;cases e1:fe (At (aD js Δ)) with
  |ok w=>exact WP.intro λv G1 H1 st r=>⟨v,w,G1,rfl,rfl,st,r⟩
  |ex x=>rw[e1]at q;exact q σ G' H O' E' sg
  |no=>rw[e1]at q;exact q
 have mk:wpAny (model X.prog X.w) X.A (eval (.Call (.Name c np) [e] [] zd) X.env) (λv s1=>∃a t dx,v=.ref a/\s1.heap.get? C=some (excClassObj nm qn C N bs bm true sn sub ab col dd k0 k1 k2 k3 k5 "ValueError.__new__")/\
   s1.heap.get? a=some {cls:=.ref C,dict:=dx,data:=.fields #[.ref t,.none,.none,.none,.bool false,.none]}/\X.xe (.ref a) s1) X.xe s:=by
  refine N0 (qi I hg M.glob ?_ cW);refine Y6 (h₀:=X.base) I.ok.mod.mG M.kp (Ay (iS he mB hs zd zc s σ H (λvs H1=>∃v' w G1,vs= [v']/\fe (At (aD js Δ))=.ok w/\Step G' H G1 H1/\aM X.K G1 v' w.d) I tD0) λus s1 ⟨vs,H1,I1,r,v,w,G1,ev,ew,st,hv⟩=>⟨I1.cN, ?_⟩) hs bZ;subst ev;obtain⟨u,rfl,ru⟩:=r.one;refine Xe M hr.loose I1 ru λa d t s2 ha hd ne za I2=> ?_;have ga:=XE.get I2.aJ Bf;refine⟨a,t,some d,rfl,I2.cN _ _ lc,ga, ?_⟩;have I3:Inv X zc σ (upd H1 d (.xd [(f,v)])) s2:=Inv.forget I2 (by rw[Ao ne.symm];exact ha);refine l1 zc σ H1 _ s1 s2 a C (some d) _ _ I1 I3 ga rfl rfl rfl rfl rfl (by rw[Ao ne.symm];exact ha) za ?_;have aT:Step G1 H1 (upd G1 d (.xd [(f,v)])) (upd H1 d (.xd [(f,v)])):=Step.new st.gh hd _;refine⟨⟨c,[f],[w.d]⟩,upd G1 d (.xd [(f,v)]),aT.gh,.iA M.at_ Bf rfl (.cons (hv.mono aT.gg) .nil), ?_⟩;unfold lH at q;rw[ew]at q;exact q σ _ _ O' ((E'.grow st).grow aT) (sg.trans (st.gg.trans aT.gg))
 refine A5 (S4 (Jq hB (hr.hd rfl) (A5 (F5 mk (λv s3 h3=>A5 (S4 (F0 h3))) λ_ _ x=>x))))
end
section
variable{X:Cx}{zc:AE}{σ:Sg}{H:Hp}{s:Shared}
def sH{M:Model}{A:Around}{E:AA}{i:Nat}{n:Str}{Q:Unit->Shared->Prop}(I:Inv X zc σ H s)(hN:X.N.Nodup)(hi:X.N[i]? =some n)(hk:X.env.scope.names.lookup n=some .local)
  (h:∀s',Inv X zc (σ.set i none) H s'->Q .unit s'):wpAny M A (do bindName X.env n .none;unbindBehindTheSuite X.env n pos) Q E s:=by
 obtain⟨m,hn,hl⟩:=id I.loc;have bx:(X.env.scope.kind == .class || (X.env.scope.kind == .module && X.env.locals != X.env.globals))=false:=by rw[I.ok.kind];rfl
 have hiσ:i < σ.length:=by rw[I.len];exact(B5.mp hi).1
 have nu:=I.nu;have tracked:∀{a:Addr} {h':Heap},(∃o,s.heap.get? a=some o/\H a=none)->Heap.SameBut a s.heap h'->cP X.prog X.w H h':=λ{a h'} ha hs b ob e=>by
  obtain⟨_,_,ak⟩:=ha;refine(I.aJ b ob e).cX (λc w' hc q=>(hs.2 c ?_).trans q) (λ_ q=>q) λ_ _ q=>q
  rintro rfl
  rcases hc with rfl|hc
  ·rw[ak]at e;cases e
  ·rw[ak]at hc;cases hc
 refine wpAny_nameGoes_keeps hk hn bx λh' v NP hs=> ?_;obtain⟨oL,_,_,yU,_⟩:=id hn;refine h _ ⟨I.ok,I.os,I.bare,⟨λb o e n hb hx=> ?_,λb o e n hb hx=> ?_,I.base.free,λb o e hx=> ?_,I.base.cS,I.base.cC,I.base.cT⟩,⟨_,NP,λj y v' e1 e2 e3=> ?_⟩,λy c e=> ?_,I.free,I.bE,λp hp=> ?_,tracked ⟨oL,yU,I.free⟩ hs,by simpa using I.len⟩
 ·exact(hs.2 b (D8 (C6 (A6 e) I.ok.above))).trans (I.base.keep b o e n hb hx)
 ·obtain⟨sl,e1⟩:=I.base.slot b o e n hb hx;exact⟨sl,(hs.2 b (D8 (C6 (A6 e) I.ok.above))).trans e1⟩
 ·obtain⟨o',e1⟩:=I.base.there b o e hx;exact⟨o',(hs.2 b (D8 (C6 (A6 e) I.ok.above))).trans e1⟩
 ·by_cases hj:j=i
  ·subst hj;rw[F7 hiσ]at e2;cases e2
  ·rw[C4 (Ne.symm hj)]at e2;obtain⟨u',r',q⟩:=hl j y v' e1 e2 e3;refine⟨u',r', ?_⟩;rcases q with⟨k,e⟩|⟨k,c,e,z⟩
   ·refine .inl ⟨k, ?_⟩;have:y≠n:=λe=>hj (xq hN e1 (e▸hi));simp[this,e]
   ·exact .inr ⟨k,c,e,z.sameBut hs (nu y c e)⟩
 ·obtain⟨w',z⟩:=I.cell y c e;exact⟨w',z.sameBut hs (nu y c e)⟩
 ·obtain⟨e,n,ne,nf,d⟩:=I.pin p hp;exact⟨(hs.2 p.1 ne).trans e,n,ne,nf,d⟩
def Inv.Lv{H':Hp}{s':Shared}{a C:Addr}{dx:Option Addr}{us:Array Value}{sl:Array (Option Value)}(I:Inv X zc σ H s)(I':Inv X zc σ H' s')(za:s.heap.objs.size<=a)(e:s'.heap.get? a=some ⟨.ref C,dx,.fields us,sl⟩)(c2:us[2]? =some .none)(hn:H' a=none):Inv X zc σ (upd H' a (.aQ ⟨.ref C,dx,.fields us,sl⟩ (XO a C dx))) s':=by
 have B:=I'.base;have ns:∀b o,X.s₀.heap.get? b=some o->b≠a:=λb o q z=>absurd (C6 (A6 q) (D4 I.sz za)) (by rw[z];exact F3 _);have lt:∀b:Addr,b < s.heap.objs.size->b≠a:=λb h z=>absurd (C6 h za) (by rw[z];exact F3 _);have up:∀b u,H' b=some u->upd H' a (.aQ ⟨.ref C,dx,.fields us,sl⟩ (XO a C dx)) b=some u:=λb u q=>by rw[Ao (Ep q hn)];exact q
 refine⟨I'.ok,I'.os,I'.bare,⟨B.keep,B.slot,λb o q n x=>by rw[Ao (ns b o q)];exact B.free b o q n x,B.there,λb xs q=>up _ _ (B.cS b xs q),λb o u q=>up _ _ (B.cC b o u q),λb ps q=>let⟨m,z⟩:=B.cT b ps q;⟨m,up _ _ z⟩⟩,I'.loc,I'.cell, ?_,λx c q=> ?_,λp hp=> ?_,λb u q=> ?_,I'.len⟩
 ·rw[Ao (lt _ I.lt)];exact I'.free
 ·obtain⟨v,hv⟩:=I.cell x c q;rw[Ao (lt _ hv.lt)];exact I'.bE x c q
 ·obtain⟨p1,p2,p3⟩:=I'.pin p hp;exact⟨p1,by rw[Ao (lt _ (A6 (I.pin p hp).1))];exact p2,p3⟩
 ·by_cases z:b=a
  ·subst z;rw[Bf]at q;cases q;exact⟨e,XO.ok e c2⟩
  ·rw[Ao z]at q;exact(I'.aJ b u q).cX (λ_ _ _ q=>q) (λc q=>up _ _ q) λc xs q=>up _ _ q
end
noncomputable def gR(X:Cx)(zc:AE)(W:AA):Cx:={X with pn:=X.pn ++ zc,xe:=W}
structure HX where
 a:Addr
 C:Addr
 dx:Option Addr
 us:Array Value
 sl:Array (Option Value)
 c2:us[2]? =some .none
def HX.ho(e:HX):HO:=.aQ ⟨.ref e.C,e.dx,.fields e.us,e.sl⟩ (XO e.a e.C e.dx)
def hand(X:Cx)(e:HX):Cx:={X with A:=X.A.mark (some (.ref e.a)),calm:=false,xe:=λ_ _=>False,H₀:=upd X.H₀ e.a e.ho}
section
variable{X:Cx}{zc aj:AE}{σ:Sg}{H:Hp}{s:Shared}{W:AA}{e:HX}
def kr:(gR X zc W).Ok↔X.Ok:=⟨λok=>⟨ok.mod,ok.kind,ok.glob,ok.blt,ok.above,ok.inj,ok.has,ok.qD,ok.hd,ok.frames,ok.ti,ok.zx,ok.bs,ok.iU,ok.fG,ok.gZ,ok.cB,ok.kR⟩,
 λok=>⟨ok.mod,ok.kind,ok.glob,ok.blt,ok.above,ok.inj,ok.has,ok.qD,ok.hd,ok.frames,ok.ti,ok.zx,ok.bs,ok.iU,ok.fG,ok.gZ,ok.cB,ok.kR⟩⟩
def Inv.toB(I:Inv X zc σ H s):Inv (gR X zc W) [] σ H s:=⟨kr.mpr I.ok,I.os,I.bare,I.base,I.loc,I.cell,I.free,I.bE,λp hp=>I.pin p (by have hp:p∈(X.pn ++ zc) ++ []:=hp;rwa[E4]at hp),I.aJ,I.len⟩
def Inv.tH(I:Inv (gR X zc W) aj σ H s):Inv X zc σ H s:=⟨kr.mp I.ok,I.os,I.bare,I.base,I.loc,I.cell,I.free,I.bE,λp hp=>I.pin p (F2 _ hp),I.aJ,I.len⟩
theorem SP.tH{D:Ends}{f:Flow}(h:SP (gR X zc W) aj D f s):SP X zc D f s:=by
 cases f with
 |next=>obtain⟨σ',H',I,q⟩:=h;exact⟨σ',H',Inv.tH I,q⟩
 |brk=>obtain⟨σ',H',I,q⟩:=h;exact⟨σ',H',Inv.tH I,q⟩
 |cont=>obtain⟨σ',H',I,q⟩:=h;exact⟨σ',H',Inv.tH I,q⟩
 |ret u=>obtain⟨v,σ',H',I,r,q⟩:=h;exact⟨v,σ',H',Inv.tH I,r,q⟩
def Un.PX{fs ex:List Addr}{H0 H':Hp}{h h':Heap}{a:Addr}{o:Obj}{u:HO}(U:Un fs ex H0 H' h h')(z:h.objs.size<=a)(q:H' a=some (.aQ o u)):Un fs ex (upd H0 a (.aQ o u)) H' h h':=by
 have nb:∀b o,h.get? b=some o->b≠a:=λb o g e=>absurd (A6 g) (by rw[e];exact CF.mpr z);refine⟨λb o g n=>U.keep b o g (by rwa[Ao (nb b o g)]at n),λb o g n=>U.slot b o g (by rwa[Ao (nb b o g)]at n),λb o g n=>U.free b o g (by rwa[Ao (nb b o g)]at n),U.there,λb xs e=> ?_,λb ob v e=> ?_,λb ps e=> ?_⟩
 all_goals
  by_cases hb:b=a
  ·subst hb;rw[Bf]at e;cases e
   try exact q
  ·rw[Ao hb]at e
   first|exact U.cS b _ e|exact U.cC b _ _ e|exact U.cT b _ e
def Un.Ly{fs ex:List Addr}{H0 H1 H':Hp}{h h1 h':Heap}{a:Addr}{v:HO}(U0:Un fs ex H0 H1 h h1)(n:H1 a=none)(U:Un fs ex (upd H0 a v) H' h h')(z:h.objs.size<=a):Un fs ex H0 H' h h':=by
 have nb:∀b o,h.get? b=some o->b≠a:=λb o g e=>absurd (A6 g) (by rw[e];exact CF.mpr z);refine⟨λb o g q=>U.keep b o g (by rwa[Ao (nb b o g)]),λb o g q=>U.slot b o g (by rwa[Ao (nb b o g)]),λb o g q=>U.free b o g (by rwa[Ao (nb b o g)]),U.there,λb xs e=> ?_,λb ob v e=> ?_,λb ps e=> ?_⟩
 ·by_cases hb:b=a
  ·subst hb;have:=U0.cS b xs e;rw[n]at this;cases this
  ·exact U.cS b xs (by rwa[Ao hb])
 ·by_cases hb:b=a
  ·subst hb;have:=U0.cC b ob v e;rw[n]at this;cases this
  ·exact U.cC b ob v (by rwa[Ao hb])
 ·by_cases hb:b=a
  ·subst hb;obtain⟨m,q⟩:=U0.cT b ps e;rw[n]at q;cases q
  ·exact U.cT b ps (by rwa[Ao hb])
def Inv.LJ(I:Inv X zc σ H s)(z:X.s₀.heap.objs.size<=e.a)(q:H e.a=some e.ho):Inv (hand X e) zc σ H s:=by
 have nb:∀b o,X.s₀.heap.get? b=some o->b≠e.a:=λb o g y=>absurd (A6 g) (by rw[y];exact CF.mpr z);refine⟨⟨I.ok.mod,I.ok.kind,I.ok.glob,I.ok.blt,I.ok.above,I.ok.inj,I.ok.has,I.ok.qD,λz=>absurd z A7,I.ok.frames,I.ok.ti,I.ok.zx,λb o g=> ?_,I.ok.iU,I.ok.fG,I.ok.gZ,I.ok.cB,λb hb=> ?_⟩,I.os,I.bare,Un.PX I.base z q,I.loc,I.cell,I.free,I.bE,I.pin,I.aJ,I.len⟩
 ·obtain⟨g1,g2⟩:=I.ok.bs b o g;exact⟨g1,(Ao (nb b o g1)).trans g2⟩
 ·obtain⟨_,u,hu,_⟩:=I.ok.cB.mem hb;exact(Ao (nb b u hu)).trans (I.ok.kR b hb)
def Inv.tF{p0:AE}{σ0:Sg}{H0:Hp}{s0:Shared}(J:Inv X p0 σ0 H0 s0)(n:H0 e.a=none)(z:X.s₀.heap.objs.size<=e.a)(I:Inv (hand X e) zc σ H s):Inv X zc σ H s:=⟨J.ok,I.os,I.bare,Un.Ly J.base n I.base z,I.loc,I.cell,I.free,I.bE,I.pin,I.aJ,I.len⟩
end
noncomputable def DL(i:Nat):Fl->Fl
 | .nx Δ=> .nx (Δ.set i .no)
 | .bk Δ=> .bk (Δ.set i .no)
 | .ct Δ=> .ct (Δ.set i .no)
 | .rt w=> .rt w
 |_=> .no
def bL(K:Frag)(C2:Addr)(tb:List (Str×Bool)):Prop:=∀c b,tb.lookup c=some b->∀C,ClsAt K c C->exmOne K (.ref C) (.ref C2)=some b
def Ev.drop{H0:HB}{G0 G H:Hp}{σ:Sg}{Δ:SE}{O:OS}(E:Ev K H0 G0 G H σ Δ O)(i:Nat):Ev K H0 G0 G H (σ.set i none) (Δ.set i .no) O:=by
 refine⟨E.st,by rw[F9,F9];exact E.len,λj d e=> ?_,λj z d e zo=> ?_,E.out,E.dj,λj d e=> ?_,λj d e=> ?_⟩
 ·rcases Fa e with⟨rfl,q⟩|⟨n,q⟩
  ·cases q
  ·rw[C4 n];exact E.sh j d q
 ·rcases Fa e with⟨rfl,q⟩|⟨n,q⟩
  ·subst q;cases zo
  ·rw[C4 n];exact E.ow j z d q zo
 ·rcases Fa e with⟨rfl,q⟩|⟨n,q⟩
  ·cases q
  ·rw[C4 n];exact E.lk j d q
 ·rcases Fa e with⟨rfl,q⟩|⟨n,q⟩
  ·cases q
  ·rw[C4 n];exact E.lt j d q
section
variable{X:Cx}{EX:Ax}{i:Nat}{tb:List (Str×Bool)}{g h:FS}{c n:Str}{C2:Addr}{body ah:List Stmt}{b₀:Stmt}{np hp pos:Pos}
def aM.exc{G:Hp}{a C:Addr}{dx:Option Addr}{o:Obj}{x:Xn}(hn:G a=none)(e:ExcAt K G (.ref C) dx x):aM K (upd G a (.aQ o (XO a C dx))) (.ref a) (.uU x.c x.ns x.vs):=by
 cases e with
 |bare hc=>exact .dP hc Bf
 |iA hc hd hl r=>exact .dO hc Bf (by rw[Ao (Ep hd hn)];exact hd) hl (r.mono (jV hn _))
def VP{H0:HB}{G0 G1:Hp}{D:Ends}{r:Fl}(q:Fin K EX H0 G0 G1 D (DL i r)):Fin K Cm H0 G0 G1 {nx:=λ σ H=>D.nx (σ.set i none) H,rt:=D.rt,bk:=λ σ H=>D.bk (σ.set i none) H,ct:=λ σ H=>D.ct (σ.set i none) H} r:=by
 cases r with
 |nx Δ=>exact λ σ G H O E sg=>q _ G H O (E.drop i) sg
 |bk Δ=>exact λ σ G H O E sg=>q _ G H O (E.drop i) sg
 |ct Δ=>exact λ σ G H O E sg=>q _ G H O (E.drop i) sg
 |rt w=>exact q
 |rv d Δ=>exact q.elim
 |ex x Δ=>exact q.elim
 |no=>exact q
end
structure aaJ(K:Frag)(C:Addr)(f:Str):Prop where
 ga:findIn K (.ref C) "__getattribute__" =some (some (.builtin "BaseException.__getattribute__"))
 gt:findIn K (.ref C) "__getattr__" =some none
 be:mroIn K C (.type "BaseException")=some true
 hd:hasDictIn K C=true
 no:findIn K (.ref C) f=some none
section
variable{prog:Program}{w:World}{A:Around}{E:AA}{s:Shared}{K:Frag}{x C dx:Addr}{f:Str}
structure aaB(K:Frag)(C:Addr):Prop where
 ga:findIn K (.ref C) "__getattribute__" =some (some (.builtin "BaseException.__getattribute__"))
 gt:findIn K (.ref C) "__getattr__" =some none
 be:mroIn K C (.type "BaseException")=some true
 hd:hasDictIn K C=true
 cl:findIn K (.ref C) "__class__" =some (some (.builtin "object.__class__"))
 gs:specialIn K (.builtin "object.__class__") "__get__" =some (some (.builtin "getset_descriptor.__get__"))
 tk:takesIn K (.builtin "object.__class__")=some true
 ob:mroIn K C (.type "object")=some true
end
def LA(cs:List Str)(f:Str)(fo:FE):FE:=λ δ=>(fo δ).bind λw=>match w.d with
 | .uU c ns vs=>if cs.contains c=true then(match(ns.zip vs).lookup f with|some d=> .ok (.sh d)|none=> .no) else .no
 |_=> .no
section
variable{X:Cx}{EX:Ax}{o:Expr}{fo:FE}{f:Str}{cs:List Str}{pos:Pos}
end
def RJ(tb:List (Str×Bool))(fo:FE):FE:=λ δ=>(fo δ).bind λw=>match w.d with
 | .uU c _ _=>(match tb.lookup c with|some b=> .ok (.sh (.bl b))|none=> .no)
 |_=> .no
section
variable{X:Cx}{EX:Ax}{zc:AE}{σ:Sg}{G H:Hp}{s:Shared}
variable{a:Expr}{fo:FE}{tb:List (Str×Bool)}{pp pos:Pos}
end
theorem aF.units{c:Bool}{k:Nat}{A:Around}(r:aF c k A):A.units + 64 < cLine:=by have:=r.un;lia
section
variable{X:Cx}{c:Bool}{k:Nat}{zc:AE}{W:AA}{e:HX}
def VO(h:aF c k (Cx.A X)):aF c k (Cx.A (Cx.mC X)):=h
def VN(h:aF c k (Cx.A X)):aF c k (Cx.A (gR X zc W)):=h
def VM(h:Cx.calm X=true):Cx.calm (Cx.mC X)=true:=h
def jk{cm:Bool}{P:Program}{w:World}{N:List Str}{qual:Str}{scope:Scope}{f:Addr}{cd:Value}{A:Around}{outer:List Env}{s:Shared}{E:XK}:
  PassesOwn (model P w) (Cx.A (Gr cm P w K mg base N qual scope f cd A outer s H E)) (Cx.env (Gr cm P w K mg base N qual scope f cd A outer s H E)) (Cx.xe (Gr cm P w K mg base N qual scope f cd A outer s H E)):=
 λe s' h=>wpAny_leaving_again (SameStack.refl _) h
def bL.one{C2:Addr}{c:Str}{C:Addr}{b:Bool}(a:ClsAt K c C)(h:exmOne K (.ref C) (.ref C2)=some b){tb:List (Str×Bool)}(r:bL K C2 tb):bL K C2 ((c,b)::tb):=λc' b' e C' a'=>by
 rw[J6]at e;cases z:(c' ==c) with
 |true=>
  rw[z]at e;cases e;have:c'=c:=eq_of_beq z;subst this;unfold ClsAt at a a';rw[a]at a';cases a';exact h
 |false=>rw[z]at e;exact r c' b' e C' a'
def bL.nil{C2:Addr}:bL K C2 []:=λ_ _ e=>by cases e
end
structure Hd where
 i:Option Nat
 tb:List (Str×Bool)
 h:FS
def vo(d:Hd)(x:Xn)(Δ:SE):Fl:=match d.i with
 |some i=>DL i (d.h (Δ.set i (.sh (.uU x.c x.ns x.vs))))
 |none=>(match d.h Δ with
  | .ex _ _=> .no
  |r=>r)
def jm:List Hd->Xn->SE->Fl
 | [],_,_=> .no
 |d::r,x,Δ=>match d.tb.lookup x.c with
  |some true=>vo d x Δ
  |some false=>jm r x Δ
  |none=> .no
def jv(g:FS)(hs:List Hd):FS:=λ Δ=>match g Δ with
 | .ex x Δ1=>jm hs x Δ1
 |r=>r
inductive iy(X:Cx):List ExceptHandler->List Hd->Prop where
 |nil:iy X [] []
 |as_ {c n:Str} {C2:Addr} {b₀:Stmt} {ah:List Stmt} {np hp:Pos} {i:Nat} {tb:List (Str×Bool)} {h:FS} {hs:List ExceptHandler} {ds:List Hd} (hc:X.mg c=some (.ref C2)) (ct:bL X.K C2 tb) (hh:∀e,BD (hand X e) Cm (b₀::ah) h) (r:iy X hs ds)
   (hi:X.N[i]? =some n:=by rfl) (hk:X.env.scope.names.lookup n=some .local:=by rfl) (hg:Gl X c:=by rfl) (cW:AG c:=by decide):
   iy X (.ExceptHandler (some (.Name c np)) (some n) (b₀::ah) hp::hs) (⟨some i,tb,h⟩::ds)
 |bare {c:Str} {C2:Addr} {b₀:Stmt} {ah:List Stmt} {np hp:Pos} {tb:List (Str×Bool)} {h:FS} {hs:List ExceptHandler} {ds:List Hd} (hc:X.mg c=some (.ref C2)) (ct:bL X.K C2 tb) (hh:∀e,BD (hand X e) Cm (b₀::ah) h) (r:iy X hs ds)
   (hg:Gl X c:=by rfl) (cW:AG c:=by decide):
   iy X (.ExceptHandler (some (.Name c np)) none (b₀::ah) hp::hs) (⟨none,tb,h⟩::ds)
def EXh(K:Frag)(EX:Ax)(D:Ends)(ds:List Hd):Ax:=λ σ=>⟨λx G H=>∃H0 G0 Δ O,Ev K H0 G0 G H σ Δ O/\Fin K EX H0 G0 G D (jm ds x Δ),
 λ_ _ _ _ _ s ⟨H0,G0,Δ,O,E,f⟩=>⟨H0,G0,Δ,O,E.grow s,Fin.mono s.gg f⟩⟩
def Ub{EX:Ax}{H0:HB}{G0 G1:Hp}{D:Ends}{r:Fl}(q:Fin K EX H0 G0 G1 D (match r with| .ex _ _=> .no|r=>r)):Fin K Cm H0 G0 G1 {nx:=D.nx,rt:=D.rt,bk:=D.bk,ct:=D.ct} r:=by
 cases r with
 |nx Δ=>exact q
 |bk Δ=>exact q
 |ct Δ=>exact q
 |rt w=>exact q
 |rv d Δ=>exact q
 |ex x Δ=>exact q.elim
 |no=>exact q
section
variable{X:Cx}{EX:Ax}{g:FS}{body:List Stmt}{pos:Pos}
def Xd(hN:X.N.Nodup){zc:AE}{D:Ends}{a C T2:Addr}{dx:Option Addr}{σ1 σ0:Sg}{H1 H2:Hp}{s1 s2:Shared}{h2:Heap}{x:Xn}{CH:HB}{G2 CJ:Hp}{Δ1:SE}{O1:OS}{e0:HX}{h9:Heap}(ha:e0.a=a)(hC:e0.C=C)(hx:e0.dx=dx)(zz:X.s₀.heap.objs.size<=e0.a)
  (J1:Inv X zc σ0 H1 s1) (J3:Inv X zc σ1 H2 {s2 with heap:=h9}) (J4:Inv X zc σ1 (upd H2 a e0.ho) {s2 with heap:=h2}) (qj:Step G2 H2 (upd G2 a e0.ho) (upd H2 a e0.ho))
  (n1:H2 a=none) (uA:aB G2 H2) (ea:ExcAt X.K G2 (.ref C) dx x) (LT:Looks (model X.prog X.w) h2 (typeOf (.ref a)) (.ref C)) (tX:ClsAt X.K x.c C)
  (E1:Ev X.K CH CJ G2 H2 σ1 Δ1 O1)
  (nr:∀{A:Around} {E:AA} {Q:Unit->Shared->Prop},(∀h3,Inv X zc σ1 (upd H2 a e0.ho) {s2 with heap:=h3}->Q .unit {s2 with heap:=h3})->wpAny (model X.prog X.w) A (setFlight (.ref a) none) Q E {s2 with heap:=h2}):
  ∀{hs:List ExceptHandler} {ds:List Hd},iy X hs ds->Fin X.K EX CH CJ G2 D (jm ds x Δ1)->wpAny (model X.prog X.w) X.A (handleBy (.ref a) X.env hs) (SP X zc D) X.xe {s2 with heap:=h2}:=by
 subst ha hC hx;intro hs ds ho
 induction ho with
 |nil=>intro q;exact False.elim q
 |as_ hc ct hh r hi hk hg cW ih=>
  rename_i c n C2 b₀ ah np hp i tb h hs ds;intro q;refine wpAny_handleBy_cons (codeAny_handlers_test ?_) (by intro z;cases z);refine qi (X:=hand X e0) (Inv.LJ J4 zz Bf) hg hc ?_ cW;unfold jm at q;cases e2:tb.lookup x.c with
  |none=>simp only[e2]at q;exact q.elim
  |some b=>
   have em:=ct _ _ e2 _ tX;refine MI (s:={s2 with heap:=h2}) (exm_one J4.cN LT em) ?_;cases b with
   |false=>simp only[e2]at q;exact ih q
   |true=>
    simp only[e2,vo]at q;show codeAny _ _ _ _ _;refine codeAny_handlers_suite_as (nr λh3 J5=> ?_);refine xp (X:=hand X e0) (v:=.ref e0.a) (Inv.LJ J5 zz Bf) hN hi (.inl hk) rfl (λs6 I6=> ?_) (.inr hk);have E6:=(E1.grow qj).put (i:=i) (aM.exc (uA.free n1) ea);refine F5 (hh e0 zc s6 _ _ _ I6 ⟨CH,CJ,_,_,O1,E6,VP (Fin.mono qj.gg q)⟩) (λf s7 h7=> ?_) λ_ _ z=>False.elim z;show wpAny _ X.A (do bindName X.env n .none;unbindBehindTheSuite X.env n hp) (λ_ s₃=>SP X zc D f s₃) _ s7;cases f with
    |next=>
     obtain⟨σ7,H7,I7,q7⟩:=h7;exact sH (Inv.tF J3 n1 zz I7) hN hi hk λs8 I8=>⟨_,H7,I8,q7⟩
    |brk=>
     obtain⟨σ7,H7,I7,q7⟩:=h7;exact sH (Inv.tF J3 n1 zz I7) hN hi hk λs8 I8=>⟨_,H7,I8,q7⟩
    |cont=>
     obtain⟨σ7,H7,I7,q7⟩:=h7;exact sH (Inv.tF J3 n1 zz I7) hN hi hk λs8 I8=>⟨_,H7,I8,q7⟩
    |ret u=>
     obtain⟨v,σ7,H7,I7,r7,q7⟩:=h7;exact sH (Inv.tF J3 n1 zz I7) hN hi hk λs8 I8=>⟨v,_,H7,I8,r7,q7⟩
 |bare hc ct hh r hg cW ih=>
  rename_i c C2 b₀ ah np hp tb h hs ds;intro q;refine wpAny_handleBy_cons (codeAny_handlers_test ?_) (by intro z;cases z);refine qi (X:=hand X e0) (Inv.LJ J4 zz Bf) hg hc ?_ cW;unfold jm at q;cases e2:tb.lookup x.c with
  |none=>simp only[e2]at q;exact q.elim
  |some b=>
   have em:=ct _ _ e2 _ tX;refine MI (s:={s2 with heap:=h2}) (exm_one J4.cN LT em) ?_;cases b with
   |false=>simp only[e2]at q;exact ih q
   |true=>
    simp only[e2,vo]at q;show codeAny _ _ _ _ _;refine codeAny_handlers_suite (nr λh3 J5=> ?_);have E6:=E1.grow qj;refine F5 (hh e0 zc {s2 with heap:=h3} _ _ _ (Inv.LJ J5 zz Bf) ⟨CH,CJ,_,_,O1,E6,Ub (Fin.mono qj.gg q)⟩) (λf s7 h7=> ?_) λ_ _ z=>False.elim z;cases f with
    |next=>
     obtain⟨σ7,H7,I7,q7⟩:=h7;exact⟨_,H7,Inv.tF J3 n1 zz I7,q7⟩
    |brk=>
     obtain⟨σ7,H7,I7,q7⟩:=h7;exact⟨_,H7,Inv.tF J3 n1 zz I7,q7⟩
    |cont=>
     obtain⟨σ7,H7,I7,q7⟩:=h7;exact⟨_,H7,Inv.tF J3 n1 zz I7,q7⟩
    |ret u=>
     obtain⟨v,σ7,H7,I7,r7,q7⟩:=h7;exact⟨v,_,H7,Inv.tF J3 n1 zz I7,r7,q7⟩
def Ua{NS:ExceptHandler}{NK:List ExceptHandler}{ds:List Hd}(hN:X.N.Nodup)(uO:X.env.frame=some X.env.locals)(cA:X.stack=X.env::X.outer)(hb:∀zc W Ph,Lk (gR X zc W) Ph->BD (gR X zc W) Ph body g)(ho:iy X (NS::NK) ds):
  SD X EX (.Try body (NS::NK) [] [] pos) (jv g ds):=by
 intro zc s σ H D I q;obtain⟨H0,G0,G,Δ,O,E,q⟩:=q;refine wpAny_Try_except ?_;have lk:Lk (gR X zc λe s₁=>wpAny (model X.prog X.w) X.A (noteFrame e X.env) (λ_ s₂=>wpAny (model X.prog X.w) X.A (setFlight e none) (λ_ s₃=>wpAny (model X.prog X.w) X.A (handleBy e X.env (NS::NK)) (SP X zc D) X.xe s₃) X.xe s₂) X.xe s₁) (EXh X.K EX D ds):=by
  intro aj σ1 H1 s1 e s2 I1 cx;obtain⟨a,C,dx,T,H2,rfl,I2,tr,n1,n2,z1,z2,x,G2,uA,ea,CH,CJ,Δ1,O1,E1,f1⟩:=Inv.raised I1 cx;show wpAny _ X.A (noteFrame (.ref a) X.env) _ _ s2;have J1:=Inv.tH I1;have J2:=Inv.tH I2;refine Jr (outer:=X.outer) (by rw[<-cA];exact J2.ok.frames) (by rw[<-cA];exact J2.stack) uO tr λh1 T2 z3 k1 t1=> ?_;refine LG t1 λh2 k2 t2=> ?_;have sV:H2 T2=none:=J2.aJ.fresh z3;have J3:Inv X zc σ1 H2 {s2 with heap:=h2}:=by
   refine Inv.settle (ch:=[a,T] ++ [T2]) J1 J2 (λb hb=> ?_) ?_
   ·have:b=a\/b=T\/b=T2:=by simpa using hb
    rcases this with rfl|rfl|rfl
    ·exact⟨z1,n1⟩
    ·exact⟨z2,n2⟩
    ·exact⟨D4 z1 (D4 (Q2 (A6 tr.ob.choose_spec.choose_spec.1)) z3),sV⟩
   ·rw[cA];exact k1.trans (bQ.of_same k2)
  obtain⟨⟨oa,ua,ga,gc,gd,gf,g1,g2⟩,ne,tbk⟩:=id t2;have goa:h2.get? a=some ⟨.ref C,dx,.fields ua,oa.slots⟩:=by
   obtain⟨c1,d1,e1,s1⟩:=oa;simp only at gc gd gf;subst gc gd gf;exact ga
  let e0:HX:=⟨a,C,dx,ua,oa.slots,g2⟩
  have zz:X.s₀.heap.objs.size<=e0.a:=D4 J1.sz z1;have J4:Inv X zc σ1 (upd H2 a e0.ho) {s2 with heap:=h2}:=Inv.Lv J1 J3 z1 goa g2 n1;have qj:Step G2 H2 (upd G2 a e0.ho) (upd H2 a e0.ho):=Step.new uA n1 _;have LT:Looks (model X.prog X.w) h2 (typeOf (.ref a)) (.ref C):=gc▸(Looks.ld ga).andThen .now;obtain⟨tX⟩:Nonempty (ClsAt X.K x.c C):=by cases ea with|bare hc=>exact⟨hc⟩|iA hc _ _ _=>exact⟨hc⟩
  refine Xd (e0:=e0) (T2:=T2) hN rfl rfl rfl zz J1 J3 J4 qj n1 uA ea LT tX E1 (λ{A E Q} hq=> ?_) ho f1;refine LG t2 λh3 k3 t3=>hq h3 ?_;refine Inv.settle (ch:=[T2]) (s':={s2 with heap:=h2}) J1 J4 (λb hb=> ?_) (bQ.of_same k3);have:b=T2:=by simpa using hb
  subst this;exact⟨D4 z1 (D4 (Q2 (A6 tr.ob.choose_spec.choose_spec.1)) z3),by rw[Ao ne];exact sV⟩
 refine F5 (hb zc _ _ lk [] s σ H D (Inv.toB I) ⟨H0,G0,G,Δ,O,E, ?_⟩) (λf s1 hs=> ?_) λ_ _ z=>z
 ·unfold jv at q;cases e1:g Δ with
  |ex x Δ1=>
   rw[e1]at q;exact λ σ1 G1 H1 O1 E1 sg=>⟨H0,G0,Δ1,O1,E1,Fin.mono sg q⟩
  |nx Δ1=>rw[e1]at q;exact q
  |bk Δ1=>rw[e1]at q;exact q
  |ct Δ1=>rw[e1]at q;exact q
  |rt w=>rw[e1]at q;exact q
  |rv d Δ1=>rw[e1]at q;exact q
  |no=>rw[e1]at q;exact q
 ·have Mh:=SP.tH hs;cases f with
  |next=>exact U6 Mh
  |brk=>exact Mh
  |cont=>exact Mh
  |ret u=>exact Mh
end
section
variable{prog:Program}{w:World}{A:Around}{E:AA}{h:Heap}{g:Array GenState}{d:Drawn}{t:Nat}{os:OsState}
variable{nm q:Str}{C N:Addr}{bs bm qE:List Value}{ax:Bool}{sn:List Str}{sub:List Value}{ab:Bool}{col:Option Bool}{dd:Option Addr}{k0 k1 k2 k3 k5:Option Value}{B newId ai:String}
def Yn(FB:ExcBaseFacts B newId ai qE)(T:OwnTail h qE bm){mN:AB}{Q:PySem.Fin->Shared->Prop}
  (hC:h.get? C=some (excClassObj nm q C N bs bm ax sn sub ab col dd k0 k1 k2 k3 k5 newId)) (hn:h.Ns N mN) (hi:mN "__init__" =none)
  (z:∀h' e,Heap.MadeExcOf h h' e (.ref C) []->h.objs.size<=e->Q (.done (.ret (.ref e))) ⟨h',g,d,t,os⟩):
  wpAny (model prog w) A (Builtin.«type.__call__» ⟨[.ref C],[]⟩) Q E ⟨h,g,d,t,os⟩:=by
 wp_walk using O4 hC,wpAny_madeBy_exc hC
 refine Z4 (V1 _ FB.quiet) (wpAny_check_new_subT FB T hC ?_);refine codeAny_exc_new_subT FB T hC ?_ (by show 0<=sizeLine;exact K5 _);show wpAny _ _ _ _ _ _;generalize e1:({cls:=.type "tuple",data:=.seq ([]:List Value).toArray}:Obj)=o1;generalize e2:({cls:=.ref C,data:=.fields #[.ref h.objs.size,.none,.none,.none,.bool false,.none]}:Obj)=o2;have up:∀b o,h.get? b=some o->((h.push o1).push o2).get? b=some o:=λb o e=>A4 _ (A4 _ e);have ge:((h.push o1).push o2).get? (h.objs.size + 1)=some o2:=by
  have:=C1 (h.push o1) (o:=o2) (by rw[<-e2];rfl)
  rwa[N8]at this
 have uT:=up _ _ hC;have NO:((h.push o1).push o2).Ns N mN:=hn.keeps up;have T1:=T.keeps up;have cl:o2.cls=.ref C:=by rw[<-e2]
 have tX:List.contains (Value.ref C::bm) (.ref C)=true:=S7.mpr (.head _);unfold isInstance
 repeat (first|(with_reducible refine O4 ge ?_;rw[cl])|(with_reducible refine Y0 uT ?_;rw[tX])|wp_step)
 show wpAny _ _ (typeLookup (.ref C) _) _ _ _;refine wpAny_typeLookup_tail uT NO T1 FB.mroIs FB.init.lookup ?_;rw[hi];refine S3 (A5 (wpAny_of_eq (FB.init.bind _) ?_));refine A5 (W8 (codeAny_call_builtin FB.init.plain FB.initEntry (wpAny_check_init_subT FB T1 uT ge cl ?_)));subst e1 e2
 wp_walk
 refine z _ (h.objs.size + 1) ⟨λb o hb=> ?_,Q3 (L7 _),h.objs.size + 2, ?_,Q3 (), ?_⟩ (L7 _)
 ·rw[L0 _ _ (Ne.symm (D8 (S9 (A6 hb))))];exact A4 _ (up b o hb)
 ·rw[S6 _ (A4 _ ge) rfl,N8,N8];rfl
 ·rw[L0 _ _ (D8 (T9 (h.objs.size + 1)))];exact Heap.get?_push_at (by rw[N8,N8]) rfl
def Xc(FB:ExcBaseFacts B newId ai qE)(T:OwnTail h qE bm){mN:AB}{Q:AA}
  (hC:h.get? C=some (excClassObj nm q C N bs bm ax sn sub ab col dd k0 k1 k2 k3 k5 newId)) (hn:h.Ns N mN) (hi:mN "__init__" =none)
  (z:∀h' e,Heap.MadeExcOf h h' e (.ref C) []->h.objs.size<=e->Q (.ref e) ⟨h',g,d,t,os⟩):
  wpAny (model prog w) A (call (.ref C) []) Q E ⟨h,g,d,t,os⟩:=by
 have f1:=tc_lookup;have f2:=tc_bind (.ref C);have Dh:Shared.TypeIs ⟨h,g,d,t,os⟩ (.ref C) "type" :=⟨_,hC,rfl⟩;refine W8 (codeAny_of_tree (?_:wpAny _ _ (callAny (.ref C) _) _ _ _))
 wp_walk using O4 hC
 refine⟨rfl, ?_⟩;exact ZA6 (V1 _ nofun) entry_typeCall (Z5 hC (Yn FB T hC hn hi z))
end
def sO(K:Frag)(C:Addr):Prop:=∃(nm q:Str) (N:Addr) (bs bm:List Value) (sn:List Str) (sub:List Value) (ab:Bool) (col:Option Bool) (dd:Option Addr) (k0 k1 k2 k3 k5:Option Value) (mN:AB),
 K.lookup C=some (excClassObj nm q C N bs bm true sn sub ab col dd k0 k1 k2 k3 k5 "ValueError.__new__")/\(∀h:Heap,K.In h->OwnTail h hU bm)/\(∀h:Heap,K.In h->h.Ns N mN)/\mN "__init__" =none
def TZ{C N L:Addr}{nm q:Str}{bs:List Value}{sn:List Str}{sub:List Value}{ab:Bool}{col:Option Bool}{dd:Option Addr}{k0 k1 k2 k3 k5:Option Value}{oc c0 oL:Value}{od uW uH:Option Addr}{es ji:Array DictEntry}{ep uV:Nat}{sl uz uy:Array (Option Value)}{cd:ClassData}
  (lc:K.lookup C=some (excClassObj nm q C N bs (.ref L::hU) true sn sub ab col dd k0 k1 k2 k3 k5 "ValueError.__new__")) (ln:K.lookup N=some ⟨oc,od,.dict es ep,sl⟩) (kn:pU es=true) (hi:nsFind es "__init__" =none)
  (ll:K.lookup L=some ⟨c0,uW,.cls cd,uz⟩) (lm:K.lookup cd.ns=some ⟨oL,uH,.dict ji uV,uy⟩) (km:pU ji=true) (hL:nsFind ji "__init__" =none):sO K C:=
 ⟨nm,q,N,bs,_,sn,sub,ab,col,dd,k0,k1,k2,k3,k5,nsFind es,lc,λh X=> .own (X _ _ ll) (qX lm km X) hL .base,λh X=>qX ln kn X,hi⟩
structure zC(K:Frag)(mg:AB)(c:Str)(C:Addr):Prop where
 at_:ClsAt K c C
 glob:mg c=some (.ref C)
 kp:keepIn K (.ref C)=true
 made:sO K C
def rO(c:Str):FS:=λ Δ=> .ex ⟨c,[],[]⟩ Δ
section
variable{X:Cx}{C:Addr}{c:Str}
def Ji{EX:Ax}{np zd pos:Pos}(M:zC X.K X.mg c C)(hr:aF true 2 X.A)(l1:Pa X EX)(hg:Gl X c:=by rfl)(cW:AG c:=by decide):
  SD X EX (.Raise (some (.Call (.Name c np) [] [] zd)) none pos) (rO c):=by
 intro zc s σ H D I q;obtain⟨H0,G0,G,Δ,O,E,q⟩:=q;obtain⟨nm,qn,N,bs,bm,sn,sub,ab,col,dd,k0,k1,k2,k3,k5,mN,lc,tl,hn,hi⟩:=M.made;have hB:bm.contains (.type "BaseException")=true:=xF (tl s.heap I.cN);rw[arm_exec_Raise];have mk:wpAny (model X.prog X.w) X.A (eval (.Call (.Name c np) [] [] zd) X.env) (λv s1=>∃a t dx,v=.ref a/\s1.heap.get? C=some (excClassObj nm qn C N bs bm true sn sub ab col dd k0 k1 k2 k3 k5 "ValueError.__new__")/\
   s1.heap.get? a=some {cls:=.ref C,dict:=dx,data:=.fields #[.ref t,.none,.none,.none,.bool false,.none]}/\X.xe (.ref a) s1) X.xe s:=by
  refine N0 (qi I hg M.glob ?_ cW);refine callWith_K0 I.cN M.kp ?_;have KX:=I.cN;obtain⟨hh,gg,dr,tk,os⟩:=s;refine Xc Z0 (tl hh KX) (KX _ _ lc) (hn hh KX) hi λh' a me za=> ?_;obtain⟨kk,new,t,et,_,_⟩:=me;have I2:Inv X zc σ H ⟨h',gg,dr,tk,os⟩:=I.kept (h':=h') (t':=tk) kk;refine⟨a,t,none,rfl,I2.cN _ _ lc,et, ?_⟩;exact l1 zc σ H H ⟨hh,gg,dr,tk,os⟩ ⟨h',gg,dr,tk,os⟩ a C none _ _ I I2 et rfl rfl rfl rfl rfl (I.aJ.fresh za) za ⟨⟨c,[],[]⟩,G,E.st.gh,.bare M.at_,q σ G H O E (aB.refl _)⟩
 refine A5 (S4 (Jq hB (hr.hd rfl) (A5 (F5 mk (λv s3 h3=>A5 (S4 (F0 h3))) λ_ _ x=>x))))
end
end L3
namespace L3
open PySem L2
variable{K:Frag}{fd:FuncData}{mg:AB}{us:List Value}{base:Heap}{H:Hp}{X:Cx}{pos:Pos}{v:V}
abbrev Ai{a b:Prop}(x:a)(y:b):a/\b:=⟨x,y⟩
def Ak:=Ai @An.eq_1 (Ai @Br.eq_1 (Ai @Af.eq_1 (Ai @Al.eq_1 (Ai @aD.eq_1 (Ai @eS.eq_1 (Ai @OP.{0,0} (Ai @List.foldl_nil.{0,0} (Ai @Au.eq_1 (Ai @Cb.eq_1 (Ai @Bu.eq_1 (Ai @iB.eq_1 (Ai @Az.eq_1 (Ai @At.eq_1 (Ai @Be.eq_1 (Ai @eJ.eq_1 (Ai @Ry (Ai @Rx (Ai @Rw (Ai @Rv (Ai @Ru (Ai @Rt (Ai @do_1 (Ai @Ug (Ai @Ue (Ai @Ag.eq_1 (Ai @Aa.eq_1 (Ai @eC.eq_1 (Ai @Aj.eq_1 (Ai @Bb.eq_1 (Ai @Bw.eq_1 (Ai @Bw.eq_2 (Ai @Bw.eq_3 (Ai @Bw.eq_4 (Ai @Bw.eq_5 (Ai @Bw.eq_6 (Ai @Bw.eq_7 (Ai @Dw.eq_1 (Ai @Dw.eq_2 (Ai @Av.eq_1 (Ai @Bj.eq_1 (Ai @R.sQ (Ai @R.sR (Ai @R.sT (Ai @Ei.eq_1 (Ai @Ei.eq_2 (Ai @Ei.eq_3 (Ai @Ei.eq_4 (Ai @Ei.eq_5 (Ai @LA.eq_1 (Ai @RJ.eq_1 (Ai @gX.eq_1 (Ai @gX.eq_2 (Ai @nJ.eq_1 (Ai @nJ.eq_2 (Ai @Ad.eq_1 (Ai @Ab.eq_1 (Ai @Ds.eq_1 (Ai @Dq.eq_1 (Ai @BY.eq_1 (Ai @Fv.eq_1 (Ai @eOr.eq_1 (Ai @qQ.eq_1 (Ai @Dz.eq_1 (Ai @Fy.eq_1 (Ai @Bx.eq_1 (Ai @jY.eq_1 (Ai @Zd (Ai @Yq (Ai @Zc (Ai @Zb (Ai @Za (Ai @YZ (Ai @ZE (Ai @YY (Ai @ZC (Ai @ZA (Ai @Zz (Ai @Zy (Ai @YX (Ai @Yp (Ai @YW (Ai @YV (Ai @YU (Ai @YT (Ai @Zx (Ai @YS (Ai @Zw (Ai @Zv (Ai @Zu (Ai @Zt (Ai @ZU (Ai @Zs (Ai @ZT (Ai @ZS (Ai @ZR (Ai @ZQ (Ai @yo.eq_1 (Ai @Lx.eq_1 (Ai @Lw.eq_1 (Ai @gu.eq_1 (Ai @gu.eq_2 (Ai @ki.eq_1 (Ai @yp.eq_1 (Ai @uv.eq_1 (Ai @uv.eq_2 (Ai @uv.eq_3 (Ai @uv.eq_4 (Ai @Gu.eq_1 (Ai @Ej.eq_1 (Ai @Fw.eq_1 (Ai @Fw.eq_2 (Ai @Fw.eq_3 (Ai @Fw.eq_4 (Ai @R.aI (Ai @R.ky (Ai @R.kB (Ai @W.dQ (Ai @W.vG (Ai @B3.{0,0} (Ai @O0.{0,0} (Ai @Q7.{0} (Ai @R8.{0} (Ai @E4.{0} (Ai @L9.{0} (Ai @List.replicate_zero.{0} (Ai @B4.{0} (Ai @K2.{0} (Ai @Z1.{0} (Ai @List.set_cons_succ.{0} (Ai @M0.{0} (Ai @N3.{0} (Ai @if_true.{1} (Ai @P1.{1} (Ai @Bh.eq_1 (Ai @Bh.eq_2 (Ai @Bh.eq_3 (Ai @Bh.eq_4 (Ai @Bh.eq_5 (Ai @L1 (Ai @OH (Ai @Z2 (Ai @Bool.true_and (Ai @Bool.false_and (Ai @P6 (Ai @T4 (Ai @Y4 (Ai @gC.eq_1 (@gV.eq_1))))))))))))))))))))))))))))))))))))))))))))))))))))))))))))))))))))))))))))))))))))))))))))))))))))))))))))))))))))))))))))))))))))))))))))))))))))
end L3
namespace L3
open PySem PySem.Spec PyProof.Rows L2
variable{K:Frag}{fd:FuncData}{mg:AB}{us:List Value}{base:Heap}{H:Hp}{X:Cx}{pos:Pos}{v:V}
abbrev MU(c:Bool)(P:Program)(w:World)(K:Frag)(mg:AB)(base:Heap)(N:List Str)(qual:Str)(st:Stmt)(f:Addr)(k:Nat)(g:FS):Prop:=∀{zp:Value} {A:Around} {outer:List Env} {s:Shared} {H:Hp} {E:XK},(Gr c P w K mg base N qual (Cc st) f zp A outer s H E).calm=c->aF c k (Cx.A (Gr c P w K mg base N qual (Cc st) f zp A outer s H E))->(Cx.A (Gr c P w K mg base N qual (Cc st) f zp A outer s H E)).units + 64 < cLine->N.Nodup->Lk (Gr c P w K mg base N qual (Cc st) f zp A outer s H E) (λ_=>bW K E)->
   BD (Gr c P w K mg base N qual (Cc st) f zp A outer s H E) (λ_=>bW K E) (Ft st) g
def Cp{c:Bool}{P:Program}{w:World}{x qual:Str}{st:Stmt}{f:Addr}{N ps:List Str}{k:Nat}{g:FS}(F:bC K x qual st f fd)
  (zh:MU c P w K mg base N qual st f k g) (S:aV N ps (Cc st):=by exact⟨rfl,rfl,rfl,by decide +kernel,rfl,by decide +kernel,by decide +kernel⟩):bI P w K mg base c (k + 1) f fd ps (Bo K ps.length (An N.length g)):=
 Qk F S λzp A outer s H E hr=>zh rfl hr (aF.units hr) S.nd rC
def FnAt(K:Frag)(x qual:Str)(st:Stmt)(f:Addr):Prop:=∃fd,bC K x qual st f fd
def FnAt.mk{x qual:Str}{st:Stmt}{f:Addr}{oc kV dc pm cd ct:Value}{od an:Option Addr}{sl:Array (Option Value)}
  (l:K.lookup f=some ⟨oc,od,.func (fnOf x qual (iR st) (Ft st) (Cc st) .none kV dc pm an cd ct),sl⟩) (c:codeIn K cd qual=true) (k:keepIn K (.ref f)=true):FnAt K x qual st f:=⟨_,vW l c k⟩
def aL(K:Frag)(x:Str)(st:Stmt):Prop:=∃f,nsIn K mainGlobals x=some (some (.ref f))/\FnAt K x x st f
theorem aL.mk{x:Str}{st:Stmt}{f:Addr}{oc kV dc pm cd ct:Value}{od an:Option Addr}{sl:Array (Option Value)}(a:nsIn K mainGlobals x=some (some (.ref f)))
  (l:K.lookup f=some ⟨oc,od,.func (fnOf x x (iR st) (Ft st) (Cc st) .none kV dc pm an cd ct),sl⟩) (c:codeIn K cd x=true) (k:keepIn K (.ref f)=true):aL K x st:=⟨f,a,FnAt.mk l c k⟩
def bG(K:Frag)(C:Addr)(x qual:Str)(st:Stmt):Prop:=∃f,findIn K (.ref C) x=some (some (.ref f))/\FnAt K x qual st f/\keepIn K (.ref f)=true/\isFn K (.ref f)=true
theorem bG.mk{C:Addr}{x qual:Str}{st:Stmt}{f:Addr}{oc kV dc pm cd ct:Value}{od an:Option Addr}{sl:Array (Option Value)}(a:findIn K (.ref C) x=some (some (.ref f)))
  (l:K.lookup f=some ⟨oc,od,.func (fnOf x qual (iR st) (Ft st) (Cc st) .none kV dc pm an cd ct),sl⟩) (c:codeIn K cd qual=true) (k:keepIn K (.ref f)=true) (i:isFn K (.ref f)=true):bG K C x qual st:=⟨f,a,FnAt.mk l c k,k,i⟩
section
variable{X:Cx}{EX:Ax}{pos:Pos}
end
def oi(l:List Int):List Int:=l.mergeSort λa b=>decide (a<=b)
def Ig{l r:List Int}(hp:r.Perm l)(hs:r.Pairwise (· <= ·)):oi l=r:=by
 have h1:(oi l).Pairwise (λa b=>(decide (a<=b))=true):=List.pairwise_mergeSort (le:=λa b=>decide (a<=b)) (λa b c h1 h2=>C9 (Int.le_trans (L6 h1) (L6 h2))) (λa b=>by
  rcases OE a b with h|h
  ·simp[h]
  ·simp[h]) l
 refine List.Perm.eq_of_pairwise (le:=λa b:Int=>a<=b) (λa b _ _ h1 h2=>Int.le_antisymm h1 h2) (h1.imp λh=>L6 h) hs ?_;exact(List.mergeSort_perm l _).trans hp.symm
def ly:List D->R W
 | [.lst ds]=>(match kE ds with
  |some is=>if is.length < 64 then .ok (.ow (.lst ((oi is).map λi=> .int i))) else .no
  |none=> .no)
 |_=> .no
theorem Jh:∀{us:List Value} {is:List Int},IntsAre us is->Vals (is.map λi=>V.int i) us
 |_,_,.nil=> .nil
 |_,_,.cons n t r=> .cons ⟨t,rfl⟩ (Jh r)
theorem Ie{G:Hp}:∀is:List Int,aC K G (is.map λi=>V.int i) (is.map λi=>D.int i)
 | []=> .nil
 |_::r=> .cons (.int _) (Ie r)
section
variable{X:Cx}{EX:Ax}{pos:Pos}
def JS(_hc:X.calm=true):Et X (.builtin "sorted") ly:=by
 intro zc s σ H vs us Q I rv q;obtain⟨EX,G,ds,g,r,o⟩:=q;cases r with
 |nil=>exact False.elim o
 |cons h t=>
  cases t with
  |cons _ _=>cases h <;> exact False.elim o
  |nil=>
   cases h with
   |lst h r=>
    rename_i l _ _;simp only[ly]at o
    split at o
    ·rename_i is e
     split at o
     ·rename_i hl;obtain⟨u,rfl,ru⟩:=rv.one;cases ru;obtain⟨its,eW,pl,hz⟩:=I.list (g.seq h);have ia:=xm r eW e;have il:its.length=is.length:=ia.length;refine sorted_ints pl.isList ia () λout ns' a1 a2 a3=> ?_;obtain⟨c,kP⟩:=sortedAll_at s.heap its out;have en:oi is=ns':=Ig a2 a3;rw[en]at o;have Nr:=Jh a1;have fr:=I.aJ.fresh (L7 s.heap.objs.size);refine⟨.ref _,upd H _ (.lst _),I.laid (t':=s.toks) (λ_ _=>sortedAll_old) (L7 _) ⟨?_,out.toList,c,Nr,by simpa using kP⟩,rfl,sZ o g (Ie ns') _ fr⟩;rw[A3,a2.length_eq,D9];lia
     ·exact o.elim
    ·exact o.elim
   |_=>exact False.elim o
end
section
variable{X:Cx}{EX:Ax}
end
end L3
namespace PySem
namespace SetTable
structure Cut(xs:Array Nat)(j k:Nat):Prop where
 le:k<=xs.size
 lo:∀i x,i < k->xs[i]? =some x->x < j
 hi:∀i x,k<=i->xs[i]? =some x->j<=x
end SetTable
end PySem
namespace PySem
def vInt:Value->Int
 | .int i _=>i
 |_=>0
section
variable{prog:Program}{w:World}{A:Around}{E:AA}{s:Shared}{led:Bool}{ns:List Int}{a:Addr}
end
end PySem
namespace PySem
open AutoSeq1 (wpAny_loadPart')
namespace F
end F
section
variable{prog:Program}{w:World}{A:Around}{E:AA}{s:Shared}
def Heap.uo(h:Heap)(I S:Addr)(f:Value)(i n ep:Nat):Prop:=∃o,h.get? I=some o/\o.cls=.type "set_iterator" /\o.data=.fields #[f,rawInt i,.ref S,rawInt n,rawInt ep]
def Heap.uo.ty{I S:Addr}{f:Value}{i n ep:Nat}(x:s.heap.uo I S f i n ep):s.TypeIs (.ref I) "set_iterator" :=x.elim λo z=>⟨o,z.1,z.2.1⟩
end
end PySem
namespace PySem
open AutoSeq1 (wpAny_loadPart')
section
variable{prog:Program}{w:World}{A:Around}{R:Result->Shared->Prop}{I S:Addr}{fp wr:List Addr}{G:Array GenState->Array GenState->Prop}{n:Nat}{P:Nat->Value->Prop}{St:Nat->Shared->Prop}{led:Bool}
end
section
variable{prog:Program}{w:World}{A:Around}{E:AA}{s:Shared}
end
end PySem
namespace PySem
open AutoSeq1 (wpAny_loadPart')
section
variable{prog:Program}{w:World}{A:Around}{E:AA}{s:Shared}
end
end PySem
namespace PySem
open AutoSeq1 (wpAny_loadPart')
namespace SetTable
end SetTable
section
variable{prog:Program}{w:World}{A:Around}
end
section
variable{prog:Program}{w:World}{A A':Around}{E:AA}{s:Shared}
structure MY(prog:Program)(w:World)(A':Around)(h:Heap)(I S:Addr)(old:Nat)(ns:List Int):Prop where
 ex:∃(fp:List Addr) (n:Nat) (vals:Array Value) (St:Nat->Heap->Prop),Walks prog w A' I fp [I] n (λi v=>vals[i]? =some v) St/\St 0 h/\(∀b∈fp,b < h.objs.size/\(b=S\/old<=b))/\n=vals.size/\(vals.toList.map vInt).Perm ns/\∀v∈vals.toList,∃i t,v=.int i t
 new:old<=I
end
end PySem
namespace PySem
open AutoSeq1 (wpAny_loadPart')
open PyProof.Rows (IntsAre seqObj sortedHeap)
section
variable{prog:Program}{w:World}{A:Around}{E:AA}{s:Shared}
end
end PySem
namespace L3
open PySem PySem.Spec PyProof.Rows L2
variable{K:Frag}{fd:FuncData}{mg:AB}{us:List Value}{base:Heap}{H:Hp}{X:Cx}{pos:Pos}{v:V}
section
variable{X:Cx}{EX:Ax}{a:Expr}{f:FE}{p p' pos pos':Pos}
end
def Inv.kg{zc:AE}{σ:Sg}{s:Shared}(I:Inv X zc σ H s){a:Addr}{u u':HO}(hu:H a=some u)(n1:∀xs,u≠ .tup xs)(n2:∀x,u≠ .own x)(n3:∀ps,u≠ .tf ps)(nf:∀o v,X.H₀ a≠some (.aQ o v))(new:aP X.prog X.w (upd H a u') s.heap a u'):Inv X zc σ (upd H a u') s:=by
 have off:∀b,H b=none->upd H a u' b=none:=λb z=>by
  rw[Ao (λq=>by rw[q,hu]at z;cases z)];exact z
 refine⟨I.ok,I.os,I.bare,⟨I.base.keep,I.base.slot,λb o e n hx=>off b (I.base.free b o e n hx),I.base.there,λb xs e=> ?_,λb o v e=> ?_,λb ps e=> ?_⟩,I.loc,I.cell,off _ I.free,λx c e=>off c (I.bE x c e),λp hp=> ?_,λb o e=> ?_,I.len⟩
 ·have z:=I.base.cS b xs e;rw[Ao (λq=>by rw[q,hu]at z;cases z;exact n1 _ rfl)];exact z
 ·have z:=I.base.cC b o v e;rw[Ao (λq=>by subst q;exact nf _ _ e)];exact z
 ·obtain⟨more,z⟩:=I.base.cT b ps e;exact⟨more,by rw[Ao (λq=>by rw[q,hu]at z;cases z;exact n3 _ rfl)];exact z⟩
 ·obtain⟨z1,z2,z3⟩:=I.pin p hp;exact⟨z1,off _ z2,z3⟩
 ·by_cases hb:b=a
  ·subst hb;rw[Bf]at e;cases e;exact new
  ·rw[Ao hb]at e;refine(I.aJ b o e).cX (λ_ _ _ q=>q) (λc z=> ?_) λc xs z=> ?_
   ·rw[Ao (λq=>by rw[q,hu]at z;cases z;exact n2 _ rfl)];exact z
   ·rw[Ao (λq=>by rw[q,hu]at z;cases z;exact n1 _ rfl)];exact z
section
variable{K:Frag}{G:Hp}{a:Addr}{u u':HO}
def cY(kvs:List (Ae×V))(u:HO):Prop:=u=.dK kvs\/∃o,u=.aQ o (.dK kvs)
def cY.rd{kvs:List (Ae×V)}(h:cY kvs u)(e:G a=some u):Rd G a (.dK kvs):=by
 rcases h with rfl|⟨o,rfl⟩
 ·exact .inl e
 ·exact .inr ⟨o,e⟩
def cY.noL{kvs:List (Ae×V)}(h:cY kvs u)(e:G a=some u){xs:List V}:¬Rd G a (.lst xs)/\¬Rd G a (.tup xs):=by
 rcases h with rfl|⟨o,rfl⟩
 ·exact⟨λr=>by rcases r with r|⟨o,r⟩ <;> (rw[e]at r;cases r),λr=>by rcases r with r|⟨o,r⟩ <;> (rw[e]at r;cases r)⟩
 ·exact⟨λr=>by rcases r with r|⟨o,r⟩ <;> (rw[e]at r;cases r),λr=>by rcases r with r|⟨o,r⟩ <;> (rw[e]at r;cases r)⟩
def cY.one{kvs bg:List (Ae×V)}(h:cY kvs u)(e:G a=some u)(r:Rd G a (.dK bg)):bg=kvs:=by
 rcases h with rfl|⟨o,rfl⟩ <;> rcases r with r|⟨o,r⟩ <;> (rw[e]at r;cases r;try rfl)
def cY.noX{kvs:List (Ae×V)}(h:cY kvs u)(e:G a=some u):(∀φ,G a≠some (.ext φ))/\(∀fs,G a≠some (.xd fs))/\∀C dx fs,G a≠some (.ins C dx fs):=by
 rcases h with rfl|⟨o,rfl⟩ <;> exact⟨λ_ z=>(by rw[e]at z;cases z),λ_ z=>(by rw[e]at z;cases z),λ_ _ _ z=>(by rw[e]at z;cases z)⟩
def cY.noF{kvs:List (Ae×V)}(h:cY kvs u)(e:G a=some u)(o:Obj)(x C:Addr)(dx:Option Addr):G a≠some (.aQ o (XO x C dx)):=by
 rcases h with rfl|⟨o,rfl⟩ <;> exact λz=>(by rw[e]at z;cases z)
def vB{b:Addr}{v:HO}(h:b≠a)(r:Rd G b v):Rd (upd G a u') b v:=by
 rcases r with r|⟨o,r⟩
 ·exact .inl (by rw[Ao h];exact r)
 ·exact .inr ⟨o,by rw[Ao h];exact r⟩
mutual
theorem aM.tag{kvs:List (Ae×V)}(ha:G a=some u)(hd:cY kvs u)(fF:cY kvs u'):∀{v:V} {d:D},aM K G v d->aM K (upd G a u') v d
 |_,_,.aK=> .aK
 |_,_,.bl b=> .bl b
 |_,_,.int i=> .int i
 |_,_,.str x=> .str x
 |_,_,.lst (a:=b) h r=>by
  refine .lst ?_ (aC.tag ha hd fF r);rcases h with h|h
  ·exact .inl (vB (λz=>(hd.noL ha).1 (by rw[<-z];exact h)) h)
  ·exact .inr h
 |_,_,.tup (a:=b) h r=>by
  refine .tup ?_ (aC.tag ha hd fF r);rcases h with h|h
  ·exact .inl (vB (λz=>(hd.noL ha).2 (by rw[<-z];exact h)) h)
  ·exact .inr h
 |_,_,.dP (a:=b) hc h=> .dP hc (by rw[Ao (λz=>hd.noF ha _ _ _ _ (by rw[<-z];exact h))];exact h)
 |_,_,.dO (a:=b) (d:=e) hc h hx hl r=> .dO hc (by rw[Ao (λz=>hd.noF ha _ _ _ _ (by rw[<-z];exact h))];exact h) (by rw[Ao (λz=>(hd.noX ha).2.1 _ (by rw[<-z];exact hx))];exact hx) hl (aC.tag ha hd fF r)
 |_,_,.aE (a:=b) h hk r=>by
  have r':=aC.tag ha hd fF r
  by_cases hb:b=a
  ·refine .aE ?_ hk r';have e:=hd.one ha (by rw[<-hb];exact h);rw[e,hb];exact fF.rd Bf
  ·exact .aE (vB hb h) hk r'
 |_,_,.obj (a:=b) hc h hl r=> .obj hc (by rw[Ao (λz=>(hd.noX ha).2.2 _ _ _ (by rw[<-z];exact h))];exact h) hl (aC.tag ha hd fF r)
theorem aC.tag{kvs:List (Ae×V)}(ha:G a=some u)(hd:cY kvs u)(fF:cY kvs u'):∀{vs:List V} {ds:List D},aC K G vs ds->aC K (upd G a u') vs ds
 |_,_,.nil=> .nil
 |_,_,.cons h r=> .cons (aM.tag ha hd fF h) (aC.tag ha hd fF r)
end
end
def MS(a:Addr)(ob:Obj)(kvs:List (Ae×V)):It:=⟨λi H=>H a=some (.aQ ob (.dK kvs))/\i < kvs.length,λi H x H'=>H'=H/\∃p,kvs[i]? =some p/\x=kV p.1,λi H=>H a=some (.aQ ob (.dK kvs))/\i=kvs.length⟩
def sk{P:Program}{w:World}{h:Heap}{a:Addr}{ob:Obj}{kvs:List (Ae×V)}(ok:cP P w H h)(e:H a=some (.aQ ob (.dK kvs))){es:Array DictEntry}{ep:Nat}(hd:ob.data=.dict es ep):∃ws,KV kvs ws/\h.DictAt (Ec P w) a ws ep:=by
 obtain⟨g,_,_,ws,kv,o,BV,BW,g',c1,c2,c3⟩:=(show aP P w H h a (.aQ ob (.dK kvs)) from ok a _ e);rw[g]at g';cases g';rw[hd]at c2;cases c2;exact⟨ws,kv,ob,_,g,c1,hd,c3⟩
def KV.get{kvs:List (Ae×V)}{ws:List (Ae×Value)}(r:KV kvs ws){i:Nat}{p:Ae×V}(e:kvs[i]? =some p):∃x,ws[i]? =some (p.1,x):=by
 have hl:=r.length;have hk:=r.keys;have hi:i < kvs.length:=(B5.mp e).1;obtain⟨q,hq⟩:∃q,ws[i]? =some q:=⟨_,A8 (show i < ws.length by lia)⟩;have e1:(kvs.map (·.1))[i]? =some p.1:=by rw[A9,e];rfl
 have e2:(ws.map (·.1))[i]? =some q.1:=by rw[A9,hq];rfl
 rw[hk,e2]at e1;have e3:q.1=p.1:=K1 e1;exact⟨q.2,by rw[hq,<-e3]⟩
def Jg{P:Program}{w:World}{tg:Expr}(a it:Addr)(ob:Obj)(kvs:List (Ae×V)){es:Array DictEntry}{ep:Nat}(hd:ob.data=.dict es ep):Turn P w K tg (MS a ob kvs) [it] it (λi h=>h.IsKeyIter it a i kvs.length ep) where
 mem:=by simp
 obj:=λi h st b hb=>by
  have e:b=it:=by simpa using hb
  subst e;obtain⟨o,e,c,d⟩:=st;exact⟨o,e,λv z=>by rw[d]at z;cases z⟩
 keep:=λi h h' st k=>st.at λo e=>k it (by simp) o e
 item:=by
  intro X hP hw hK hc i zc s σ H E I hf st hg;subst hP hw hK;obtain⟨hq,dF⟩:=hg;obtain⟨ws,kv,da⟩:=sk I.aJ hq hd;obtain⟨f0,f1,f2,f3,f4,f5⟩:=hf it (by simp);obtain⟨p,hp⟩:∃p,kvs[i]? =some p:=⟨_,A8 dF⟩;obtain⟨x,hx⟩:=KV.get kv hp;rw[kv.length]at st;refine wpAny_pyNext_dict_item st da hx λkey h' hk dE sb=> ?_;rw[<-kv.length]at dE;have I1:Inv X zc σ H {s with heap:=h'}:=I.turned (t':=s.toks) (λb o hb e=>(sb.2 b hb).trans e) f0 f1 f3 f4 f5;obtain⟨o,e,c,d⟩:=id dE;exact⟨key,rfl,oq (s:={s with heap:=h'}) e c d ⋯ ⟨kV p.1,H,I1,vE hk,⟨rfl,p,hp,rfl⟩,dE,λb hb=>(hf b hb).1⟩⟩
 done:=by
  intro X hP hw hK hc i zc s σ H E I hf st hg;subst hP hw hK;obtain⟨hq,hg⟩:=hg;subst hg;obtain⟨ws,kv,da⟩:=sk I.aJ hq hd;obtain⟨f0,f1,f2,f3,f4,f5⟩:=hf it (by simp);rw[kv.length]at st;exact wpAny_pyNext_dict_end (I.ok.hd hc) st da (by simp) λh' eb=>⟨rfl,I.turned (t':=s.toks) (λb o hb e=>eb b o hb e) f0 f1 f3 f4 f5⟩
 self:=λ_ _ _ _ _ st h=>wpAny_pyIter_keyiter st h
def QB:D->R (List D)
 | .aE aA=> .ok (aA.map λp=>kD p.1)
 |_=> .no
def lx(f:FE):FI:=λ δ=>(f δ).bind λw=>QB w.d
section
variable{X:Cx}{EX:Ax}{pos:Pos}
def ZD(X:Cx)(G H G2 H2:Hp):Prop:=∃(a:Addr) (ob:Obj) (kvs:List (Ae×V)) (G1 H1:Hp),Step G H G1 H1/\((G2=G1/\H2=H1)\/(G1 a=some (.dK kvs)/\(∀o v,X.H₀ a≠some (.aQ o v))/\G2=upd G1 a (.aQ ob (.dK kvs))/\H2=upd H1 a (.aQ ob (.dK kvs))))
def EO{tg iter:Expr}{fi:FI}(h:∀(zc:AE) (s:Shared) (σ:Sg) (G H:Hp) (δ:DE) (ds:List D),Inv X zc σ H s->aB G H->aU X.K G σ δ->fi δ=.ok ds->
  wpAny (model X.prog X.w) X.A (eval iter X.env) (λxv s₁=>wpAny (model X.prog X.w) X.A (pyIter xv) (λjT s₂=>∃(it:Addr) (fp:List Addr) (tn:Nat->Heap->Prop) (J:It) (H2 G2:Hp),jT=.ref it/\Inv X zc σ H2 s₂/\iC X.prog X.w X.K tg J fp it tn Fe/\tn 0 s₂.heap/\(∀b∈fp,Fs X zc H2 b)/\ZD X G H G2 H2/\Gm X.K G2 J ds) X.xe s₁) X.xe s):Gj X Fe tg iter fi:=λzc s σ G H δ ds I g0 h0 ed=>by
 refine⟨ZD X G H,λG2 H2 z=> ?_,h zc s σ G H δ ds I g0 h0 ed,λDa C s1 G2 H2 G' H' vs rs Io fc z st h1 h2 h3 rl=> ?_⟩
 ·obtain⟨a,ob,kvs,G1,H1,st,z⟩:=z;rcases z with⟨rfl,rfl⟩|⟨ga,_,rfl,rfl⟩
  ·exact⟨st.gh,h0.mono st.gg⟩
  ·refine⟨yD st.gh _ _,(h0.mono st.gg).len,λi d e=> ?_⟩;obtain⟨v,e1,r⟩:=(h0.mono st.gg).get i d e;exact⟨v,e1,aM.tag ga (.inl rfl) (.inr ⟨ob,rfl⟩) r⟩
 ·obtain⟨c0,c1,c2,c3,c4,c5⟩:=id fc;obtain⟨a,ob,kvs,G1,H1,bM,z⟩:=z;rcases z with⟨rfl,rfl⟩|⟨ga,nf,rfl,rfl⟩
  ·exact⟨G',H',Io,fc,bM.trans st,bM.hh.free h1,h2,h3,rl⟩
  ·have gF:G' a=some (.aQ ob (.dK kvs)):=st.gg _ _ Bf;have hF:H' a=some (.aQ ob (.dK kvs)):=st.hh _ _ Bf;have hH1:H1 a=some (.dK kvs):=bM.gh _ _ ga;have NB:Da≠a:=λz=>by rw[z,Bf]at h1;cases h1
   have nC:C≠a:=λz=>by rw[z,hF]at c0;cases c0
   obtain⟨_,Nx⟩:=(show aP X.prog X.w H' s1.heap a (.aQ ob (.dK kvs)) from Io.aJ a _ hF);have back:∀{F F1 F':Hp},F1 a=some (.dK kvs)->aB F F1->aB (upd F1 a (.aQ ob (.dK kvs))) F'->aB F (upd F' a (.dK kvs)):=λe s1 s2 b o z=>by
    have z1:=s1 _ _ z
    by_cases hb:b=a
    ·subst hb;rw[e]at z1;rw[Bf];exact z1
    ·rw[Ao hb];exact s2 _ _ (by rw[Ao hb];exact z1)
   have I4:Inv X zc σ (upd H' a (.dK kvs)) s1:=Inv.kg Io hF (λ_ z=>by cases z) (λ_ z=>by cases z) (λ_ z=>by cases z) nf Nx;refine⟨upd G' a (.dK kvs),_,I4,⟨by rw[Ao nC];exact c0,c1,c2,c3,c4,c5⟩,⟨back hH1 bM.hh st.hh,yD st.gh _ _,back ga bM.gg st.gg,λb z1 z2=> ?_⟩,bM.hh.free (by rw[Ao NB]at h1;exact h1),by rw[Ao NB];exact h2,by rw[Ao NB];exact h3,aC.tag gF (.inr ⟨ob,rfl⟩) (.inl rfl) rl⟩;have g1:=bM.nw b z1 z2;have hb:b≠a:=λq=>by rw[q,ga]at g1;cases g1
   rw[Ao hb];exact st.nw b (by rw[Ao hb];exact g1) (by rw[Ao hb];exact λq=>z2 (bM.hh.free q))
def Ic{iter tg:Expr}{f0:FE}(hi:ED X Cm iter f0):Gj X Fe tg iter (lx f0):=EO λzc s σ G H δ ds I g0 h0 ek=>by
 obtain⟨w,aA,ew,ed,rfl⟩:∃w aA,f0 δ=.ok w/\w.d=.aE aA/\ds=aA.map λp=>kD p.1:=by
  unfold lx at ek;cases e:f0 δ with
  |ok w=>
   rw[e,R.aI]at ek;cases e2:w.d with
   |aE aA=>rw[e2]at ek;cases ek;exact⟨w,aA,rfl,e2,rfl⟩
   |_=>rw[e2]at ek;cases ek
  |ex x=>rw[e]at ek;cases ek
  |no=>rw[e]at ek;cases ek
 refine Ay (hi zc s σ H (λv H1=>∃G1,Step G H G1 H1/\aM X.K G1 v w.d) I ⟨G,δ,g0,h0,by rw[ew];exact WP.intro λv G1 H1 st r=>⟨G1,st,r⟩⟩) λu s1 ⟨v,H1,I1,r1,G1,st,r⟩=> ?_;rw[ed]at r;cases r with
 |aE hh mI r=>
  rename_i a kvs;cases r1;obtain⟨z,lo,ws,kv,o,es,ep,g1,c1,c2,c3⟩:=iZ I1.aJ (aB.jb st.gh hh);have da:s1.heap.DictAt (Ec X.prog X.w) a ws ep:=⟨o,es,g1,c1,c2,c3⟩;refine wpAny_pyIter_dict lo da ?_;have I2:=I1.kept (t':=s1.toks) (h':=s1.heap.push {cls:=.type "dict_keyiterator",data:=.fields #[.ref a,.int 0 0,.int ws.length 0,.int ep 0]}) λb o e=>A4 _ e;have zU:(s1.heap.push {cls:=.type "dict_keyiterator",data:=.fields #[.ref a,.int 0 0,.int ws.length 0,.int ep 0]}).IsKeyIter s1.heap.objs.size a 0 kvs.length ep:=⟨_,C1 _ rfl,rfl,by rw[kv.length];rfl⟩;have zj:(aA.map λp=>kD p.1).length=kvs.length:=by
   have:=K4 List.length mI;rw[A3,A3]at this;rw[A3];exact this.symm
  have tR:∀G2:Hp,G2 a=some (.aQ o (.dK kvs))->Gm X.K G2 (MS a o kvs) (aA.map λp=>kD p.1):=λG2 ga G' H' gI zY i=>by
   have gH:H' a=some (.aQ o (.dK kvs)):=zY _ _ (gI _ _ ga);refine⟨λd e=>⟨⟨gH, ?_⟩,λx Pg y=> ?_⟩,λe=>⟨gH,by lia⟩⟩
   ·have:=(B5.mp e).1;lia
   ·obtain⟨rfl,q,hq,rfl⟩:=y;refine⟨G',Step.refl zY, ?_⟩;rw[A9]at e;obtain⟨q',eO,rfl⟩:=E8.mp e;have e1:(kvs.map (·.1))[i]? =some q.1:=by rw[A9,hq];rfl
    have e2:(aA.map (·.1))[i]? =some q'.1:=by rw[A9,eO];rfl
    rw[mI,e2]at e1;have e3:q'.1=q.1:=K1 e1;rw[e3];exact oE _
  have fr:∀H2:Hp,H2 s1.heap.objs.size=none->∀b∈ [s1.heap.objs.size],Fs X zc H2 b:=λH2 hn b hb=>by
   have e:b=s1.heap.objs.size:=by simpa using hb
   subst e;exact I1.fL (B6 _) hn
  have free:=I1.aJ.fresh (B6 s1.heap.objs.size);rcases hh with hh|⟨o',hh⟩
  ·have hH:=st.gh _ _ hh;have nf:∀o v,X.H₀ a≠some (.aQ o v):=λo v e=>by
    have:=I1.base.cC a o v e;rw[hH]at this;cases this
   have ok:aP X.prog X.w (upd H1 a (.aQ o (.dK kvs))) (s1.heap.push {cls:=.type "dict_keyiterator",data:=.fields #[.ref a,.int 0 0,.int ws.length 0,.int ep 0]}) a (.aQ o (.dK kvs)):=⟨A4 _ g1,z,lo,ws,kv,o,es,ep,A4 _ g1,c1,c2,c3⟩;have I3:=Inv.kg I2 hH (λ_ z=>by cases z) (λ_ z=>by cases z) (λ_ z=>by cases z) nf ok;refine⟨_,_,_,MS a o kvs,_,upd G1 a (.aQ o (.dK kvs)),rfl,I3,Turn.z (Jg a _ o kvs c2),zU,fr _ ?_,⟨a,o,kvs,G1,H1,st,.inr ⟨hh,nf,rfl,rfl⟩⟩,tR _ Bf⟩;rw[Ao (λz=>by rw[z,hH]at free;cases free)];exact free
  ·have hH:=st.gh _ _ hh;obtain⟨g2,_⟩:=(show aP X.prog X.w H1 s1.heap a (.aQ o' (.dK kvs)) from I1.aJ a _ hH);rw[g1]at g2;cases g2;exact⟨_,_,_,MS a o kvs,H1,G1,rfl,I2,Turn.z (Jg a _ o kvs c2),zU,fr _ free,⟨a,o,kvs,G1,H1,st,.inl ⟨rfl,rfl⟩⟩,tR _ hh⟩
end
def tZ{EX:Ax}{i:Nat}{x:Str}(hN:decide X.N.Nodup=true:=by rfl')(hi:X.N[i]? =some x:=by rfl)(hx:Ga X.env.scope x:=by trivial)
  (hf:X.fn x=true\/X.env.scope.names.lookup x=some .local:=by trivial):GC X EX (.Name x pos) (gC i):=Up (L6 hN) hi hx hf
structure aaC(K:Frag)(B f:Addr):Prop where
 sp:specialIn K (.ref B) "__getattribute__" =some (some (.builtin "type.__getattribute__"))
 rd:readsIn K B (.type "type")=true
 at_:findCls K (.ref B) (.type "type") "__init__" =some (.val (.ref f))
 kp:keepIn K (.ref f)=true
section
variable{X:Cx}{EX:Ax}{e:Expr}{es:List Expr}{x:Str}{pp zf pos:Pos}{cc:Bool}{k k' n:Nat}{ps:List Str}
end
def Step.wr{G H G' H':Hp}{a:Addr}{o:HO}(s:Step G H G' H')(n:H a=none)(g:G' a=none):Step G H G' (L2.upd H' a o):=
 ⟨λb u z=>by rw[Ao (Ep z n)];exact s.hh b u z,λb u z=>by rw[Ao (Ep z g)];exact s.gh b u z,s.gg,s.nw⟩
structure uq(K:Frag)(C:Addr):Prop where
 pg:plainGet K C "__class__" =true
 hd:hasDictIn K C=true
 cl:findIn K (.ref C) "__class__" =some (some (.builtin "object.__class__"))
 gs:specialIn K (.builtin "object.__class__") "__get__" =some (some (.builtin "getset_descriptor.__get__"))
 tk:takesIn K (.builtin "object.__class__")=some true
 ob:mroIn K C (.type "object")=some true
section
variable{X:Cx}{EX:Ax}{zc:AE}{σ:Sg}{G H:Hp}{s:Shared}
variable{a:Expr}{fo:FE}{tb:List (Str×Bool)}{pp pos:Pos}
end
section
variable{X:Cx}{EX:Ax}{pos:Pos}
def zr:List Nat->List D->SE->R SE
 | [],[],Δ=> .ok Δ
 |i::is,d::ds,Δ=>zr is ds (Δ.set i (.sh d))
 |_,_,_=> .no
def oh(is:List Nat):FG:=λd Δ=>match d with
 | .tup ds=>zr is ds Δ
 |_=> .no
theorem GU:∀(is:List Nat) (ds:List D) (Δ Δ':SE),zr is ds Δ=.ok Δ'->ds.length=is.length
 | [],[],_,_,_=>rfl
 |_::is,_::ds,_,_,e=>K4 Nat.succ (GU is ds _ _ e)
 | [],_::_,_,_,e=>by cases e
 |_::_,[],_,_,e=>by cases e
def LQ(K:Frag)(is:List Nat):qe:=λvs σ H Q=>∃H0 G0 G Δ O ds Δ',Ev K H0 G0 G H σ Δ O/\aC K G vs ds/\zr is ds Δ=.ok Δ'/\∀σ' G' H' O',Ev K H0 G0 G' H' σ' Δ' O'->aB G G'->Q σ' H'
def EN:qH X [] (LQ X.K []):=λzc s σ H vs us Q I r ⟨H0,G0,G,Δ,O,ds,Δ',E,rl,e,q⟩=>oY zc s σ H vs us Q I r (by
 cases rl with
 |nil=>cases e;exact⟨rfl,q σ G H O E (aB.refl _)⟩
 |cons _ _=>cases e)
def lZ{i:Nat}{x:Str}{p:Pos}{ts:List Expr}{is:List Nat}(hN:X.N.Nodup)(h2:qH X ts (LQ X.K is))(hi:X.N[i]? =some x:=by rfl)(hx:Ga X.env.scope x:=by trivial)
  (hf:X.fn x=true\/X.env.scope.names.lookup x=some .local:=by trivial)
  (hs:(assignEach (.Name x p::ts) X.env).map (·.2)=assign (.Name x p) X.env::(assignEach ts X.env).map (·.2):=by rfl):qH X (.Name x p::ts) (LQ X.K (i::is)):=
 λzc s σ H vs us Q I r ⟨H0,G0,G,Δ,O,ds,Δ',E,rl,e,q⟩=>pV (mF hN hi hx hf) h2 hs zc s σ H vs us Q I r (by
  cases rl with
  |nil=>cases e
  |cons h rl=>exact⟨_,_,rfl,H0,G0,G,_,O,_,Δ',E.put h,rl,e,q⟩)
theorem aC.len{G:Hp}:∀{vs:List V} {ds:List D},aC K G vs ds->vs.length=ds.length
 |_,_,.nil=>rfl
 |_,_,.cons _ r=>K4 Nat.succ r.len
def GS{es:List Expr}{is:List Nat}{k:Nat}(hc:X.calm=true)(h:qH X es (LQ X.K is))(hn:(assignEach es X.env).length=is.length:=by rfl)(cA:(assignEach es X.env).findIdx? (·.1)=none:=by rfl):
  GD X EX (.Tuple es k pos) (oh is):=
 PG.imp (wc hc h hn cA) λv σ H Q ⟨H0,G0,G,Δ,O,d,E,r,q⟩=>by
  cases r with
  | @tup a vs ds h r=>
   simp only[oh]at q;cases e:zr is ds Δ with
   |ok Δ'=>
    rw[e]at q;exact⟨_,_,rfl,aB.tupS E.st.gh h,r.len.trans (GU _ _ _ _ e),H0,G0,G,Δ,O,_,Δ',E,r,e,q⟩
   |ex x=>rw[e]at q;exact q.elim
   |no=>rw[e]at q;exact q.elim
  |_=>exact False.elim q
end
section
variable{P:Program}{w:World}{K:Frag}{mg:AB}{base:Heap}{cc:Bool}{k n:Nat}{ps:List Str}{st:Stmt}{Fn:AF}
def lu{m q c:Str}{C:Addr}(xa:ClsAt K c C)(cl:gQ K C)(W:bG K C m q st)(ok:∀{f:Addr} {fd:FuncData},bC K m q st f fd->bI P w K mg base cc k f fd ps (Bo K (n + 1) Fn)/\Binds K fd ps []):iD P w K mg base cc k n m c Fn:=by
 obtain⟨f,a,⟨fd,F⟩,kp,i⟩:=W;exact⟨⟨C,f,fd,ps,xa,cl,⟨a,i,kp⟩,(ok F).1,(ok F).2⟩⟩
def Dp{x:Str}{h:Heap}(X:K.In h)(G:h.Ns mainGlobals mg)(W:aL K x st)(ok:∀{f:Addr} {fd:FuncData},bC K x x st f fd->bI P w K mg base cc k f fd ps (Bo K ps.length Fn)/\Binds K fd ps []):CK P w K mg base cc x k ps Fn:=by
 obtain⟨f,a,fd,F⟩:=W;exact RH F (mg_of X G a) (ok F).2 (ok F).1
end
section
variable{X:Cx}{zc:AE}{σ:Sg}{H:Hp}{s:Shared}{a:Addr}{kvs:List (Ae×V)}{k:Ae}{u:Value}{A:Around}{E:AA}
def VL{x:V}{r:Value}{Q:AA}(I:Inv X zc σ H s)(e:H a=some (.dK kvs))(ry:RelV (kV k) u)(rx:RelV x r)(l:kvs.length < sizeLine)
  (h1:∀v w' s',Co kvs k=some v->Inv X zc σ H s'->RelV v w'->Q w' s') (h2:Co kvs k=none->∀s',Inv X zc σ (upd H a (.dK (El kvs k x))) s'->Q r s'):
  wpAny (model X.prog X.w) A (call (.builtin "dict.setdefault") [.ref a,u,r]) Q E s:=by
 obtain⟨z,hd,vs,rel,dd⟩:=rg I.aJ e;have hl:(El kvs k x).length<=sizeLine:=by have:=LF kvs k x;lia
 have hr:=rel.val k;refine V4 X8 dd.typeIs PySem.F.entry_dict_setdefault (PySem.F.args_dict_setdefault_3 _ _ _) (PySem.kt_meets_setdefault (Ec X.prog X.w) a (fO ry) hd r) ⟨vs,dd,by rw[<-rel.length];exact z,λw' hw=> ?_,λhn h' jZ hs=> ?_⟩
 ·cases hv:Co kvs k with
  |none=>
   have hn:valueAt vs k=none:=bJ.none_of (by rw[<-hv];exact hr);rw[hn]at hw;cases hw
  |some v=>
   obtain⟨w2,BA,rv⟩:=bJ.some_of (v:=v) (o:=valueAt vs k) (by rw[<-hv];exact hr);rw[BA]at hw;cases hw;exact h1 v w' _ hv (I.tok _) rv
 ·have he:∃q,h'.get? a=some q:=let⟨q,_,_,hq,_⟩:=jZ;⟨q,hq⟩;refine h2 ?_ _ (oW I (by rw[e];exact True.intro) hs he (rE hl hd (rel.put k rx) jZ));cases hv:Co kvs k with
  |none=>rfl
  |some v=>
   obtain⟨w2,BA,rv⟩:=bJ.some_of (v:=v) (o:=valueAt vs k) (by rw[<-hv];exact hr);rw[BA]at hn;cases hn
end
def QA(td ty tx:TE):TE:=λ σ H Q=>td σ H λx H1=>∃a,x=.ref a/\MT H1 a/\ty σ H1 λy H2=>tx σ H2 λz H3=>∃kvs k,H3 a=some (.dK kvs)/\y=kV k/\kvs.length < sizeLine/\
 (∀v,Co kvs k=some v->Q v H3)/\(Co kvs k=none->Q z (upd H3 a (.dK (El kvs k z))))
section
variable{X:Cx}{EX:Ax}{o e f:Expr}{zf zd pos:Pos}{td ty tx:TE}
def TY(ho:PE X o td)(he:PE X e ty)(hf:PE X f tx)(m:M2 X o "setdefault" zf e f zd):PE X (.Call (.Attribute o "setdefault" zf) [e,f] [] zd) (QA td ty tx):=by
 intro zc s σ H Q I h;refine Z8 m.base m.zw m.line P3 X8 PySem.F.type_dict_setdefault (Ay (ho zc s σ H _ I h) λu s1 ⟨x,H1,I1,rx,a,ex,d,q1⟩=> ?_);subst ex;obtain rfl:u=Value.ref a:=rx;obtain⟨t1,t2,_⟩:=vT I1 d;refine⟨t1,t2, ?_⟩;rw[m.trees];refine N9 rfl (T3 (M9 (Ay (he zc s1 σ H1 _ I1 q1) λiv s2 ⟨y,H2,I2,ry,q2⟩=>
  M9 (Ay (hf zc s2 σ H2 _ I2 q2) λfv s3 ⟨z,H3,I3,rz,kvs,k,ea,ey,l,q3,q4⟩=>Q4 ?_))))
 subst ey;exact VL I3 ea ry rz l (λv w' s4 hv I4 rv=>⟨v,_,I4,rv,q3 v hv⟩) λhn s4 I4=>⟨z,_,I4,rz,q4 hn⟩
end
def ml(zk:List (Ae×Tn))(k:Ae):List (Ae×Tn):=match Bc zk k with
 |some _=>zk
 |none=>zk ++ [(k,.lst [])]
section
variable{X:Cx}{EX:Ax}{pos:Pos}
theorem Ib{k:Ae}:∀{kvs:List (Ae×V)} {zk:List (Ae×Tn)},kvs.map (·.1)=zk.map (·.1)->Bc zk k=none->Co kvs k=none
 | [],_,_,_=>rfl
 |_::_,[],e,_=>by simp at e
 |(x,v)::kvs,(y,t)::zk,e,h=>by
  simp only[B3,R9]at e;obtain⟨e1,e2⟩:=e;subst e1
  by_cases q:x=k
  ·exfalso;unfold Bc at h;rw[R4 (by simpa using q)]at h;cases h
  ·rw[jU q];refine Ib e2 ?_;unfold Bc at h⊢
   rwa[R5 (by simpa using q)]at h
end
section
variable{P:Program}{w:World}{K:Frag}{mg:AB}{base:Heap}{cc:Bool}{j k n:Nat}{ps:List Str}{st:Stmt}{Fn:AF}{C:Addr}{m c q f:Str}
def XB(K:Frag)(C:Addr)(q f:Str)(st:Stmt):Prop:=keepIn K (.ref C)=true/\fV K C/\findIn K (.ref C) f=some none/\∃(fI:Addr) (fd:FuncData) (o:Obj),OV K C fI/\K.lookup fI=some o/\o.cls=.type "function" /\bC K "__init__" q st fI fd
def XB.mk{fI N L:Addr}{nm qn:Str}{bs sub:List Value}{sn:List Str}{ab:Bool}{col:Option Bool}{dd od uW uH odI an:Option Addr}{k0 k1 k2 k3 k5:Option Value}{oc c0 oL kV dc pm cd ct:Value}{es ji:Array DictEntry}{ep uV:Nat}{sl uz uy slI:Array (Option Value)}{CA:ClassData}
  (lc:K.lookup C=some (excClassObj nm qn C N bs (.ref L::hU) true sn sub ab col dd k0 k1 k2 k3 k5 "ValueError.__new__")) (ln:K.lookup N=some ⟨oc,od,.dict es ep,sl⟩) (_:findIn K (.ref C) "__init__" =some (some (.ref fI))) (kn:pU es=true) (hi:nsFind es "__init__" =some (.ref fI))
  (ll:K.lookup L=some ⟨c0,uW,.cls CA,uz⟩) (lm:K.lookup CA.ns=some ⟨oL,uH,.dict ji uV,uy⟩) (km:pU ji=true) (hL:nsFind ji "__init__" =none) (sa:findIn K (.ref C) "__setattr__" =some (some (.builtin "object.__setattr__"))) (nf:findIn K (.ref C) f=some none) (kp:keepIn K (.ref C)=true)
  (l:K.lookup fI=some ⟨.type "function",odI,.func (fnOf "__init__" q (iR st) (Ft st) (Cc st) .none kV dc pm an cd ct),slI⟩) (cI:codeIn K cd q=true) (kI:keepIn K (.ref fI)=true):XB K C q f st:=
 ⟨kp,Uc lc sa,nf,fI,_,_,Rr lc ln kn hi ll lm km hL,l,rfl,vW l cI kI⟩
def DK(xa:ClsAt K c C)(gx:mg c=some (.ref C))(b:XB K C q f st)(ok:∀{fI:Addr} {fd:FuncData},bC K "__init__" q st fI fd->fV K C->findIn K (.ref C) f=some none->bI P w K mg base false 1 fI fd ps (lJ C f)/\Binds K fd ps []):XC P w K mg base c f C:=by
 obtain⟨kp,xc,nf,fI,fd,o,mk,l,e,F⟩:=b;exact⟨xa,gx,kp,xc,fI,fd,ps,o,mk,l,e,(ok F xc nf).1,(ok F xc nf).2⟩
def XB0{N L:Addr}{nm qn:Str}{bs sub:List Value}{sn:List Str}{ab:Bool}{col:Option Bool}{dd od uW uH:Option Addr}{k0 k1 k2 k3 k5:Option Value}{oc c0 oL:Value}{es ji:Array DictEntry}{ep uV:Nat}{sl uz uy:Array (Option Value)}{CA:ClassData}
  (lc:K.lookup C=some (excClassObj nm qn C N bs (.ref L::hU) true sn sub ab col dd k0 k1 k2 k3 k5 "ValueError.__new__")) (ln:K.lookup N=some ⟨oc,od,.dict es ep,sl⟩) (kn:pU es=true) (hi:nsFind es "__init__" =none)
  (ll:K.lookup L=some ⟨c0,uW,.cls CA,uz⟩) (lm:K.lookup CA.ns=some ⟨oL,uH,.dict ji uV,uy⟩) (km:pU ji=true) (hL:nsFind ji "__init__" =none) (kp:keepIn K (.ref C)=true):keepIn K (.ref C)=true/\sO K C:=⟨kp,TZ lc ln kn hi ll lm km hL⟩
def OW(K:Frag)(C:Addr):Prop:=keepIn K (.ref C)=true/\sO K C
def EL(xa:ClsAt K c C)(gx:mg c=some (.ref C))(b:OW K C):zC K mg c C:=⟨xa,gx,b.1,b.2⟩
def uq.mm(pg:plainGet K C Str.empty=true)(hd:hasDictIn K C=true)(cl:findIn K (.ref C) "__class__" =some (some (.builtin "object.__class__")))(gs:specialIn K (.builtin "object.__class__") "__get__" =some (some (.builtin "getset_descriptor.__get__")))(tk:takesIn K (.builtin "object.__class__")=some true)(ob:mroIn K C (.type "object")=some true):uq K C:=⟨pg,hd,cl,gs,tk,ob⟩
def aY.mk(h:findIn K (.ref C) f=some none):aY K C f:=h
noncomputable def yL{tb:List (Str×(AF))}(d:iD P w K mg base cc j n m c Fn)(r:bF P w K mg base cc k n m tb)(hj:j<=k:=by decide):bF P w K mg base cc k n m ((c,Fn)::tb):=.one d hj r
def yM:bF P w K mg base cc k n m []:=.nil
end
def Gn:HO->Bool
 | .ins _ _ _=>true
 | .dK _=>true
 |_=>false
mutual
def Tn.aX:Tn->Bool
 | .sh _=>true
 | .lst _=>false
 | .tup _=>false
 | .aE zk=>Tn.cL zk
 | .obj _ _ ts=>Tn.cK ts
def Tn.cK:List Tn->Bool
 | []=>true
 |t::ts=>t.aX && Tn.cK ts
def Tn.cL:List (Ae×Tn)->Bool
 | []=>true
 |(_,t)::ts=>t.aX && Tn.cL ts
end
theorem Tn.eU:∀zk:List (Ae×Tn),Tn.cK (zk.map (·.2))=Tn.cL zk
 | []=>by simp only[O0,Tn.cK,Tn.cL]
 |(k,t)::zk=>by simp only[B3,Tn.cK,Tn.cL,Tn.eU zk]
mutual
theorem Ow.lend{G H:Hp}:∀{v:V} {t:Tn} {S:AS},Ow K G H v t S->t.aX=true->∃S':AS,(∀b,S' b->S b/\∃o,H b=some o/\Gn o=true)/\Ow K G H v t S'
 |_,_,_,.sh h,_=>⟨λ_=>False,λ_ z=>z.elim,.sh h⟩
 |_,_,_,.lst h ha sub r,e=>by simp only[Tn.aX]at e;cases e
 |_,_,_,.tup h ha sub r,e=>by simp only[Tn.aX]at e;cases e
 |_,_,_,.aE (a:=a) h hk ha sub r,e=>by
  simp only[Tn.aX]at e;obtain⟨S1,f,r'⟩:=aR.lend r (by rw[Tn.eU];exact e);refine⟨λb=>b=a\/S1 b,λb hb=> ?_,.aE h hk (.inl rfl) (λb hb=>⟨.inr hb,(sub b (f b hb).1).2⟩) r'⟩;rcases hb with rfl|hb
  ·exact⟨ha,_,h,rfl⟩
  ·exact⟨(sub b (f b hb).1).1,(f b hb).2⟩
 |_,_,_,.obj (a:=a) hc h hl ha sub r,e=>by
  simp only[Tn.aX]at e;obtain⟨S1,f,r'⟩:=aR.lend r e;refine⟨λb=>b=a\/S1 b,λb hb=> ?_,.obj hc h hl (.inl rfl) (λb hb=>⟨.inr hb,(sub b (f b hb).1).2⟩) r'⟩;rcases hb with rfl|hb
  ·exact⟨ha,_,h,rfl⟩
  ·exact⟨(sub b (f b hb).1).1,(f b hb).2⟩
theorem aR.lend{G H:Hp}:∀{vs:List V} {ts:List Tn} {S:AS},aR K G H vs ts S->Tn.cK ts=true->∃S':AS,(∀b,S' b->S b/\∃o,H b=some o/\Gn o=true)/\aR K G H vs ts S'
 |_,_,_,.nil,_=>⟨λ_=>False,λ_ z=>z.elim,.nil⟩
 |_,_,_,.cons h r dj s1 s2,e=>by
  simp only[Tn.cK,D5]at e;obtain⟨A,fA,hA⟩:=Ow.lend h e.1;obtain⟨B,fB,hB⟩:=aR.lend r e.2;exact⟨λb=>A b\/B b,λb hb=>hb.elim (λz=>⟨s1 b (fA b z).1,(fA b z).2⟩) λz=>⟨s2 b (fB b z).1,(fB b z).2⟩,.cons hA hB (λb x y=>dj b (fA b x).1 (fB b y).1) (λ_ z=> .inl z) λ_ z=> .inr z⟩
end
mutual
def Dc:D->Bool
 | .aK=>true
 | .bl _=>true
 | .int _=>true
 | .str _=>true
 | .lst ds=>Ef ds
 | .tup ds=>Ef ds
 |_=>false
def Ef:List D->Bool
 | []=>true
 |d::ds=>Dc d && Ef ds
end
mutual
def Dg:Tn->Bool
 | .sh d=>Dc d
 | .lst ts=>iP ts
 | .tup ts=>iP ts
 | .aE zk=>pR zk
 | .obj _ _ ts=>iP ts
def iP:List Tn->Bool
 | []=>true
 |t::ts=>Dg t && iP ts
def pR:List (Ae×Tn)->Bool
 | []=>true
 |(_,t)::ts=>Dg t && pR ts
end
theorem xV:∀zk:List (Ae×Tn),iP (zk.map (·.2))=pR zk
 | []=>by simp only[O0,iP,pR]
 |(k,t)::zk=>by simp only[B3,iP,pR,xV zk]
def kH:W->Bool
 | .sh d=>Dc d
 | .ow d=>Dg (Tn.of d)
 | .tr t=>Dg t
open Classical in
def aN(G:Hp)(S:AS):Hp:=λb=>if S b then none else G b
section
variable{K:Frag}{G H:Hp}{S:AS}
def bN:aB (aN G S) G:=λb o e=>by
 unfold aN at e
 split at e
 ·cases e
 ·exact e
def ur{b:Addr}(h:¬S b):aN G S b=G b:=by unfold aN;rw[if_neg h]
def oR{b:Addr}(h:S b):aN G S b=none:=by unfold aN;rw[if_pos h]
def xE(hs:∀b o,S b->G b=some o->Gn o=true){b:Addr}{o:HO}(e:G b=some o)(n:Gn o=false):aN G S b=some o:=by
 rw[ur λz=>by have:=hs b o z e;rw[n]at this;cases this];exact e
def GR(hs:∀b o,S b->G b=some o->Gn o=true){a:Addr}{u:HO}(h:Rd G a u)(n:Gn u=false):Rd (aN G S) a u:=by
 rcases h with h|⟨o,h⟩
 ·exact .inl (xE hs h n)
 ·exact .inr ⟨o,xE hs h rfl⟩
mutual
theorem aM.aN(hs:∀b o,S b->G b=some o->Gn o=true):∀{v:V} {d:D},aM K G v d->Dc d=true->aM K (L3.aN G S) v d
 |_,_,.aK,_=> .aK
 |_,_,.bl b,_=> .bl b
 |_,_,.int i,_=> .int i
 |_,_,.str x,_=> .str x
 |_,_,.lst h r,e=>by
  simp only[Dc]at e;exact .lst (h.elim (λz=> .inl (GR hs z rfl)) .inr) (aC.aN hs r e)
 |_,_,.tup h r,e=>by
  simp only[Dc]at e;exact .tup (h.elim (λz=> .inl (GR hs z rfl)) .inr) (aC.aN hs r e)
 |_,_,.dP _ _,e=>by simp only[Dc]at e;cases e
 |_,_,.dO _ _ _ _ _,e=>by simp only[Dc]at e;cases e
 |_,_,.aE _ _ _,e=>by simp only[Dc]at e;cases e
 |_,_,.obj _ _ _ _,e=>by simp only[Dc]at e;cases e
theorem aC.aN(hs:∀b o,S b->G b=some o->Gn o=true):∀{vs:List V} {ds:List D},aC K G vs ds->Ef ds=true->aC K (L3.aN G S) vs ds
 |_,_,.nil,_=> .nil
 |_,_,.cons h r,e=>by
  simp only[Ef,D5]at e;exact .cons (aM.aN hs h e.1) (aC.aN hs r e.2)
end
mutual
theorem Ow.aN(hs:∀b o,S b->G b=some o->Gn o=true):∀{v:V} {t:Tn} {S':AS},Ow K G H v t S'->Dg t=true->Ow K (L3.aN G S) H v t S'
 |_,_,_,.sh h,e=>by simp only[Dg]at e;exact .sh (h.aN hs e)
 |_,_,_,.lst h ha sub r,e=>by simp only[Dg]at e;exact .lst h ha sub (aR.aN hs r e)
 |_,_,_,.tup h ha sub r,e=>by simp only[Dg]at e;exact .tup h ha sub (aR.aN hs r e)
 |_,_,_,.aE h hk ha sub r,e=>by simp only[Dg]at e;exact .aE h hk ha sub (aR.aN hs r (by rw[xV];exact e))
 |_,_,_,.obj hc h hl ha sub r,e=>by simp only[Dg]at e;exact .obj hc h hl ha sub (aR.aN hs r e)
theorem aR.aN(hs:∀b o,S b->G b=some o->Gn o=true):∀{vs:List V} {ts:List Tn} {S':AS},aR K G H vs ts S'->iP ts=true->aR K (L3.aN G S) H vs ts S'
 |_,_,_,.nil,_=> .nil
 |_,_,_,.cons h r dj s1 s2,e=>by
  simp only[iP,D5]at e;exact .cons (Ow.aN hs h e.1) (aR.aN hs r e.2) dj s1 s2
end
theorem ExcAt.aN(hs:∀b o,S b->G b=some o->Gn o=true){cls:Value}{dx:Option Addr}{x:Xn}(h:ExcAt K G cls dx x)(e:Ef x.vs=true):ExcAt K (L3.aN G S) cls dx x:=by
 cases h with
 |bare hc=>exact .bare hc
 |iA hc hd hl r=>exact .iA hc (xE hs hd rfl) hl (r.aN hs e)
end
def iX(js:List Nat):Nat->SE->DE
 |_,[]=> []
 |n,s::Δ=>(if js.contains n=true then s.any else s.bT)::iX js (n + 1) Δ
def Dt(js:List Nat)(Δ:SE):DE:=iX js 0 Δ
theorem Jf(js:List Nat):∀(Δ:SE) (n i:Nat),(iX js n Δ)[i]? =(Δ[i]?).map λs=>if js.contains (n + i)=true then s.any else s.bT
 | [],n,i=>by simp only[iX,List.getElem?_nil,Option.map_none]
 |s::Δ,n,0=>by simp only[iX,M0,M3,Nat.add_zero]
 |s::Δ,n,i + 1=>by
  simp only[iX,N3];rw[Jf js Δ (n + 1) i,show n + 1 + i=n + (i + 1) by lia]
theorem Je(js:List Nat):∀(Δ:SE) (n:Nat),(iX js n Δ).length=Δ.length
 | [],_=>rfl
 |s::Δ,n=>by simp only[iX,B4,Je js Δ]
def mZ(js:List Nat)(Δ:SE):Bool:=js.all λj=>match Δ[j]? with
 |some s=>(match s.own with
  |some t=>t.aX
  |none=>true)
 |none=>true
section
variable{K:Frag}{H0:HB}{G0 G H:Hp}{σ:Sg}{Δ:SE}{O:OS}
def Sl.sU{s:Sl}{d:D}(e:s.any=some d):s=.sh d\/∃t,s.own=some t/\t.d=d:=by
 cases s with
 |no=>cases e
 |sh d'=>cases e;exact .inl rfl
 |ow d'=>cases e;exact .inr ⟨_,rfl,Tn.eI _⟩
 |tr t=>cases e;exact .inr ⟨_,rfl,rfl⟩
 |lk d'=>cases e;exact .inr ⟨_,rfl,Tn.eI _⟩
 |lt t=>cases e;exact .inr ⟨_,rfl,rfl⟩
theorem Ev.lend(E:Ev K H0 G0 G H σ Δ O)(js:List Nat)(hl:mZ js Δ=true):∃S:AS,(∀b,S b->∃i,O i b)/\(∀b,S b->∃o,H b=some o/\Gn o=true)/\aU K (Dk G H S) σ (Dt js Δ):=by
 let S:AS:=λb=>∃(i:Nat) (s:Sl) (t:Tn) (v:V) (S':AS),Δ[i]? =some s/\s.own=some t/\σ[i]? =some (some v)/\(∀b,S' b->O i b/\∃o,H b=some o/\Gn o=true)/\S' b
 have hS:∀b,S b->∃i,O i b:=λb ⟨i,s,t,v,S',_,_,_,f,hb⟩=>⟨i,(f b hb).1⟩;have sg:aB G (Dk G H S):=λb o q=>by
  unfold Dk
  split
  ·rename_i hb;obtain⟨i,hi⟩:=hS b hb;rw[(E.out i b hi).1]at q;cases q
  ·exact q
 refine⟨S,hS,λb ⟨i,s,t,v,S',_,_,_,f,hb⟩=>(f b hb).2,by unfold Dt;rw[Je];exact E.len,λi d q=> ?_⟩;unfold Dt at q;rw[Jf,P6]at q;obtain⟨s,es,q⟩:=E8.mp q
 split at q
 ·rename_i hj;rcases Sl.sU q with rfl|⟨t,to,rfl⟩
  ·obtain⟨v,e1,r⟩:=E.sh i d es;exact⟨v,e1,r.mono sg⟩
  ·obtain⟨v,e1,w⟩:=E.ow i s t es to;have lt:t.aX=true:=by
    have:=F8.mp hl i (S7.mp hj);rw[es]at this;simp only[to]at this;exact this
   obtain⟨S',f,w'⟩:=w.lend lt;refine⟨v,e1,w'.has sg λb o hb hq=> ?_⟩;unfold Dk;rw[if_pos ⟨i,s,t,v,S',es,to,e1,f,hb⟩];exact hq
 ·cases s with
  |sh d'=>cases q;obtain⟨v,e1,r⟩:=E.sh i _ es;exact⟨v,e1,r.mono sg⟩
  |_=>cases q
def Ia(E:Ev K H0 G0 G H σ Δ O){S:AS}(hS:∀b,S b->∃i,O i b):aN (Dk G H S) S=G:=by
 funext b
 by_cases hb:S b
 ·rw[oR hb];obtain⟨i,hi⟩:=hS b hb;exact(E.out i b hi).1.symm
 ·rw[ur hb];unfold Dk;rw[if_neg hb]
def EK(E:Ev K H0 G0 G H σ Δ O){S:AS}:aB (Dk G H S) H:=λb o q=>by
 unfold Dk at q
 split at q
 ·exact q
 ·exact E.st.gh b o q
def EJ{S:AS}(hk:∀b,S b->∃o,H b=some o/\Gn o=true):∀b,S b->∃o,Dk G H S b=some o/\Gn o=true:=λb hb=>by
 obtain⟨o,e,l⟩:=hk b hb;exact⟨o,by unfold Dk;rw[if_pos hb];exact e,l⟩
end
theorem Step.aN{G H G2 H2:Hp}{S:AS}(st:Step G H G2 H2):Step (L3.aN G S) H (L3.aN G2 S) H2:=
 ⟨st.hh,λb o q=>st.gh b o (bN b o q),λb o q=>by
  by_cases hb:S b
  ·rw[oR hb]at q;cases q
  ·rw[ur hb]at q⊢;exact st.gg b o q,λb n z=>by
  by_cases hb:S b
  ·exact oR hb
  ·rw[ur hb]at n⊢;exact st.nw b n z⟩
def Step.kh{G H G2 H2:Hp}{S:AS}(st:Step G H G2 H2)(hk:∀b,S b->∃o,G b=some o/\Gn o=true):∀b,S b->∃o,G2 b=some o/\Gn o=true:=λb hb=>by
 obtain⟨o,e,l⟩:=hk b hb;exact⟨o,st.gg b o e,l⟩
def mG{G:Hp}{S:AS}(hk:∀b,S b->∃o,G b=some o/\Gn o=true):∀b o,S b->G b=some o->Gn o=true:=λb o hb q=>by
 obtain⟨o',e,l⟩:=hk b hb;rw[e]at q;cases q;exact l
def Qz(EX:jl):jl:=⟨λx G H=>Ef x.vs=true/\∃S:AS,(∀b,S b->∃o,G b=some o/\Gn o=true)/\EX.p x (aN G S) H,
 λ_ _ _ _ _ st ⟨pl,S,k,q⟩=>⟨pl,S,st.kh k,EX.mono _ _ _ _ _ st.aN q⟩⟩
def ro(EX:Ax):Ax:=λ σ=>Qz (EX σ)
def Lk.lend{EX:Ax}(lk:Lk X EX):Lk X (ro EX):=λzc σ H s e s' I c=>by
 obtain⟨a,C,dx,T,H',h1,h2,h3,h4,h5,h6,h7,h8,h9,NY,x,G,sg,ea,pl,S,k,q⟩:=c;exact lk zc σ H s e s' I ⟨a,C,dx,T,H',h1,h2,h3,h4,h5,h6,h7,h8,h9,NY,x,aN G S,bN.trans sg,ea.aN (mG k) pl,q⟩
section
variable{K:Frag}{EX:Ax}{H0:HB}{G0 G H:Hp}{σ:Sg}{Δ:SE}{O:OS}{f:FE}{Q:VK}{js:List Nat}{w:W}{x:Xn}
def GQ(E:Ev K H0 G0 G H σ Δ O)(hl:mZ js Δ=true)(e:f (Dt js Δ)=.ok w)(pw:kH w=true)(q:WP K G H w Q):tD K EX f σ H Q:=by
 obtain⟨S,hS,hk,hs⟩:=E.lend js hl;have k1:=EJ (G:=G) hk;refine⟨Dk G H S,Dt js Δ,EK E,hs, ?_⟩;rw[e];have dE:∀{G2 H2:Hp},Step (Dk G H S) H G2 H2->Step G H (aN G2 S) H2:=λst=>by
  have:=st.aN (S:=S);rw[Ia E hS]at this;exact this
 cases w with
 |sh d=>exact λv G2 H2 st r=>q v (aN G2 S) H2 (dE st) (r.aN (mG (st.kh k1)) pw)
 |ow d=>exact λv S' G2 H2 st fr t=>q v S' (aN G2 S) H2 (dE st) (λa ha=>⟨(fr a ha).1,bN.free (fr a ha).2.1,(fr a ha).2.2⟩) (t.aN (mG (st.kh k1)) pw)
 |tr t=>exact λv S' G2 H2 st fr t=>q v S' (aN G2 S) H2 (dE st) (λa ha=>⟨(fr a ha).1,bN.free (fr a ha).2.1,(fr a ha).2.2⟩) (t.aN (mG (st.kh k1)) pw)
def GP(E:Ev K H0 G0 G H σ Δ O)(hl:mZ js Δ=true)(e:f (Dt js Δ)=.ex x)(pl:Ef x.vs=true)(q:(EX σ).p x G H):tD K (ro EX) f σ H Q:=by
 obtain⟨S,hS,hk,hs⟩:=E.lend js hl;refine⟨Dk G H S,Dt js Δ,EK E,hs, ?_⟩;rw[e];exact⟨pl,S,EJ hk,by rw[Ia E hS];exact q⟩
end
inductive FM where
 |ok (d:D) (Δ:SE)|ex (x:Xn) (Δ:SE)|no
def mh(K:Frag)(EX:Ax)(H0:HB)(G0 G1:Hp)(σ:Sg)(r:FM)(Q:VK):Prop:=match r with
 | .ok d Δ=>∀v G H O,Ev K H0 G0 G H σ Δ O->aB G1 G->aM K G v d->Q v H
 | .ex x Δ=>∀G H O,Ev K H0 G0 G H σ Δ O->aB G1 G->(EX σ).p x G H
 | .no=>False
def mh.mono{EX:Ax}{H0:HB}{G0 G1 G2:Hp}{σ:Sg}{r:FM}{Q:VK}(s:aB G1 G2)(h:mh K EX H0 G0 G1 σ r Q):mh K EX H0 G0 G2 σ r Q:=by
 cases r with
 |ok d Δ=>exact λv G H O E q r=>h v G H O E (s.trans q) r
 |ex x Δ=>exact λG H O E q=>h G H O E (s.trans q)
 |no=>exact h
def tM(K:Frag)(EX:Ax)(g:SE->FM):TE:=λ σ H Q=>∃H0 G0 G Δ O,Ev K H0 G0 G H σ Δ O/\mh K EX H0 G0 G σ (g Δ) Q
abbrev EM(X:Cx)(EX:Ax)(e:Expr)(g:SE->FM):Prop:=PE X e (tM X.K EX g)
def tMt(K:Frag)(EX:Ax)(g:SE->FM):TT:=λ σ H Q=>tM K EX g σ H λv H'=>∃b,v=.bl b/\Q b H'
abbrev TM(X:Cx)(EX:Ax)(e:Expr)(g:SE->FM):Prop:=PT X e (tMt X.K EX g)
def Fg(js:List Nat)(f:FE):SE->FM:=λ Δ=>if mZ js Δ=true then(match f (Dt js Δ) with
 | .ok w=>if kH w=true then .ok w.d Δ else .no
 | .ex x=>if Ef x.vs=true then .ex x Δ else .no
 | .no=> .no) else .no
def la(g:SE->FM):SE->FM:=λ Δ=>match g Δ with
 | .ok (.bl b) Δ1=> .ok (.bl (!b)) Δ1
 | .ok _ _=> .no
 |r=>r
def lr(g:SE->FM):SE->FM:=λ Δ=>match g Δ with
 | .ok (.bl b) Δ1=> .ok (.bl b) Δ1
 | .ok _ _=> .no
 |r=>r
section
variable{X:Cx}{EX:Ax}{a b e:Expr}{f:FE}{p:FT}{g g2:SE->FM}{pos:Pos}
def mV(js:List Nat)(he:ED X (ro EX) e f):EM X EX e (Fg js f):=PE.imp he λ σ H Q ⟨H0,G0,G,Δ,O,E,q⟩=>by
 unfold Fg at q
 split at q
 ·rename_i hl;cases e1:f (Dt js Δ) with
  |ok w=>
   simp only[e1]at q
   split at q
   ·rename_i pw;exact GQ E hl e1 pw (WP.intro λv G' H' st r=>q v G' H' O (E.grow st) st.gg r)
   ·exact q.elim
  |ex x=>
   simp only[e1]at q
   split at q
   ·rename_i pl;exact GP E hl e1 pl (q G H O E (aB.refl _))
   ·exact q.elim
  |no=>simp only[e1]at q;exact q.elim
 ·exact q.elim
def EI(ha:TM X EX a g):TM X EX (.UnaryOp .Not a pos) (la g):=PT.imp (FK ha) λ σ H Q ⟨H0,G0,G,Δ,O,E,q⟩=>by
 refine⟨H0,G0,G,Δ,O,E, ?_⟩;unfold la at q;cases e1:g Δ with
 |ok d Δ1=>
  simp only[e1]at q;cases d with
  |bl b=>
   intro v G1 H1 O1 E1 s1 r1;cases r1;obtain⟨b',z,q⟩:=q (.bl (!b)) G1 H1 O1 E1 s1 (.bl _);cases z;exact⟨b,rfl,q⟩
  |_=>exact q.elim
 |ex x Δ1=>simp only[e1]at q;exact q
 |no=>simp only[e1]at q;exact q.elim
def DJ(ha:EM X EX a g)(he:∀whole,isTrue a X.env whole=(do let v<-whole;standAt a.pos;holding [v] (truthy v)):=by intro _;rfl):TM X EX a (lr g):=PT.imp (IH ha he) λ σ H Q ⟨H0,G0,G,Δ,O,E,q⟩=>by
 refine⟨H0,G0,G,Δ,O,E, ?_⟩;unfold lr at q;cases e1:g Δ with
 |ok d Δ1=>
  simp only[e1]at q;cases d with
  |bl b=>
   intro v G1 H1 O1 E1 s1 r1;obtain⟨b',z,q⟩:=q v G1 H1 O1 E1 s1 r1;subst z;exact⟨b',rfl,q⟩
  |_=>exact q.elim
 |ex x Δ1=>simp only[e1]at q;exact q
 |no=>simp only[e1]at q;exact q.elim
end
noncomputable def eY(i:Nat)(g:SE->FM):FS:=λ Δ=>match g Δ with
 | .ok d Δ1=> .nx (Δ1.set i (.sh d))
 | .ex x Δ1=> .ex x Δ1
 | .no=> .no
def jA(g:SE->FM):FS:=λ Δ=>match g Δ with
 | .ok _ Δ1=> .nx Δ1
 | .ex x Δ1=> .ex x Δ1
 | .no=> .no
def eX(g:SE->FM):FS:=λ Δ=>match g Δ with
 | .ok d Δ1=> .rv d Δ1
 | .ex x Δ1=> .ex x Δ1
 | .no=> .no
def kX(t:SE->FM)(g h:FS):FS:=λ Δ=>match t Δ with
 | .ok (.bl b) Δ1=>if b=true then g Δ1 else h Δ1
 | .ex x Δ1=> .ex x Δ1
 |_=> .no
section
variable{X:Cx}{EX:Ax}{e:Expr}{g:SE->FM}{g1 g2:FS}{pos:Pos}
def mU{i:Nat}{x:Str}{pos':Pos}(he:EM X EX e g)(hN:X.N.Nodup)(hi:X.N[i]? =some x:=by rfl)(hx:Ga X.env.scope x:=by trivial)(hs:swapsWith e (some (.Name x pos')) pos.line X.env=pure false:=by rfl)
  (hf:X.fn x=true\/X.env.scope.names.lookup x=some .local:=by trivial):SD X EX (.Assign [.Name x pos'] e pos) (eY i g):=
 PS.imp (wb hN hi hx he hs hf) λD σ H ⟨H0,G0,G,Δ,O,E,q⟩=>by
  refine⟨H0,G0,G,Δ,O,E, ?_⟩;unfold eY at q;cases e1:g Δ with
  |ok d Δ1=>simp only[e1]at q;exact λv G1 H1 O1 E1 s1 r1=>q _ G1 H1 O1 (E1.put r1) s1
  |ex x Δ1=>simp only[e1]at q;exact λG1 H1 O1 E1 s1=>q σ G1 H1 O1 E1 s1
  |no=>simp only[e1]at q;exact q.elim
def xj(he:EM X EX e g)(hs:swapsWith e none pos.line X.env=pure false:=by rfl):SD X EX (.Expr e pos) (jA g):=
 PS.imp (md he hs) λD σ H ⟨H0,G0,G,Δ,O,E,q⟩=>by
  refine⟨H0,G0,G,Δ,O,E, ?_⟩;unfold jA at q;cases e1:g Δ with
  |ok d Δ1=>simp only[e1]at q;exact λv G1 H1 O1 E1 s1 r1=>q σ G1 H1 O1 E1 s1
  |ex x Δ1=>simp only[e1]at q;exact λG1 H1 O1 E1 s1=>q σ G1 H1 O1 E1 s1
  |no=>simp only[e1]at q;exact q.elim
def mE(he:EM X EX e g):SD X EX (.Return (some e) pos) (eX g):=
 PS.imp (we he) λD σ H ⟨H0,G0,G,Δ,O,E,q⟩=>by
  refine⟨H0,G0,G,Δ,O,E, ?_⟩;unfold eX at q;cases e1:g Δ with
  |ok d Δ1=>simp only[e1]at q;exact λv G1 H1 O1 E1 s1 r1=>q v σ G1 H1 O1 E1 s1 r1
  |ex x Δ1=>simp only[e1]at q;exact λG1 H1 O1 E1 s1=>q σ G1 H1 O1 E1 s1
  |no=>simp only[e1]at q;exact q.elim
def EH{c:Expr}{as bs:List Stmt}(hc:TM X EX c g)(ha:BD X EX as g1)(hb:BD X EX bs g2):SD X EX (.If c as bs pos) (kX g g1 g2):=
 PS.imp (DT hc ha hb) λD σ H ⟨H0,G0,G,Δ,O,E,q⟩=>by
  refine⟨H0,G0,G,Δ,O,E, ?_⟩;unfold kX at q;cases e1:g Δ with
  |ok d Δ1=>
   simp only[e1]at q;cases d with
   |bl b=>
    intro v G1 H1 O1 E1 s1 r1;cases r1;refine⟨b,rfl, ?_⟩;cases b with
    |true=>rw[if_pos rfl];exact⟨H0,G0,G1,Δ1,O1,E1,Fin.mono s1 q⟩
    |false=>rw[if_neg A7];exact⟨H0,G0,G1,Δ1,O1,E1,Fin.mono s1 q⟩
   |_=>exact q.elim
  |ex x Δ1=>simp only[e1]at q;exact λG1 H1 O1 E1 s1=>q σ G1 H1 O1 E1 s1
  |no=>simp only[e1]at q;exact q.elim
end
inductive RR where
 |ok (d:D) (t:Tn)|ex (x:Xn) (t:Tn)|no
noncomputable def fR(n:Nat)(t:Tn)(ds:List D):SE:=.lt t::(ds.map Sl.sh ++ List.replicate (n - (ds.length + 1)) .no)
def fM(n:Nat)(g:FS)(t:Tn)(ds:List D):RR:=match g (fR n t ds) with
 | .nx (.lt t'::_)=> .ok .aK t'
 | .rv d (.lt t'::_)=> .ok d t'
 | .ex x (.lt t'::_)=> .ex x t'
 |_=> .no
def kF(K:Frag)(n:Nat)(F:Tn->List D->RR):Sp:=λvs H Q E=>∃a0 dB,vs=.ref a0::dB/\dB.length=n/\∃G ds t S,aB G H/\aC K G dB ds/\Ow K G H (.ref a0) t S/\(∀a,S a->G a=none/\H a≠none)/\
 match F t ds with
 | .ok d t'=>∀v G' H' S',bX S G H G' H'->(∀a,S' a->(S a\/H a=none)/\G' a=none/\H' a≠none)->Ow K G' H' (.ref a0) t' S'->aM K G' v d->Q v H'
 | .ex x t'=>∀cls dx G' H' S',bX S G H G' H'->(∀a,S' a->(S a\/H a=none)/\G' a=none/\H' a≠none)->Ow K G' H' (.ref a0) t' S'->ExcAt K G' cls dx x->E cls dx H'
 | .no=>False
open Classical in
def Qi{c:Bool}{P:Program}{w:World}{x qual:Str}{st:Stmt}{f:Addr}{N ps:List Str}{k n:Nat}{g:FS}(F:bC K x qual st f fd)(S:aV N ps (Cc st))(hn:ps.length=n + 1)(hle:ps.length<=N.length)
  (zh:∀(zp:Value) (A:Around) (outer:List Env) (s:Shared) (H:Hp) (E:XK),aF c k (A.deeper (envOfC qual (Cc st) s.heap.objs.size f zp))->
   BD (Gr c P w K mg base N qual (Cc st) f zp A outer s H E) (λ_=>bW K E) (Ft st) g):bI P w K mg base c (k + 1) f fd ps (kF K n (fM N.length g)):=by
 refine bC.AN F S (λvs H Q E h=> ?_) λzp A outer s H vs Q E hr h=>⟨_,zh zp A outer s H E hr, ?_⟩
 ·obtain⟨a0,dB,rfl,hl,_⟩:=h;rw[B4,hl,hn]
 obtain⟨a0,dB,rfl,hl,G,ds,t,S0,g0,r,tw,out,q⟩:=h;have i0:aB (λb=>if S0 b then none else H b) H:=λb o e=>by
  simp only at e
  split at e
  ·cases e
  ·exact e
 have E0:=xG (N:=N) (b:=λ_=>a0) (v0:=.ref a0) g0 i0 r (by rw[hl];lia);have hs:(L2.start N (.ref a0::dB))[0]? =some (some (.ref a0)):=rfl;have E1:=E0.kY (i:=0) (z:=.lt t) (v:=.ref a0) (S:=S0) (λa ha=>⟨by simp only;rw[if_pos ha],(out a ha).1,(out a ha).2⟩) rfl (λ_ z=>by cases z) tw (λj a ha=>ha.elim) (λ_ _=>rfl);rw[uu hs]at E1;refine⟨⟨λb=>if S0 b then none else H b,λ_=>a0⟩,G,G,_,_,E1, ?_⟩;have e2:(Sl.no::(ds.map Sl.sh ++ List.replicate (N.length - (ds.length + 1)) .no)).set 0 (.lt t)=fR N.length t ds:=rfl;rw[e2];have fin:∀{Δ:SE} {t':Tn} {σ:Sg} {G' H':Hp} {O:OS},Ev K ⟨λb=>if S0 b then none else H b,λ_=>a0⟩ G G' H' σ (.lt t'::Δ) O->bX S0 G H G' H'/\(∀a,O 0 a->(S0 a\/H a=none)/\G' a=none/\H' a≠none)/\Ow K G' H' (.ref a0) t' (O 0):=λ{Δ t' σ G' H' O} E'=>by
  obtain⟨v,s1,t3⟩:=E'.ow 0 (.lt t') t' rfl rfl;have s2:=E'.lt 0 t' rfl;rw[s1]at s2;cases s2;refine⟨⟨λb o nb z=>E'.st.hh b o (by simp only;rw[if_neg nb];exact z),E'.st.gh,E'.st.gg,λb nb z1 z2=>E'.st.nw b z1 (by simp only;rw[if_neg nb];exact z2)⟩,λa ha=> ?_,t3⟩;obtain⟨k1,k2,k3⟩:=E'.out _ a ha;refine⟨?_,k1,k3⟩;simp only at k2
  split at k2
  ·rename_i z;exact .inl z
  ·exact .inr k2
 unfold fM at q;cases e:g (fR N.length t ds) with
 |nx Δ=>
  rw[e]at q;cases Δ with
  |nil=>exact q.elim
  |cons s Δ=>
   cases s with
   |lt t'=>
    intro σ G' H' O E' _;obtain⟨ms,fr,tt⟩:=fin E';exact q .aK G' H' _ ms fr tt .aK
   |_=>exact q.elim
 |rv d Δ=>
  rw[e]at q;cases Δ with
  |nil=>exact q.elim
  |cons s Δ=>
   cases s with
   |lt t'=>
    intro v σ G' H' O E' _ rv;obtain⟨ms,fr,tt⟩:=fin E';exact q v G' H' _ ms fr tt rv
   |_=>exact q.elim
 |ex x Δ=>
  rw[e]at q;cases Δ with
  |nil=>exact q.elim
  |cons s Δ=>
   cases s with
   |lt t'=>
    intro σ G' H' O E' _ cls dx G2 H2 aT ea;obtain⟨ms,fr,tt⟩:=fin (E'.grow aT);exact q cls dx G2 H2 _ ms fr tt ea
   |_=>exact q.elim
 |rt w=>rw[e]at q;exact q.elim
 |bk Δ=>rw[e]at q;exact q.elim
 |ct Δ=>rw[e]at q;exact q.elim
 |no=>rw[e]at q;exact q.elim
def pD(P:Program)(w:World)(K:Frag)(mg:AB)(base:Heap)(c:Bool)(x:Str)(k n:Nat)(ps:List Str)(F:Tn->List D->RR):Prop:=
 ∃f fd,bI P w K mg base c k f fd ps (kF K n F)/\mg x=some (.ref f)/\keepIn K (.ref f)=true/\Binds K fd ps []
def Rq{c:Bool}{P:Program}{w:World}{x:Str}{st:Stmt}{f:Addr}{ps:List Str}{k n:Nat}{Fn:Tn->List D->RR}(F:bC K x x st f fd)(hm:mg x=some (.ref f))(hb:Binds K fd ps [])
  (ok:bI P w K mg base c k f fd ps (kF K n Fn)):pD P w K mg base c x k n ps Fn:=⟨f,fd,ok,hm,F.kp,hb⟩
structure cQ(P:Program)(w:World)(K:Frag)(mg:AB)(base:Heap)(cc:Bool)(k n:Nat)(m c:Str)(F:Tn->List D->RR):Prop where
 ex:∃C f fd ps,ClsAt K c C/\gQ K C/\Meth K C m f/\bI P w K mg base cc k f fd ps (kF K n F)/\Binds K fd ps []
def tMa(K:Frag)(EX:Ax)(ga:SE->R (List D)):TA:=λ σ H Q=>∃H0 G0 G Δ O,Ev K H0 G0 G H σ Δ O/\match ga Δ with
 | .ok ds=>∀vs G' H',Ev K H0 G0 G' H' σ Δ O->aB G G'->aC K G' vs ds->Q vs H'
 | .ex x=>∀G' H',Ev K H0 G0 G' H' σ Δ O->aB G G'->(EX σ).p x G' H'
 | .no=>False
abbrev AM(X:Cx)(EX:Ax)(es:List Expr)(ga:SE->R (List D)):Prop:=PA X es (tMa X.K EX ga)
def fH:SE->R (List D):=λ_=> .ok []
def og(js:List Nat)(f:FE)(ga:SE->R (List D)):SE->R (List D):=λ Δ=>if mZ js Δ=true then(match f (Dt js Δ) with
 | .ok w=>if kH w=true then(match ga Δ with
  | .ok ds=> .ok (w.d::ds)
  | .ex x=> .ex x
  | .no=> .no) else .no
 | .ex x=>if Ef x.vs=true then .ex x else .no
 | .no=> .no) else .no
section
variable{X:Cx}{EX:Ax}{e:Expr}{es:List Expr}{f:FE}{ga:SE->R (List D)}{x:Str}{pp pos:Pos}{c:Bool}{k k' n:Nat}{ps:List Str}
def ik:AM X EX [] fH:=PA.imp mB λ σ H Q ⟨H0,G0,G,Δ,O,E,q⟩=>q [] G H E (aB.refl _) .nil
def TX(js:List Nat)(ha:ED X (ro EX) e f)(hr:AM X EX es ga)(hs:starEach (e::es) X.env=(false,eval e X.env)::starEach es X.env:=by rfl):AM X EX (e::es) (og js f ga):=
 PA.imp (iS ha hr hs) λ σ H Q ⟨H0,G0,G,Δ,O,E,q⟩=>by
  unfold og at q
  by_cases hl:mZ js Δ=true
  ·rw[if_pos hl]at q;cases e1:f (Dt js Δ) with
   |ok w=>
    simp only[e1]at q
    by_cases pw:kH w=true
    ·rw[if_pos pw]at q;refine GQ E hl e1 pw (WP.intro λv G1 H1 st r=>⟨H0,G0,G1,Δ,O,E.grow st, ?_⟩);cases e2:ga Δ with
     |ok ds=>simp only[e2]at q;exact λvs G2 H2 E2 s2 r2=>q (v::vs) G2 H2 E2 (st.gg.trans s2) (.cons (r.mono s2) r2)
     |ex x=>simp only[e2]at q;exact λG2 H2 E2 s2=>q G2 H2 E2 (st.gg.trans s2)
     |no=>simp only[e2]at q
    ·rw[if_neg pw]at q;exact q.elim
   |ex x=>
    simp only[e1]at q
    by_cases pl:Ef x.vs=true
    ·rw[if_pos pl]at q;exact GP E hl e1 pl (q G H E (aB.refl _))
    ·rw[if_neg pl]at q;exact q.elim
   |no=>simp only[e1]at q
  ·rw[if_neg hl]at q;exact q.elim
def BQ(i:Nat)(lk:Bool)(Δ:SE):RR->FM
 | .ok d t'=> .ok d (Δ.set i (Sl.mk lk t'))
 | .ex x t'=> .ex x (Δ.set i (Sl.mk lk t'))
 | .no=> .no
def lG(i n:Nat)(F:Tn->List D->RR)(ga:SE->R (List D)):SE->FM:=λ Δ=>match(Δ[i]?).bind Sl.tree with
 |some (.obj c ns ts,lk)=>(match ga Δ with
  | .ok ds=>if ds.length=n then BQ i lk Δ (F (.obj c ns ts) ds) else .no
  | .ex x=> .ex x Δ
  | .no=> .no)
 |_=> .no
def Fh(i n:Nat)(m c:Str)(F:Tn->List D->RR)(ga:SE->R (List D)):SE->FM:=λ Δ=>match(Δ[i]?).bind Sl.tree with
 |some (.obj c' ns ts,lk)=>if c'=c/\ns.contains m=false then(match ga Δ with
  | .ok ds=>if ds.length=n then BQ i lk Δ (F (.obj c' ns ts) ds) else .no
  | .ex x=> .ex x Δ
  | .no=> .no) else .no
 |_=> .no
def EG{H0:HB}{G0 G G1 H1:Hp}{σ:Sg}{Δ:SE}{O:OS}{i:Nat}{s:Sl}{c:Str}{ns:List Str}{ts:List Tn}{lk:Bool}{F:Tn->List D->RR}{a0:Addr}{vs:List V}{ds:List D}{Q:VK}
  (e1:Δ[i]? =some s) (cR:s.tree=some (.obj c ns ts,lk)) (s1:σ[i]? =some (some (.ref a0))) (E1:Ev K H0 G0 G1 H1 σ Δ O) (sg:aB G G1) (r:aC K G1 vs ds) (hl:ds.length=n) (q:mh K EX H0 G0 G σ (BQ i lk Δ (F (.obj c ns ts) ds)) Q):kF K n F (.ref a0::vs) H1 Q (nE K (EX σ)):=by
 obtain⟨v0,gI,t0⟩:=E1.ow i _ _ e1 (Sl.aZ cR);rw[s1]at gI;cases gI;refine⟨a0,vs,rfl,by rw[r.length];exact hl,G1,ds,.obj c ns ts,O i,E1.st.gh,r,t0,λa ha=>⟨(E1.out i a ha).1,(E1.out i a ha).2.2⟩, ?_⟩;cases ef:F (.obj c ns ts) ds with
 |ok d t'=>
  rw[ef]at q;exact λv G' H' S' ms fr t1 rv=>q v G' H' _ (E1.dN (Sl.dI lk t') (Sl.eR lk t') (E1.eQ e1 cR t') ms s1 fr t1) (sg.trans ms.gg) rv
 |ex x t'=>
  rw[ef]at q;exact λcls dx G' H' S' ms fr t1 ea=>⟨x,G',ms.gh,ea,q G' H' _ (E1.dN (Sl.dI lk t') (Sl.eR lk t') (E1.eQ e1 cR t') ms s1 fr t1) (sg.trans ms.gg)⟩
 |no=>rw[ef]at q;exact q
theorem HZ{m:Str}:∀{ns:List Str} {us:List V},ns.contains m=false->(ns.zip us).lookup m=none
 | [],_,_=>rfl
 |_::_,[],_=>rfl
 |n::ns,u::us,h=>by
  rw[N1,X5]at h;rw[N2,J6,h.1];exact HZ h.2
def VJ{i:Nat}{y:Str}{F:Tn->List D->RR}{p3:Pos}(hr:aF c k' X.A)(lk:Lk X EX)(h:pD X.prog X.w X.K X.mg X.base c x k n ps F)(ha:AM X EX es ga)(hk:k<=k':=by decide)
  (hN:X.N[i]? =some y:=by rfl) (hv:Fm X.env.scope y:=by trivial) (hd:AG y:=by decide) (bO:(y ==("__classdict__" :Str))=false:=by decide)
  (hg:Gl X x:=by rfl) (cW:AG x:=by decide) (jg:starEach (.Name y p3::es) X.env=(false,eval (.Name y p3) X.env)::starEach es X.env:=by rfl) (bZ:(backTo pos (starEach es X.env)).any (·.1)=false:=by rfl):
  EM X EX (.Call (.Name x pp) (.Name y p3::es) [] pos) (lG i n F ga):=by
 obtain⟨f,fd,ok,hm,kp,hb⟩:=h;refine PE.imp (Ii hr lk ok hm kp hb (iS (Fd hN hv hd bO) ha jg) hk hg cW jg bZ) λ σ H Q ⟨H0,G0,G,Δ,O,E,q⟩=> ?_;unfold lG at q
 split at q
 ·rename_i c0 ns ts yN e0;obtain⟨s,e1,cR⟩:=J9.mp e0;obtain⟨v0,s1,t0⟩:=E.ow i _ _ e1 (Sl.aZ cR);cases t0 with
  |obj hc hh hl hA sub rl=>
   refine⟨_,s1,H0,G0,G,Δ,O,E, ?_⟩;cases ea:ga Δ with
   |ok ds=>
    simp only[ea]at q
    split at q
    ·rename_i zj;exact λvs G1 H1 E1 sg r=>EG e1 cR s1 E1 sg r zj q
    ·exact q.elim
   |ex x=>simp only[ea]at q;exact λG1 H1 E1 sg=>q G1 H1 O E1 sg
   |no=>simp only[ea]at q;exact q.elim
 ·exact q.elim
def oQ{i:Nat}{y m cn:Str}{F:Tn->List D->RR}{p3 zf:Pos}{pl:Sem Bool}(h:cQ X.prog X.w X.K X.mg X.base c k n m cn F)(hr:aF c k' X.A)(lk:Lk X EX)(ha:AM X EX (e::es) ga)(hk:k<=k':=by decide)
  (hN:X.N[i]? =some y:=by rfl) (hv:Fm X.env.scope y:=by trivial) (hd:AG y:=by decide) (bO:(y ==("__classdict__" :Str))=false:=by decide)
  (cA:starEach (e::es) X.env=(false,eval e X.env)::starEach es X.env:=by rfl) (bZ:(backTo pos (starEach es X.env)).any (·.1)=false:=by rfl)
  (ht:eval (.Call (.Attribute (.Name y p3) m zf) (e::es) [] pos) X.env=(do
   let ov<-eval (.Name y p3) X.env
   standAt zf.atName
   let(f,first)<-holding [ov] (getMethod ov m pl)
   callWith pos f first (backTo pos (starEach (e::es) X.env)) (backToKw pos (keywordEach [] X.env))):=by rfl):EM X EX (.Call (.Attribute (.Name y p3) m zf) (e::es) [] pos) (Fh i n m cn F ga):=by
 obtain⟨C,f,fd,ps,a1,a2,a3,a4,a5⟩:=h.ex;refine PE.imp (Ha (Fd hN hv hd bO) (hr.mono hk) lk ha cA bZ ht) λ σ H Q ⟨H0,G0,G,Δ,O,E,q⟩=> ?_;unfold Fh at q
 split at q
 ·rename_i c0 ns ts yN e0;obtain⟨s,e1,cR⟩:=J9.mp e0;obtain⟨v0,s1,t0⟩:=E.ow i _ _ e1 (Sl.aZ cR)
  split at q
  ·rename_i hcn;cases t0 with
   |obj hc hh hl hA sub rl=>
    obtain⟨rfl,pX⟩:=hcn;have:=a1.same hc;subst this;refine⟨_,s1,_,_,_,_,f,fd,ps,_,rfl,hh,HZ pX,a2,a3,a4,a5,H0,G0,G,Δ,O,E, ?_⟩;cases ea:ga Δ with
    |ok ds=>
     simp only[ea]at q
     split at q
     ·rename_i zj;exact λvs G1 H1 E1 sg r=>EG e1 cR s1 E1 sg r zj q
     ·exact q.elim
    |ex x=>simp only[ea]at q;exact λG1 H1 E1 sg=>q G1 H1 O E1 sg
    |no=>simp only[ea]at q;exact q.elim
  ·exact q.elim
 ·exact q.elim
end
def cU:List Str->List Tn->Str->Tn->List Tn
 |n::ns,t::ts,f,t'=>if n=f then t'::ts else t::cU ns ts f t'
 |_,ts,_,_=>ts
def gU:List Str->List V->Str->V->List V
 |n::ns,t::ts,f,t'=>if n=f then t'::ts else t::gU ns ts f t'
 |_,ts,_,_=>ts
section
variable{K:Frag}{G H:Hp}
theorem aR.jJ(f:Str):∀{ns:List Str} {us:List V} {ts:List Tn} {S:AS} {t:Tn},aR K G H us ts S->(ns.zip ts).lookup f=some t->
  ∃v S1,(ns.zip us).lookup f=some v/\Ow K G H v t S1/\(∀b,S1 b->S b)/\
   ∀{H':Hp} {t':Tn},(∀b o,S b->¬S1 b->H b=some o->H' b=some o)->Ow K G H' v t' S1->aR K G H' us (cU ns ts f t') S
 | [],_,_,_,_,_,e=>by cases e
 |_::_,[],_,_,_,.nil,e=>by cases e
 |n::ns,u::us,_,S,t,.cons (S1:=S1) (S2:=S2) (t:=t0) (ts:=ts) hh r dj s1 s2,e=>by
  rw[N2,J6]at e
  by_cases q:n=f
  ·subst q;simp only[M4]at e;cases e;refine⟨u,S1,by rw[N2,J6,M4],hh,s1,λ{H' t'} g h'=> ?_⟩;unfold cU;rw[if_pos rfl];exact .cons h' (r.mono (aB.refl _) (λb o hb z=>g b o (s2 b hb) (λw=>dj b w hb) z) λ_ z=>z) dj s1 s2
  ·have hb:(f ==n)=false:=O6.mpr (Ne.symm q);simp only[hb]at e;obtain⟨v',S',e1,h',i',f'⟩:=aR.jJ f r e;refine⟨v',S',by rw[N2,J6,hb];exact e1,h',λb z=>s2 b (i' b z),λ{H' t'} g h2=> ?_⟩;unfold cU;rw[if_neg q];exact .cons (hh.mono (aB.refl _) (λb o hb z=>g b o (s1 b hb) (λw=>dj b hb (i' b w)) z) λ_ z=>z) (f' (λb o hb nb z=>g b o (s2 b hb) nb z) h2) dj s1 s2
theorem aR.cU{d:D}(hv:aM K G v d)(f:Str):∀{ns:List Str} {us:List V} {ts:List Tn} {S:AS},aR K G H us ts S->aR K G H (gU ns us f v) (L3.cU ns ts f (.sh d)) S
 | [],us,ts,S,r=>by
  have h1:gU [] us f v=us:=by cases us <;> rfl
  have h2:L3.cU [] ts f (.sh d)=ts:=by cases ts <;> rfl
  rw[h1,h2];exact r
 |_::_,_,_,_,.nil=> .nil
 |n::ns,u::us,_,S,.cons (S1:=S1) (S2:=S2) hh r dj s1 s2=>by
  unfold gU L3.cU
  by_cases q:n=f
  ·rw[if_pos q,if_pos q];exact .cons (S1:=λ_=>False) (.sh hv) r (λ_ z _=>z) (λ_ z=>z.elim) s2
  ·rw[if_neg q,if_neg q];exact .cons hh (aR.cU hv f r) dj s1 s2
theorem HY(f:Str)(v:V):∀(ns:List Str) (us:List V),(gU ns us f v).length=us.length
 | [],us=>by cases us <;> rfl
 |_::_,[]=>rfl
 |n::ns,u::us=>by
  unfold gU
  split
  ·rfl
  ·rw[B4,B4,HY f v ns us]
theorem HW{f:Str}{y:V}:∀{ns:List Str} {us:List V},ns.length=us.length->ns.contains f=true->Ge f y (ns.zip us)=ns.zip (gU ns us f y)
 | [],[],_,h=>by cases h
 | [],_::_,e,_=>by simp at e
 |_::_,[],e,_=>by simp at e
 |n::ns,u::us,e,h=>by
  show Ge f y ((n,u)::ns.zip us)=_;unfold Ge gU
  by_cases q:n=f
  ·rw[if_pos q,if_pos q];simp only[q,N2]
  ·rw[if_neg q,if_neg q,N2,HW (by simpa using e)];rw[N1,U7]at h;rcases h with h|h
   ·exact absurd (N7.mp h).symm q
   ·exact h
def Ow.fX{c:Str}{ns:List Str}{ts:List Tn}{S:AS}(t:Ow K G H v (.obj c ns ts) S):∃a C dx us S1,v=.ref a/\ClsAt K c C/\H a=some (.ins C dx (ns.zip us))/\ns.length=us.length/\S a/\(∀b,S1 b->S b/\b≠a)/\aR K G H us ts S1:=by
 cases t with
 |obj hc h hl ha sub r=>exact⟨_,_,_,_,_,rfl,hc,h,hl,ha,sub,r⟩
end
def lq(i:Nat)(cs:List Str)(f:Str)(fk fe:FE):FS:=λ Δ=>match(Δ[i]?).bind Sl.tree with
 |some (.obj c ns ts,lk)=>if cs.contains c=true then(match(ns.zip ts).lookup f with
  |some (.aE AW)=>(match Gg AW with
   |some aA=>(match fe (At Δ) with
    | .ok w=>(match fk (At Δ) with
     | .ok z=>(match Ea z.d with
      |some k=>if aA.length < 16777216 then .nx (Δ.set i (Sl.mk lk (.obj c ns (cU ns ts f (Tn.of (.aE (Df aA k w.d))))))) else .no
      |none=> .no)
     |_=> .no)
    |_=> .no)
   |none=> .no)
  |_=> .no) else .no
 |_=> .no
def oe(i:Nat)(cs:List Str)(f:Str)(fk:FE):FS:=λ Δ=>match(Δ[i]?).bind Sl.tree with
 |some (.obj c ns ts,lk)=>if cs.contains c=true then(match(ns.zip ts).lookup f with
  |some (.aE AW)=>(match Gg AW with
   |some aA=>(match fk (At Δ) with
    | .ok z=>(match Ea z.d with
     |some k=>if(Bc aA k).isSome=true then .nx (Δ.set i (Sl.mk lk (.obj c ns (cU ns ts f (Tn.of (.aE (Gd aA k))))))) else .no
     |none=> .no)
    |_=> .no)
   |none=> .no)
  |_=> .no) else .no
 |_=> .no
def nZ(i:Nat)(cs:List Str)(f:Str)(js:List Nat)(fe:FE):FS:=λ Δ=>match((aD js Δ)[i]?).bind Sl.tree with
 |some (.obj c ns ts,lk)=>if cs.contains c=true/\ns.contains f=true/\ns.length < 1000 then(match fe (At (aD js Δ)) with
  | .ok w=> .nx ((aD js Δ).set i (Sl.mk lk (.obj c ns (cU ns ts f (.sh w.d)))))
  |_=> .no) else .no
 |_=> .no
section
variable{X:Cx}{EX:Ax}{pos:Pos}{i:Nat}{cs:List Str}{f x:Str}
def TV{e e2:Expr}{fe fk:FE}{p1 p2 zg:Pos}(hu:X.A.units + 64 < cLine)(k:bU X.K cs f)(he:ED X EX e fe)(h2:ED X EX e2 fk)(hN:X.N[i]? =some x:=by rfl)(hv:Fm X.env.scope x:=by trivial)(hd:AG x:=by decide)
  (bO:(x ==("__classdict__" :Str))=false:=by decide) (hb:attributeBase (.Name x p1) f X.env (eval (.Name x p1) X.env)=eval (.Name x p1) X.env:=by rfl) (hs:swapsWith e (some (.Subscript (.Attribute (.Name x p1) f p2) e2 zg)) pos.line X.env=pure false:=by rfl):
  SD X EX (.Assign [.Subscript (.Attribute (.Name x p1) f p2) e2 zg] e pos) (lq i cs f fk fe):=
 PS.imp (wJ () (vZ (Fd hN hv hd bO) hb) h2 he hs) λD σ H ⟨H0,G0,G,Δ,O,E,q⟩=>by
  unfold lq at q
  split at q
  ·rename_i c ns ts lk e0;obtain⟨s,e1,cR⟩:=J9.mp e0
   split at q
   ·rename_i BH
    split at q
    ·rename_i AW ef
     split at q
     ·rename_i aA eu;refine⟨G,At Δ,E.st.gh,E.dU, ?_⟩;cases e2:fe (At Δ) with
      |ex x=>simp only[e2]at q;exact q.elim
      |no=>simp only[e2]at q;exact q.elim
      |ok w=>
       simp only[e2]at q;refine WP.intro λv G1 H1 st r=> ?_;have E1:=E.grow st;obtain⟨v0,s1,t⟩:=E1.ow i _ _ e1 (Sl.aZ cR);obtain⟨a,C,dx,us,S1,rfl,hC,hH,hl,ha,sub,rl⟩:=t.fX;obtain⟨kc,kn⟩:=k _ BH _ hC;obtain⟨vd,Sd,ed,td,AX,fc⟩:=aR.jJ f (ns:=ns) rl ef;refine⟨_,s1,a,C,dx,_,vd,rfl,hH,kc,kn,ed, ?_⟩;refine⟨G1,At Δ,E1.st.gh,E1.dU, ?_⟩;cases e3:fk (At Δ) with
       |ex x=>simp only[e3]at q;exact q.elim
       |no=>simp only[e3]at q;exact q.elim
       |ok z=>
        simp only[e3]at q;refine WP.intro λv2 G2 H2 aT r2=> ?_
        split at q
        ·rename_i k0 ek
         split at q
         ·rename_i zj;have mH:=mP r2 ek;subst mH;rw[yA eu]at td;obtain⟨c1,qr,rfl,mc,qB,nh,ql⟩:=Ow.cE (aA:=aA) td;have E2:=E1.grow aT;have hle:qr.length=aA.length:=by
           have:=K4 List.length nh
           rwa[A3,A3]at this
          obtain⟨p1,p2⟩:=wD k0 nh ql r;have BJ:c1≠a:=(sub c1 (AX c1 mc)).2;refine⟨c1,_,rfl,fW.k (aT.hh _ _ qB) (by rw[hle,D9];exact zj),q σ G2 _ _ (E2.dW e1 cR s1 (sub c1 (AX c1 mc)).1 ?_) (st.gg.trans aT.gg)⟩;refine Ow.obj (S1:=S1) hC (by rw[Ao (Ne.symm BJ)];exact aT.hh _ _ hH) hl ha sub ?_;refine aR.mono aT.gg (fc (λb o hb nb z=> ?_) (Ow.dict Bf p1 mc p2)) (λ_ _ _ z=>z) λ_ z=>z;rw[Ao (show b≠c1 from λw=>nb (by rw[w];exact mc))];exact aT.hh _ _ z
         ·exact q.elim
        ·exact q.elim
     ·exact q.elim
    ·exact q.elim
   ·exact q.elim
  ·exact q.elim
def TU{e2:Expr}{fk:FE}{p1 p2 zf zd:Pos}(k:bU X.K cs f)(h2:ED X EX e2 fk)(hN:X.N[i]? =some x:=by rfl)(hv:Fm X.env.scope x:=by trivial)(hd:AG x:=by decide)
  (bO:(x ==("__classdict__" :Str))=false:=by decide) (hb:attributeBase (.Name x p1) f X.env (eval (.Name x p1) X.env)=eval (.Name x p1) X.env:=by rfl) (hm:M1 X (.Attribute (.Name x p1) f p2) "pop" zf e2 zd:=by exact⟨rfl,rfl,rfl,rfl⟩)
  (hs:swapsWith (.Call (.Attribute (.Attribute (.Name x p1) f p2) "pop" zf) [e2] [] zd) none pos.line X.env=pure false:=by rfl):
  SD X EX (.Expr (.Call (.Attribute (.Attribute (.Name x p1) f p2) "pop" zf) [e2] [] zd) pos) (oe i cs f fk):=
 PS.imp (md (Iz (vZ (Fd hN hv hd bO) hb) h2 hm) hs) λD σ H ⟨H0,G0,G,Δ,O,E,q⟩=>by
  unfold oe at q
  split at q
  ·rename_i c ns ts lk e0;obtain⟨s,e1,cR⟩:=J9.mp e0
   split at q
   ·rename_i BH
    split at q
    ·rename_i AW ef
     split at q
     ·rename_i aA eu;obtain⟨v0,s1,t⟩:=E.ow i _ _ e1 (Sl.aZ cR);obtain⟨a,C,dx,us,S1,rfl,hC,hH,hl,ha,sub,rl⟩:=t.fX;obtain⟨kc,kn⟩:=k _ BH _ hC;obtain⟨vd,Sd,ed,td,AX,fc⟩:=aR.jJ f (ns:=ns) rl ef;rw[yA eu]at td;obtain⟨c1,qr,rfl,mc,qB,nh,ql⟩:=Ow.cE (aA:=aA) td;refine⟨_,s1,a,C,dx,_,_,rfl,hH,kc,kn,ed,c1,rfl,.inl ⟨qr,.inl qB⟩, ?_⟩;refine⟨G,At Δ,E.st.gh,E.dU, ?_⟩;cases e3:fk (At Δ) with
      |ex x=>simp only[e3]at q;exact q.elim
      |no=>simp only[e3]at q;exact q.elim
      |ok z=>
       simp only[e3]at q;refine WP.intro λv2 G2 H2 aT r2=> ?_
       split at q
       ·rename_i k0 ek
        split at q
        ·rename_i iO;have mH:=mP r2 ek;subst mH;have E2:=E.grow aT;obtain⟨d0,Of⟩:=M7.mp iO;obtain⟨vv,ev,_⟩:=(jD k0 nh ql).2 d0 Of;obtain⟨p1,p2⟩:=xl k0 nh ql;have BJ:c1≠a:=(sub c1 (AX c1 mc)).2;refine⟨qr,k0,vv,aT.hh _ _ qB,rfl,ev,q σ G2 _ _ (E2.dW e1 cR s1 (sub c1 (AX c1 mc)).1 ?_) aT.gg⟩;refine Ow.obj (S1:=S1) hC (by rw[Ao (Ne.symm BJ)];exact aT.hh _ _ hH) hl ha sub ?_;refine aR.mono aT.gg (fc (λb o hb nb z=> ?_) (Ow.dict Bf p1 mc p2)) (λ_ _ _ z=>z) λ_ z=>z;rw[Ao (show b≠c1 from λw=>nb (by rw[w];exact mc))];exact aT.hh _ _ z
        ·exact q.elim
       ·exact q.elim
     ·exact q.elim
    ·exact q.elim
   ·exact q.elim
  ·exact q.elim
def TR(js:List Nat){e:Expr}{fe:FE}{p1 p2:Pos}(k:bU X.K cs f)(he:ED X EX e fe)(hN:X.N[i]? =some x:=by rfl)(hv:Fm X.env.scope x:=by trivial)(hd:AG x:=by decide)
  (bO:(x ==("__classdict__" :Str))=false:=by decide) (hs:swapsWith e (some (.Attribute (.Name x p1) f p2)) pos.line X.env=pure false:=by rfl):SD X EX (.Assign [.Attribute (.Name x p1) f p2] e pos) (nZ i cs f js fe):=
 PS.imp (vY (Fd hN hv hd bO) he hs) λD σ H ⟨H0,G0,G,Δ,O,E,q⟩=>by
  obtain⟨G1,O1,sg,E1⟩:=E.aD js;unfold nZ at q;generalize aD js Δ=Δ1 at q E1
  split at q
  ·rename_i c ns ts lk e0;obtain⟨s,e1,cR⟩:=J9.mp e0
   split at q
   ·rename_i hc;obtain⟨BL,nj,BK⟩:=hc;refine⟨G1,At Δ1,E1.st.gh,E1.dU, ?_⟩;cases e2:fe (At Δ1) with
    |ex y=>simp only[e2]at q;exact q.elim
    |no=>simp only[e2]at q;exact q.elim
    |ok w=>
     simp only[e2]at q;refine WP.intro λv G2 H2 st r=> ?_;have E2:=E1.grow st;obtain⟨v0,s1,t⟩:=E2.ow i _ _ e1 (Sl.aZ cR);obtain⟨a,C,dx,us,S1,rfl,hC,hH,hl,ha,sub,rl⟩:=t.fX;obtain⟨kc,kn⟩:=k _ BL _ hC;refine⟨_,s1,a,C,dx,_,rfl,hH,kc,kn,by rw[U8,<-hl,ML];exact BK, ?_⟩;rw[HW hl nj];refine q σ G2 _ _ (E2.dW e1 cR s1 ha ?_) (sg.trans st.gg);refine .obj (S1:=S1) hC Bf (by rw[HY];exact hl) ha sub ?_;refine aR.mono (aB.refl _) (aR.cU r f rl) (λb o hb z=> ?_) λ_ z=>z;rw[Ao (sub b hb).2];exact z
   ·exact q.elim
  ·exact q.elim
end
def Fp(n:Nat)(c:Str)(g:FS)(ds:List D):R (List Str×List Tn):=match g (oC n c ds) with
 | .nx (.lt (.obj c' ns ts)::_)=>if c'=c then .ok (ns,ts) else .no
 | .ex x _=> .ex x
 |_=> .no
def zX(K:Frag)(C:Addr)(cn:Str)(n:Nat)(F:List D->R (List Str×List Tn)):Sp:=λvs H Q E=>∃x dx dB Hq G ds,vs=.ref x::dB/\dB.length=n/\Hq x=none/\aB Hq H/\H x=some (.ins C dx [])/\aB G Hq/\aC K G dB ds/\
 (match F ds with
 | .ok p=>∀G' H' S,Step G Hq G' H'->(∀a,S a->Hq a=none/\G' a=none/\H' a≠none)->Ow K G' H' (.ref x) (.obj cn p.1 p.2) S->Q .aK H'
 | .ex e=>(bW K E).p e G Hq
 | .no=>False)
def Qj{c:Bool}{P:Program}{w:World}{x qual cn:Str}{st:Stmt}{f C:Addr}{N ps:List Str}{k n:Nat}{g:FS}(F:bC K x qual st f fd)(S:aV N ps (Cc st))(hC:ClsAt K cn C)(hn:ps.length=n + 1)(hle:ps.length<=N.length)
  (zh:∀(zp:Value) (A:Around) (outer:List Env) (s:Shared) (H:Hp) (E:XK),aF c k (A.deeper (envOfC qual (Cc st) s.heap.objs.size f zp))->
   BD (Gr c P w K mg base N qual (Cc st) f zp A outer s H E) (λ_=>bW K E) (Ft st) g):bI P w K mg base c (k + 1) f fd ps (zX K C cn n (Fp N.length cn g)):=by
 refine bC.AN F S (λvs H Q E h=> ?_) λzp A outer s H vs Q E hr h=>⟨_,zh zp A outer s H E hr, ?_⟩
 ·obtain⟨x,dx,dB,Hq,G,ds,rfl,hl,_⟩:=h;rw[B4,hl,hn]
 obtain⟨x,dx,dB,Hq,G,ds,rfl,hl,n1,i0,hx,g0,r,q⟩:=h;have E0:=xG (N:=N) (b:=λ_=>x) (v0:=.ref x) (g0.trans i0) i0 r (by rw[hl];lia);have hs:(L2.start N (.ref x::dB))[0]? =some (some (.ref x)):=rfl;have E1:=E0.kY (i:=0) (z:=.lt (.obj cn [] [])) (v:=.ref x) (S:=λb=>b=x) (λa ha=>by subst ha;exact⟨n1,g0.free n1,by rw[hx];simp⟩) rfl (λ_ z=>by cases z) (.obj (S1:=λ_=>False) hC (us:=[]) hx rfl rfl (λ_ z=>z.elim) .nil) (λj a ha=>ha.elim) (λ_ _=>rfl);rw[uu hs]at E1;refine⟨⟨Hq,λ_=>x⟩,G,G,_,_,E1, ?_⟩;have e2:(Sl.no::(ds.map Sl.sh ++ List.replicate (N.length - (ds.length + 1)) .no)).set 0 (.lt (.obj cn [] []))=oC N.length cn ds:=rfl;rw[e2];have nxt:∀{Δ:SE},g (oC N.length cn ds)=.nx Δ->Fin K (λ_=>bW K E) ⟨Hq,λ_=>x⟩ G G {nx:=λ_ H'=>Q .aK H',rt:=Q} (.nx Δ):=λ{Δ} e=>by
  unfold Fp at q;rw[e]at q;cases Δ with
  |nil=>exact q.elim
  |cons s Δ=>
   cases s with
   |lt t=>
    cases t with
    |obj c' ns ts=>
     simp only at q
     by_cases BI:c'=cn
     ·subst BI;rw[if_pos rfl]at q;intro σ G' H' O E' _;obtain⟨v,s1,t3⟩:=E'.ow 0 _ _ rfl rfl;have s2:=E'.lt 0 _ rfl;rw[s1]at s2;cases s2;exact q G' H' (O 0) E'.st (λa ha=>⟨(E'.out 0 a ha).2.1,(E'.out 0 a ha).1,(E'.out 0 a ha).2.2⟩) t3
     ·rw[if_neg BI]at q;exact q.elim
    |_=>exact q.elim
   |_=>exact q.elim
 cases e:g (oC N.length cn ds) with
 |nx Δ=>exact nxt e
 |ex x Δ=>unfold Fp at q;rw[e]at q;exact λ σ G' H' O E' _=>(bW K E).mono _ _ _ _ _ E'.st q
 |rt w=>unfold Fp at q;rw[e]at q;exact q.elim
 |rv d Δ=>unfold Fp at q;rw[e]at q;exact q.elim
 |bk Δ=>unfold Fp at q;rw[e]at q;exact q.elim
 |ct Δ=>unfold Fp at q;rw[e]at q;exact q.elim
 |no=>unfold Fp at q;rw[e]at q;exact q.elim
def nY(i:Nat)(cs:List Str)(f:Str)(fe:FE):FS:=λ Δ=>match Δ[i]? with
 |some (.lt (.obj c ns ts))=>if cs.contains c=true/\ns.contains f=false/\ns.length < 1000 then(match fe (At Δ) with
  | .ok (.ow d)=> .nx (Δ.set i (.lt (.obj c (ns ++ [f]) (ts ++ [Tn.of d]))))
  |_=> .no) else .no
 |_=> .no
def sP(P:Program)(w:World)(K:Frag)(mg:AB)(base:Heap)(cc:Bool)(c:Str)(k n:Nat)(F:List D->R (List Str×List Tn)):Prop:=
 ∃C f fd ps,ClsAt K c C/\mg c=some (.ref C)/\Mk K C f/\bI P w K mg base cc k f fd ps (zX K C c n F)/\Binds K fd ps []
def vA(c:Str)(n:Nat)(F:List D->R (List Str×List Tn))(fa:FA):FE:=λ δ=>(fa δ).bind λds=>if ds.length=n then(F ds).bind λp=> .ok (.tr (.obj c p.1 p.2)) else .no
section
variable{X:Cx}{EX:Ax}{e:Expr}{es:List Expr}{x:Str}{pp pos:Pos}{cc:Bool}{k k' n:Nat}
def TQ{i:Nat}{cs:List Str}{f x:Str}{e:Expr}{fe:FE}{p1 p2:Pos}(k:bU X.K cs f)(he:ED X EX e fe)(hN:X.N[i]? =some x:=by rfl)(hv:Fm X.env.scope x:=by trivial)(hd:AG x:=by decide)
  (bO:(x ==("__classdict__" :Str))=false:=by decide) (hs:swapsWith e (some (.Attribute (.Name x p1) f p2)) pos.line X.env=pure false:=by rfl):SD X EX (.Assign [.Attribute (.Name x p1) f p2] e pos) (nY i cs f fe):=
 PS.imp (vY (Fd hN hv hd bO) he hs) λD σ H ⟨H0,G0,G,Δ,O,E,q⟩=>by
  unfold nY at q
  split at q
  ·rename_i c ns ts e1
   split at q
   ·rename_i hc;obtain⟨BL,nj,BK⟩:=hc;refine⟨G,At Δ,E.st.gh,E.dU, ?_⟩;cases e2:fe (At Δ) with
    |ex y=>simp only[e2]at q;exact q.elim
    |no=>simp only[e2]at q;exact q.elim
    |ok w=>
     simp only[e2]at q;cases w with
     |sh d=>exact q.elim
     |tr t=>exact q.elim
     |ow d=>
      intro v S2 G2 H2 st fr tw;have E2:=E.grow st;obtain⟨v0,s1,t⟩:=E2.ow i _ _ e1 rfl;obtain⟨a,C,dx,us,S1,rfl,hC,hH,hl,ha,sub,rl⟩:=t.fX;have s2:=E2.lt i _ e1;obtain⟨kc,kn⟩:=k _ BL _ hC;refine⟨_,s1,a,C,dx,_,rfl,hH,kc,kn,by rw[U8,<-hl,ML];exact BK, ?_⟩;rw[xk hl nj];have hna:∀b,S2 b->b≠a:=λb hb z=>(E.out i a ha).2.2 (by rw[<-z];exact(fr b hb).1);have nO:∀b,S2 b->∀j,¬O j b:=λb hb j hj=>(E.out j b hj).2.2 (fr b hb).1;have np:∀b,b≠a->upd H2 a (.ins C dx ((ns ++ [f]).zip (us ++ [v]))) b=H2 b:=λb hb=>Ao hb;have al:∀b,H2 b≠none->upd H2 a (.ins C dx ((ns ++ [f]).zip (us ++ [v]))) b≠none:=λb hb=>by
       by_cases z:b=a
       ·subst z;rw[Bf];simp
       ·rw[np b z];exact hb
      have gh:aB G2 (upd H2 a (.ins C dx ((ns ++ [f]).zip (us ++ [v])))):=λb o z=>by
       have nb:b≠a:=λw=>by rw[w,(E2.out i a ha).1]at z;cases z
       rw[np b nb];exact st.gh b o z
      have s0:σ[i]? =some (some (.ref a)):=s1;refine q σ G2 _ _ (E.dN (S:=λb=>O i b\/S2 b) (z:=.lt _) rfl (λ_ z=>by cases z) (λ_ _=>by rw[s1]at s2⊢;exact s2) ⟨λb o nb z=>by rw[np b λw=>nb (by rw[w];exact ha)];exact st.hh b o z,gh,st.gg,λb _ z1 z2=>st.nw b z1 z2⟩ s0 (λb hb=> ?_) ?_) st.gg
      ·rcases hb with hb|hb
       ·exact⟨.inl hb,(E2.out i b hb).1,al b (E2.out i b hb).2.2⟩
       ·exact⟨.inr (fr b hb).1,(fr b hb).2.1,al b (fr b hb).2.2⟩
      ·refine .obj (S1:=λb=>S1 b\/S2 b) hC Bf (by rw[B8,B8,hl];rfl) (.inl ha) (λb hb=> ?_) ?_
       ·rcases hb with hb|hb
        ·exact⟨.inl (sub b hb).1,(sub b hb).2⟩
        ·exact⟨.inr hb,hna b hb⟩
       ·refine aR.append (S1:=S1) (S2:=S2) (rl.mono (aB.refl _) (λb o hb z=>by rw[np b (sub b hb).2];exact z) λ_ z=>z) (.cons (S1:=S2) (S2:=λ_=>False) (tw.mono (aB.refl _) (λb o hb z=>by rw[np b (hna b hb)];exact z) λ_ z=>z) .nil (λ_ _ z=>z) (λ_ z=>z) λ_ z=>z.elim) (λb z1 z2=>nO b z2 i (sub b z1).1) (λ_ z=> .inl z) λ_ z=> .inr z
   ·exact q.elim
  ·exact q.elim
def TN{F:List D->R (List Str×List Tn)}{fa:FA}(hr:aF cc k' X.A)(lk:Lk X EX)(h:sP X.prog X.w X.K X.mg X.base cc x k n F)(ha:AD X EX (e::es) fa)(hk:k + 1<=k':=by decide)(hg:Gl X x:=by rfl)(cW:AG x:=by decide)
  (he:starEach (e::es) X.env=(false,eval e X.env)::starEach es X.env:=by rfl) (bZ:(backTo pos (starEach es X.env)).any (·.1)=false:=by rfl):ED X EX (.Call (.Name x pp) (e::es) [] pos) (vA x n F fa):=by
 obtain⟨C,f,fd,ps,hC,hm,M,ok,hb⟩:=h;intro zc s σ H Q I q;obtain⟨G,δ,g0,s0,o⟩:=q;refine N0 (qi I hg hm ?_ cW);have ta:gv X.K EX fa σ H λvs H1=>∃G1 ds,aB G1 H1/\aC X.K G1 vs ds/\ds.length=n/\Out X.K (EX σ) G1 H1 ((F ds).bind λp=> .ok (.tr (.obj x p.1 p.2))) Q:=by
  refine gv.seq g0 s0 o λds vs G' H' _ st r o'=> ?_
  split at o'
  ·rename_i hl;exact⟨G',ds,st.gh,r,hl,o'⟩
  ·exact o'.elim
 refine Y6 (h₀:=X.base) I.ok.mod.mG M.kp (Ay (ha pos zc s σ H _ I ta) λus s1 ⟨vs,H1,I1,r,G1,ds,sg,rl,hl,o'⟩=>⟨I1.cN, ?_⟩) he bZ;refine Xi M ok (hr.mono hk) hb lk I1 r λy dy ny ndy ne=> ?_;refine⟨y,dy,vs,H1,G1,ds,rfl,by rw[rl.length];exact hl,ny,(λb o e=>by rw[Ao (Ep e ny),Ao (Ep e ndy)];exact e),Bf,sg,rl, ?_⟩;cases ef:F ds with
 |ok p=>
  rw[ef]at o';intro G' H' S st fr tw;exact⟨rfl,o' (.ref y) S G' H' st fr tw⟩
 |ex z=>rw[ef]at o';exact bW.in o'
 |no=>rw[ef]at o';exact o'
end
def gw(js:List Nat)(f:FE):SE->FM:=λ Δ=>match f (At (aD js Δ)) with
 | .ok w=> .ok w.d (aD js Δ)
 | .ex x=> .ex x (aD js Δ)
 | .no=> .no
def fD(js:List Nat)(g:SE->FM):SE->FM:=λ Δ=>g (aD js Δ)
def Fb(f:FE)(ga:SE->R (List D)):SE->R (List D):=λ Δ=>match f (At Δ) with
 | .ok w=>(match ga Δ with
  | .ok ds=> .ok (w.d::ds)
  | .ex x=> .ex x
  | .no=> .no)
 | .ex x=> .ex x
 | .no=> .no
def nX(fg:FG)(g:SE->FM):FS:=λ Δ=>match g Δ with
 | .ok d Δ1=>(match fg d Δ1 with
  | .ok Δ2=> .nx Δ2
  |_=> .no)
 | .ex x Δ1=> .ex x Δ1
 | .no=> .no
def nW(g:SE->FM)(fg:FG)(gb:FS):FS:=λ Δ=>match g Δ with
 | .ok d Δ1=>(match vP d with
  | .ok ds=>De fg gb ds Δ1
  |_=> .no)
 | .ex x Δ1=> .ex x Δ1
 | .no=> .no
section
variable{X:Cx}{EX:Ax}{e:Expr}{es:List Expr}{f:FE}{g:SE->FM}{ga:SE->R (List D)}{pos:Pos}
def mT(js:List Nat)(he:ED X EX e f):EM X EX e (gw js f):=PE.imp he λ σ H Q ⟨H0,G0,G,Δ,O,E,q⟩=>by
 obtain⟨G1,O1,sg,E1⟩:=E.aD js;unfold gw at q;refine⟨G1,At (aD js Δ),E1.st.gh,E1.dU, ?_⟩;cases e1:f (At (aD js Δ)) with
 |ok w=>simp only[e1]at q;exact WP.intro λv G' H' st r=>q v G' H' O1 (E1.grow st) (sg.trans st.gg) r
 |ex x=>simp only[e1]at q;exact q G1 H O1 E1 sg
 |no=>simp only[e1]at q;exact q.elim
def tm(js:List Nat)(he:EM X EX e g):EM X EX e (fD js g):=PE.imp he λ σ H Q ⟨H0,G0,G,Δ,O,E,q⟩=>by
 obtain⟨G1,O1,sg,E1⟩:=E.aD js;exact⟨H0,G0,G1,aD js Δ,O1,E1,mh.mono sg q⟩
def Gs(ha:ED X EX e f)(hr:AM X EX es ga)(hs:starEach (e::es) X.env=(false,eval e X.env)::starEach es X.env:=by rfl):AM X EX (e::es) (Fb f ga):=
 PA.imp (iS ha hr hs) λ σ H Q ⟨H0,G0,G,Δ,O,E,q⟩=>by
  unfold Fb at q;refine⟨G,At Δ,E.st.gh,E.dU, ?_⟩;cases e1:f (At Δ) with
  |ok w=>
   simp only[e1]at q;refine WP.intro λv G1 H1 st r=>⟨H0,G0,G1,Δ,O,E.grow st, ?_⟩;cases e2:ga Δ with
   |ok ds=>simp only[e2]at q;exact λvs G2 H2 E2 s2 r2=>q (v::vs) G2 H2 E2 (st.gg.trans s2) (.cons (r.mono s2) r2)
   |ex x=>simp only[e2]at q;exact λG2 H2 E2 s2=>q G2 H2 E2 (st.gg.trans s2)
   |no=>simp only[e2]at q
  |ex x=>simp only[e1]at q;exact q G H E (aB.refl _)
  |no=>simp only[e1]at q
def TL{fg:FG}{tg:Expr}(he:EM X EX e g)(hg:GD X EX tg fg)(hs:swapsWithSole [tg] e pos.line X.env=pure false:=by rfl)(hw:swappedStores [tg] e X.env=pure none:=by rfl)
  (h1:(assignEach [tg] X.env).map (·.2)= [assign tg X.env]:=by rfl):SD X EX (.Assign [tg] e pos) (nX fg g):=
 PS.imp (FJ he hg hs hw h1) λD σ H ⟨H0,G0,G,Δ,O,E,q⟩=>by
  refine⟨H0,G0,G,Δ,O,E, ?_⟩;unfold nX at q;cases e1:g Δ with
  |ok d Δ1=>
   simp only[e1]at q;intro v G1 H1 O1 E1 s1 r1;refine⟨H0,G0,G1,Δ1,O1,d,E1,r1, ?_⟩;cases e2:fg d Δ1 with
   |ok Δ2=>simp only[e2]at q;exact λ σ' G2 H2 O2 E2 s2=>q σ' G2 H2 O2 E2 (s1.trans s2)
   |ex x=>simp only[e2]at q;exact q.elim
   |no=>simp only[e2]at q;exact q.elim
  |ex x Δ1=>simp only[e1]at q;exact λG1 H1 O1 E1 s1=>q σ G1 H1 O1 E1 s1
  |no=>simp only[e1]at q;exact q.elim
def TK{elts:List Expr}{x1:Nat}{tp p p2:Pos}{a:Expr}{body:List Stmt}{fg:FG}{gb:FS}(hp:PassesOwn (model X.prog X.w) X.A X.env X.xe)(hc:X.calm=true)(hm:X.mg "enumerate" =none)(he:EM X EX a g)(hg:GD X EX (.Tuple elts x1 tp) fg)(hb:BD X EX body gb)
  (NQ:Gl X "enumerate" :=by rfl) (cA:starEach [a] X.env= [(false,eval a X.env)]:=by rfl) (jg:starEach [a] X.env=(false,eval a X.env)::starEach [] X.env:=by rfl) (hs:∀x,foldedSetIterable (.Call (.Name "enumerate" p) [a] [] p2) X.env x=pure x:=by intro _;rfl):
  SD X EX (.For (.Tuple elts x1 tp) (.Call (.Name "enumerate" p) [a] [] p2) body [] pos) (nW g fg gb):=
 PS.imp (rF hp hc (Hk NQ hm (iS he mB jg) cA) hg hb hs) λD σ H ⟨H0,G0,G,Δ,O,E,q⟩=>by
  refine⟨H0,G0,G,Δ,O,E, ?_⟩;unfold nW at q;cases e1:g Δ with
  |ok d Δ1=>
   simp only[e1]at q;intro v G1 H1 O1 E1 s1 r1;cases d with
   |lst ds=>
    cases r1 with
    |lst h r=>exact .inl ⟨_,rfl,⟨_,E1.st.gh.seq h⟩,uG E1 (Hj h r) (Fin.mono s1 q)⟩
   |str z=>
    cases r1;exact .inr ⟨z,rfl,uG E1 (Hi z) (Fin.mono s1 q)⟩
   |_=>exact q.elim
  |ex x Δ1=>simp only[e1]at q;exact λG1 H1 O1 E1 s1=>q σ G1 H1 O1 E1 s1
  |no=>simp only[e1]at q;exact q.elim
end
def nV{c:Bool}{P:Program}{w:World}{x qual:Str}{st:Stmt}{f:Addr}{N ps:List Str}{k n:Nat}{g:FS}(F:bC K x qual st f fd)(hn:ps.length=n + 1)(hle:ps.length<=N.length)
  (zh:MU c P w K mg base N qual st f k g) (S:aV N ps (Cc st):=by exact⟨rfl,rfl,rfl,by decide +kernel,rfl,by decide +kernel,by decide +kernel⟩):bI P w K mg base c (k + 1) f fd ps (kF K n (fM N.length g)):=
 Qi F S hn hle λzp A outer s H E hr=>zh rfl hr (aF.units hr) S.nd rC
def Qy{c:Bool}{P:Program}{w:World}{x qual cn:Str}{st:Stmt}{f C:Addr}{N ps:List Str}{k n:Nat}{g:FS}(F:bC K x qual st f fd)(hC:ClsAt K cn C)(hn:ps.length=n + 1)(hle:ps.length<=N.length)
  (zh:MU c P w K mg base N qual st f k g) (S:aV N ps (Cc st):=by exact⟨rfl,rfl,rfl,by decide +kernel,rfl,by decide +kernel,by decide +kernel⟩):bI P w K mg base c (k + 1) f fd ps (zX K C cn n (Fp N.length cn g)):=
 Qj F S hC hn hle λzp A outer s H E hr=>zh rfl hr (aF.units hr) S.nd rC
section
variable{P:Program}{w:World}{K:Frag}{mg:AB}{base:Heap}{cc:Bool}{k n:Nat}{ps:List Str}{st:Stmt}{Fn:Tn->List D->RR}{m q c:Str}{C:Addr}
def qV(xa:ClsAt K c C)(cl:gQ K C)(W:bG K C m q st)(ok:∀{f:Addr} {fd:FuncData},bC K m q st f fd->bI P w K mg base cc k f fd ps (kF K n Fn)/\Binds K fd ps []):cQ P w K mg base cc k n m c Fn:=by
 obtain⟨f,a,⟨fd,F⟩,kp,i⟩:=W;exact⟨⟨C,f,fd,ps,xa,cl,⟨a,i,kp⟩,(ok F).1,(ok F).2⟩⟩
def TJ{x:Str}{h:Heap}(X:K.In h)(G:h.Ns mainGlobals mg)(W:aL K x st)(ok:∀{f:Addr} {fd:FuncData},bC K x x st f fd->bI P w K mg base cc k f fd ps (kF K n Fn)/\Binds K fd ps []):pD P w K mg base cc x k n ps Fn:=by
 obtain⟨f,a,fd,F⟩:=W;exact Rq F (mg_of X G a) (ok F).2 (ok F).1
def Rp{Fi:List D->R (List Str×List Tn)}(xa:ClsAt K c C)(gx:mg c=some (.ref C))(ms:makesIn K C=true)(kc:keepIn K (.ref C)=true)(W:bG K C "__init__" q st)(ok:∀{f:Addr} {fd:FuncData},bC K "__init__" q st f fd->bI P w K mg base cc k f fd ps (zX K C c n Fi)/\Binds K fd ps []):sP P w K mg base cc c k n Fi:=by
 obtain⟨f,a,⟨fd,F⟩,kp,i⟩:=W;exact⟨C,f,fd,ps,xa,gx,⟨ms,a,i,kc⟩,(ok F).1,(ok F).2⟩
end
def TH{Δ:SE}{i:Nat}{s:Sl}{t t':Tn}{lk:Bool}(e:Δ[i]? =some s)(q:s.tree=some (t,lk)):At (Δ.set i (Sl.mk lk t'))=At Δ:=by
 unfold At;rw[List.map_set];apply S8;intro j
 by_cases h:i=j
 ·subst h;have dF:i < Δ.length:=(B5.mp e).1;rw[F7 (by rw[A3];exact dF),A9,e];cases lk <;> cases s <;> first|rfl|cases q
 ·rw[C4 h]
def kW(i:Nat)(f1 f2:FE):FS:=λ Δ=>match(Δ[i]?).bind Sl.tree with
 |some (.aE zk,lk)=>(match f1 (Be Δ) with
   | .ok z1=>(match Ea z1.d with
    |some k1=>if zk.length < 16777216 then(match Bc (ml zk k1) k1 with
     |some (.lst ts)=>if ts.length < 16777216 then(match f2 (At Δ) with
      | .ok z2=> .nx (Δ.set i (Sl.mk lk (.aE (Di (ml zk k1) k1 (.lst (ts ++ [.sh z2.d]))))))
      |_=> .no) else .no
     |_=> .no) else .no
    |none=> .no)
   |_=> .no)
 |_=> .no
section
variable{X:Cx}{EX:Ax}{pos:Pos}
def GO{H0:HB}{G0 G H:Hp}{σ:Sg}{Δ:SE}{O:OS}{D:Ends}{i:Nat}{s:Sl}{zk:List (Ae×Tn)}{lk:Bool}{k:Ae}{ts:List Tn}{f2:FE}{z2:W}(E:Ev K H0 G0 G H σ Δ O)(e1:Δ[i]? =some s)(cR:s.tree=some (.aE zk,lk))(ev:Bc zk k=some (.lst ts))(hz:ts.length < 16777216)(ef:f2 (At Δ)=.ok z2)
  (q:∀σ' G' H' O',Ev K H0 G0 G' H' σ' (Δ.set i (Sl.mk lk (.aE (Di zk k (.lst (ts ++ [.sh z2.d])))))) O'->aB G G'->D.nx σ' H'):
  ∃c a kvs,σ[i]? =some (some (.ref a))/\H a=some (.dK kvs)/\Co kvs k=some (.ref c)/\LI K "list" (.ref c) H/\tD K EX f2 σ H λy H2=>wL (.ref c) [y] H2 λ_ H3=>D.nx σ H3:=by
 obtain⟨v0,s1,t⟩:=E.ow i _ _ e1 (Sl.aZ cR);obtain⟨a,kvs,S1,rfl,m,hH,hk,sub,rl⟩:=t.pJ;obtain⟨vc,Sc,ec,tc,ic,fc⟩:=aR.fY k hk rl ev;cases tc with
 |lst hc mc aaD rc=>
  rename_i c vs S2;have BJ:c≠a:=(sub c (ic c mc)).2;refine⟨c,a,kvs,s1,hH,ec,.inl ⟨rfl,_,cF.of hc⟩,G,At Δ,E.st.gh,E.dU, ?_⟩;rw[ef];refine WP.intro λy G2 H2 aT r2=> ?_;have E2:=E.grow aT;have zj:vs.length < sizeLine:=by rw[rc.length,D9];exact hz
  refine⟨c,vs,y,rfl,rfl,aT.hh _ _ hc,zj, ?_⟩;refine q σ G2 _ _ (E2.dW e1 cR s1 (sub c (ic c mc)).1 ?_) aT.gg;obtain⟨vc',Sc',zy,tc',ic',fc'⟩:=aR.fY k hk (aR.mono aT.gg rl (λ_ _ _ z=>z) λ_ z=>z) ev;rw[ec]at zy;cases zy;cases tc' with
  |lst kO mc' uh rc'=>
   rename_i vs' S2';rw[hc]at kO;cases kO;refine Ow.aE (S1:=S1) (by rw[Ao (Ne.symm BJ)];exact aT.hh _ _ hH) (by rw[xI];exact hk) m sub ?_;refine fc' (λb o hb nb z=> ?_) ?_
   ·rw[Ao (show b≠c from λw=>nb (by rw[w];exact mc'))];exact aT.hh _ _ z
   ·refine Ow.lst (S1:=S2') Bf mc' uh (aR.append (S2:=λ_=>False) (rc'.mono (aB.refl _) (λb o hb z=> ?_) λ_ z=>z) (.cons (S1:=λ_=>False) (S2:=λ_=>False) (.sh r2) .nil (λ_ z=>z.elim) (λ_ z=>z) λ_ z=>z) (λ_ _ z=>z) (λ_ z=>z) λ_ z=>z.elim);rw[Ao (uh b hb).2];exact aT.hh _ _ z
def EF{i:Nat}{x:Str}{e1 e2:Expr}{f1 f2:FE}{p1 lp a1 c1 zf zd:Pos}(h1:ED X EX e1 f1)(h2:ED X EX e2 f2)(hN:X.N[i]? =some x:=by rfl)(hv:Fm X.env.scope x:=by trivial)(hd:AG x:=by decide)
  (bO:(x ==("__classdict__" :Str))=false:=by decide) (hm:M2 X (.Name x p1) "setdefault" a1 e1 (.List [] lp) c1:=by exact⟨rfl,rfl,rfl,rfl⟩)
  (uM:swapsWith (.Call (.Attribute (.Call (.Attribute (.Name x p1) "setdefault" a1) [e1,.List [] lp] [] c1) "append" zf) [e2] [] zd) none pos.line X.env=pure false:=by rfl)
  (af:attributeBase (.Call (.Attribute (.Name x p1) "setdefault" a1) [e1,.List [] lp] [] c1) "append" X.env (eval (.Call (.Attribute (.Name x p1) "setdefault" a1) [e1,.List [] lp] [] c1) X.env)=eval (.Call (.Attribute (.Name x p1) "setdefault" a1) [e1,.List [] lp] [] c1) X.env:=by rfl)
  (az:((backTo zd (starEach [e2] X.env)).all (λx=> !x.1) && (backToKw zd (keywordEach [] X.env)).all (λx=>x.1.isSome)
   && decide ([e2].length + ([]:List Keyword).length + (if([]:List Keyword).isEmpty then 0 else 1) < 30))=true:=by rfl)
  (ae:(zf.endLine ==zd.line)=true:=by rfl) (hs:starEach [e2] X.env=(false,eval e2 X.env)::starEach [] X.env:=by rfl) (ag:(backTo zd (starEach [] X.env)).any (·.1)=false:=by rfl):
  SD X EX (.Expr (.Call (.Attribute (.Call (.Attribute (.Name x p1) "setdefault" a1) [e1,.List [] lp] [] c1) "append" zf) [e2] [] zd) pos) (kW i f1 f2):=
 PS.imp (md (rh V3 ZA0 ZA1 xO (TY (Fd hN hv hd bO) h1 (vX mB) hm) (iS h2 mB hs) af az ae hs ag) uM) λD σ H ⟨H0,G0,G,Δ,O,E,q⟩=>by
  unfold kW at q
  split at q
  ·rename_i zk lk e0;obtain⟨s,e1,cR⟩:=J9.mp e0;obtain⟨v0,s1,t⟩:=E.ow i _ _ e1 (Sl.aZ cR);obtain⟨a,kvs,S1,rfl,m,hH,hk,sub,rl⟩:=t.pJ;refine⟨.ref a,s1,a,rfl,.inl ⟨kvs,.inl hH⟩,Cy G H O,Be Δ,E.aH,E.eJ, ?_⟩;cases e3:f1 (Be Δ) with
   |ex x=>simp only[e3]at q;exact q.elim
   |no=>simp only[e3]at q;exact q.elim
   |ok z1=>
    simp only[e3]at q;refine WP.intro λv1 G1 H1 bM r1=> ?_
    split at q
    ·rename_i k1 ek1
     split at q
     ·rename_i hl
      split at q
      ·rename_i ts ev
       split at q
       ·rename_i hz;cases e4:f2 (At Δ) with
        |ex x=>simp only[e4]at q;exact q.elim
        |no=>simp only[e4]at q;exact q.elim
        |ok z2=>
         simp only[e4]at q
         ·have NH:=mP r1 ek1;subst NH;refine⟨K5 _,λp hp=> ?_⟩;have E3:=E.keep bM.hh;have E5:=E3.keep (jV hp (.lst []));have hle:kvs.length=zk.length:=by
           have:=K4 List.length hk
           rwa[A3,A3]at this
          have hH5:upd H1 p (.lst []) a=some (.dK kvs):=jV hp _ _ _ (bM.hh _ _ hH);refine⟨kvs,k1,hH5,rfl,by rw[hle,D9];exact hl,λv hv=> ?_,λhn=> ?_⟩
          ·have hA:ml zk k1=zk:=by
            unfold ml;cases hA:Bc zk k1 with
            |some t=>rfl
            |none=>rw[Ib hk hA]at hv;cases hv
           rw[hA]at ev q;obtain⟨c,a',bg,gI,uR,ec,ty,td⟩:=GO (D:=D) (EX:=EX) E5 e1 cR ev hz e4 q;rw[s1]at gI;cases gI;rw[hH5]at uR;cases uR;rw[hv]at ec;cases ec;exact⟨ty,td⟩
          ·have hA:Bc zk k1=none:=by
            cases hA:Bc zk k1 with
            |none=>rfl
            |some t=>
             obtain⟨v',_,ev',_⟩:=aR.fY k1 hk rl hA;rw[hn]at ev';cases ev'
           have hK:ml zk k1=zk ++ [(k1,.lst [])]:=by unfold ml;rw[hA]
           rw[hK]at ev q;have npO:∀j b,O j b->b≠p:=λj b hb z=>by
            have h0:=(E.out j b hb).2.2;cases e:H b with
            |none=>exact h0 e
            |some o=>rw[z]at e;rw[bM.hh _ _ e]at hp;cases hp
           have yY:a≠p:=npO i a m;have fj:(kvs.any λkv=>decide (kv.1=k1))=false:=by
            rw[pq,hn];rfl
           have cv:El kvs k1 (.ref p)=kvs ++ [(k1,.ref p)]:=by
            rw[Hc];unfold Df;rw[fj];rfl
           rw[cv];have Gp:G p=none:=E3.st.gh.free hp;have old:∀b o,H1 b=some o->upd H1 p (.lst []) b=some o:=λb o z=>jV hp _ b o z;have hp1:upd H1 p (.lst []) p=some (.lst []):=Bf;have ms:bX (O i) G H1 G (upd (upd H1 p (.lst [])) a (.dK (kvs ++ [(k1,.ref p)]))):=⟨λb o nb z=>by rw[Ao (λw=>nb (by rw[w];exact m))];exact old b o z,λb o z=>by
            have:b≠a:=λw=>by rw[w,(E.out i a m).1]at z;cases z
            rw[Ao this];exact old b o (E3.st.gh b o z),aB.refl _,λb _ z _=>z⟩
           have E6:Ev X.K H0 G0 G (upd (upd H1 p (.lst [])) a (.dK (kvs ++ [(k1,.ref p)]))) σ (Δ.set i (Sl.mk lk (.aE (zk ++ [(k1,.lst [])])))) (Cq O i λb=>O i b\/b=p):=by
            refine E3.dN (S:=λb=>O i b\/b=p) (Sl.dI lk _) (Sl.eR lk _) (E3.eQ e1 cR _) ms s1 (λb hb=> ?_) ?_
            ·rcases hb with hb|hb
             ·refine⟨.inl hb,(E3.out i b hb).1, ?_⟩
              by_cases w:b=a
              ·rw[w,Bf];simp
              ·rw[Ao w];cases e:H1 b with
               |none=>exact absurd e (E3.out i b hb).2.2
               |some o=>rw[old b o e];simp
             ·subst hb;exact⟨.inr hp,Gp,by rw[Ao (Ne.symm yY),hp1];simp⟩
            ·refine Ow.aE (S1:=λb=>S1 b\/b=p) Bf (by rw[F4,F4,hk];rfl) (.inl m) (λb hb=> ?_) ?_
             ·rcases hb with hb|hb
              ·exact⟨.inl (sub b hb).1,(sub b hb).2⟩
              ·subst hb;exact⟨.inr rfl,Ne.symm yY⟩
             ·rw[F4,F4];refine aR.append (S2:=λb=>b=p) (rl.mono (aB.refl _) (λb o hb z=> ?_) λ_ z=>z) (.cons (S1:=λb=>b=p) (S2:=λ_=>False) (.lst (S1:=λ_=>False) (by rw[Ao (Ne.symm yY)];exact hp1) rfl (λ_ z=>z.elim) .nil) .nil (λ_ _ z=>z) (λ_ z=>z) λ_ z=>z.elim) (λb z1 z2=>npO i b (sub b z1).1 z2) (λb z=> .inl z) λb z=> .inr z;rw[Ao (sub b hb).2];exact old _ _ (bM.hh _ _ z)
           have dF:i < Δ.length:=(B5.mp e1).1;obtain⟨c,a',bg,gI,uR,ec,ty,td⟩:=GO (D:=D) (EX:=EX) (lk:=lk) E6 (s:=Sl.mk lk (.aE (zk ++ [(k1,.lst [])]))) (by rw[F7 dF]) (by cases lk <;> rfl) ev hz (by rw[TH e1 cR];exact e4) (λ σ' G' H' O' E' sg=>q σ' G' H' O' (by rw[List.set_set]at E';exact E') sg);rw[s1]at gI;cases gI;rw[Bf]at uR;cases uR;rw[<-cv,Wl,if_pos rfl]at ec;cases ec;exact⟨ty,td⟩
       ·exact q.elim
      ·exact q.elim
     ·exact q.elim
    ·exact q.elim
  ·exact q.elim
end
def nU(a b:D):R W:=match a,b with
 | .aE ka,.aE []=> .ok (.sh (.bl (!ka.isEmpty)))
 |_,_=> .no
def vz(fk fv:FE):FE:=λ δ=>(fk δ).bind λk=>match Ea k.d with
 |some kk=>(fv δ).bind λv=> .ok (.ow (.aE [(kk,v.d)]))
 |none=> .no
def nR(i j:Nat)(f:FE):FS:=λ Δ=>match Δ[j]? with
 |some (.ow (.lst es))=>(match f (Be Δ) with
  | .ok z=>(match z.d with
   | .int k=>if 0<=k/\k < (es.length:Int)/\es.length<=16777216 then(match es[k.toNat]? with
    |some d=> .nx ((Δ.set j (.ow (.lst (es.eraseIdx k.toNat)))).set i (.sh d))
    |none=> .no) else .no
   |_=> .no)
  |_=> .no)
 |_=> .no
def MB(f:FE):FE:=λ δ=>(f δ).bind λw=>match w.d with
 | .aE aA=> .ok (.ow (.lst (aA.map λp=>kD p.1)))
 |_=> .no
section
variable{X:Cx}{EX:Ax}{pos:Pos}
def VI(hu:X.A.units + 64 < cLine):Ee X (compareOp .NotEq) nU:=by
 intro zc s σ H x y v u Q I rx ry h;obtain⟨EX,G,a,b,g,ha,hb,o⟩:=h;cases ha with
 |aE h1 Mn r1=>
  rename_i a1 aaE qN;cases hb with
  |aE h2 hk2 r2=>
   rename_i a2 PN PQ;cases PQ with
   |cons _ _=>exact False.elim o
   |nil=>
    cases rx;cases ry;obtain⟨z1,lo1,Nc,kv1,dd1⟩:=iZ I.aJ (aB.jb g h1);obtain⟨z2,lo2,ws2,kv2,MD⟩:=iZ I.aJ (aB.jb g h2);have e2:PN= []:=List.map_eq_nil_iff.mp hk2;subst e2;cases kv2;have hl:Nc.length=qN.length:=by
     rw[<-kv1.length];have:=K4 List.length Mn
     rwa[A3,A3]at this
    refine keq_ne (r:=true) lo1 lo2 dd1 MD () (λe=> ?_) ?_
    ·have:Nc= []:=X4 e;subst this;exact .nil
    ·have e3:(!(Nc.length ==([]:List (Ae×Value)).length && true))= !qN.isEmpty:=by
      cases qN with
      |nil=>rw[K2]at hl;rw[hl];rfl
      |cons p r=>rw[B4]at hl;rw[hl];simp
     rw[e3];exact⟨.bl _,H,I,rfl,(show WP X.K G H (.sh (.bl (!qN.isEmpty))) Q from o).use g (.bl _)⟩
  |_=>exact False.elim o
 |_=>exact False.elim o
def TC{e1 e2:Expr}{fk fv:FE}(hk:ED X EX e1 fk)(hv:ED X EX e2 fv):ED X EX (.Dict [some e1] [e2] pos) (vz fk fv):=
 PE.imp (Ux (Wi hk hv Uy) rfl rfl (by simp) (Nat.le_of_ble_eq_true rfl)) λ σ H Q ⟨G,δ,g0,s0,o⟩ p hp=>by
  have so:=Step.own g0 hp (.dK []);unfold vz at o;refine⟨G,δ,so.gh,s0, ?_⟩;cases ek:fk δ with
  |ex x=>rw[ek]at o;exact(EX σ).mono _ _ _ _ _ so o
  |no=>rw[ek]at o;exact o
  |ok wk=>
   rw[ek]at o;simp only[R.aI]at o;refine WP.intro λv1 G1 H1 bM r1=>⟨G1,δ,bM.gh,s0.mono bM.gg, ?_⟩;cases Oe:Ea wk.d with
   |none=>rw[Oe]at o;exact False.elim o
   |some kk=>
    rw[Oe]at o;simp only at o;have NH:=mP r1 Oe;subst NH;cases ev:fv δ with
    |ex x=>rw[ev]at o;exact(EX σ).mono _ _ _ _ _ (so.trans bM) o
    |no=>rw[ev]at o;exact o
    |ok wv=>
     rw[ev]at o;simp only[R.aI]at o;refine WP.intro λv2 G2 H2 aT r2=> ?_;have st:=(so.trans bM).trans aT;have qw:H2 p=some (.dK []):=aT.hh _ _ (bM.hh _ _ Bf);have gp:G p=none:=g0.free hp;have gp2:G2 p=none:=aT.nw p (bM.nw p gp (by rw[Bf];simp)) (by rw[bM.hh _ _ Bf];simp);refine⟨qw,[(kk,v2)],rfl,Nat.le_of_ble_eq_true rfl, ?_⟩;refine(show WP X.K G H (.ow (.aE [(kk,wv.d)])) Q from o) (.ref p) (λb=>b=p) G2 _ ⟨λb o' z=> ?_,λb o' z=> ?_,st.gg,st.nw⟩ (λa ha=> ?_) ?_
     ·rw[Ao (Ep z hp)];exact st.hh b o' z
     ·rw[Ao (Ep z gp2)];exact st.gh b o' z
     ·subst ha;exact⟨hp,gp2,by rw[Bf];simp⟩
     ·exact Ow.dict Bf rfl rfl (.cons r2 .nil)
def TB{i j:Nat}{x y:Str}{e:Expr}{f:FE}{p1 p2 zf zd:Pos}(he:ED X EX e f)(hN:X.N.Nodup)(hi:X.N[i]? =some x:=by rfl)(hx:Ga X.env.scope x:=by trivial)(hj:X.N[j]? =some y:=by rfl)(hv:Fm X.env.scope y:=by trivial)(hd:AG y:=by decide)
  (bO:(y ==("__classdict__" :Str))=false:=by decide) (hs:swapsWith (.Call (.Attribute (.Name y p1) "pop" zf) [e] [] zd) (some (.Name x p2)) pos.line X.env=pure false:=by rfl)
  (hf:X.fn x=true\/X.env.scope.names.lookup x=some .local:=by trivial)
  (BM:attributeBase (.Name y p1) "pop" X.env (eval (.Name y p1) X.env)=eval (.Name y p1) X.env:=by rfl)
  (BA:((backTo zd (starEach [e] X.env)).all (λx=> !x.1) && (backToKw zd (keywordEach [] X.env)).all (λx=>x.1.isSome)
   && decide ([e].length + ([]:List Keyword).length + (if([]:List Keyword).isEmpty then 0 else 1) < 30))=true:=by rfl)
  (hl2:(zf.endLine ==zd.line)=true:=by rfl) (eN:starEach [e] X.env=(false,eval e X.env)::starEach [] X.env:=by rfl) (qw:(backTo zd (starEach [] X.env)).any (·.1)=false:=by rfl):
  SD X EX (.Assign [.Name x p2] (.Call (.Attribute (.Name y p1) "pop" zf) [e] [] zd) pos) (nR i j f):=
 PS.imp (wb hN hi hx (rh V3 PySem.F.slot_list_pop PySem.F.type_list_pop Wr (Fd hj hv hd bO) (iS he mB eN) BM BA hl2 eN qw) hs hf) λD σ H ⟨H0,G0,G,Δ,O,E,q⟩=>by
  unfold nR at q
  split at q
  ·rename_i es e2;obtain⟨v1,s2,t2⟩:=E.ow j _ _ e2 rfl;obtain⟨b,us,rfl,m2,hB,rb⟩:=t2.ku;refine⟨.ref b,s2,.inl ⟨rfl,_,cF.of hB⟩,Cy G H O,Be Δ,E.aH,E.eJ, ?_⟩;cases e3:f (Be Δ) with
   |ex x=>simp only[e3]at q;exact q.elim
   |no=>simp only[e3]at q;exact q.elim
   |ok z=>
    simp only[e3]at q;refine WP.intro λv2 G2 H2 aT r2=> ?_;revert q r2;cases z.d with
    |int k=>
     intro q r2;cases r2;simp only at q
     split at q
     ·rename_i hk;cases e4:es[k.toNat]? with
      |none=>simp only[e4]at q;exact q.elim
      |some d=>
       simp only[e4]at q;obtain⟨v,e5,hv5⟩:=rb.get e4;have sz:seqIndex? k us.length=some k.toNat:=by
        rw[rb.length];unfold seqIndex?;simp only;have hn:¬k < 0:=by lia
        rw[if_neg hn,if_pos (by simp[hk.1,hk.2.1])]
       refine⟨b,us,k,k.toNat,v,rfl,rfl,aT.hh _ _ hB,by lia,by lia,sz,e5, ?_⟩;exact q _ G _ _ (((E.keep aT.hh).pG s2 m2 (rb.eraseIdx k.toNat)).put hv5) (aB.refl _)
     ·exact q.elim
    |_=>intro q _;exact False.elim q
  ·exact q.elim
def DI(to:TE):TE:=λ σ H Q=>to σ H λx H1=>∃a kvs,x=.ref a/\Rd H1 a (.dK kvs)/\∀p,H1 p=none->Q (.ref p) (upd H1 p (.ext λh=>KdlKeysView h p a))
def Tz{o:Expr}{to:TE}{zf zd:Pos}(ho:PE X o to)(af:attributeBase o "keys" X.env (eval o X.env)=eval o X.env:=by rfl)(ae:(zf.endLine ==zd.line)=true:=by rfl):PE X (.Call (.Attribute o "keys" zf) [] [] zd) (DI to):=by
 intro zc s σ H Q I h;refine ZB3 af ae (Ay (ho zc s σ H _ I h) λv s1 ⟨x,H1,I1,r1,a,kvs,ex,rd,q⟩=> ?_);subst ex;obtain rfl:v=Value.ref a:=r1;obtain⟨z,lo,ws,kv,dd⟩:=iZ I1.aJ rd;refine⟨"dict","dict.keys",P3,ZC3,PySem.F.type_dict_keys,dd.typeIs,dd.mapOf.noDict,N9 rfl (PySem.evalArgs_none ?_)⟩;refine V4 ZC3 dd.typeIs PySem.F.entry_dict_keys (PySem.F.args_dict_keys_1 _) (kdl_meets_keys (Ec X.prog X.w) a lo) ⟨⟨ws,dd⟩, ?_⟩;have hf:H1 s1.heap.objs.size=none:=I1.aJ.fresh (B6 _);refine⟨.ref s1.heap.objs.size,_,I1.laid (t':=s1.toks) (λb u e=>A4 _ e) (B6 _) ?_,rfl,q _ hf⟩;have hv:KdlKeysView (s1.heap.push {cls:=.type "dict_keys",data:=.fields #[.ref a]}) s1.heap.objs.size a:=⟨_,C1 _ rfl,rfl,rfl⟩;exact⟨hv,⟨_,C1 _ rfl⟩,λh1 h2 ⟨o,e1,e2⟩ k=>⟨o,k o e1,e2⟩⟩
def VH{o:Expr}{f:FE}{p zf zd:Pos}(hc:X.calm=true)(hm:X.mg "list" =none)(he:ED X EX o f)(hg:Gl X "list" :=by rfl)(af:attributeBase o "keys" X.env (eval o X.env)=eval o X.env:=by rfl)(ae:(zf.endLine ==zd.line)=true:=by rfl)
  (hs:starEach [.Call (.Attribute o "keys" zf) [] [] zd] X.env= [(false,eval (.Call (.Attribute o "keys" zf) [] [] zd) X.env)]:=by rfl) (jg:starEach [.Call (.Attribute o "keys" zf) [] [] zd] X.env=(false,eval (.Call (.Attribute o "keys" zf) [] [] zd) X.env)::starEach [] X.env:=by rfl):
  ED X EX (.Call (.Name "list" p) [.Call (.Attribute o "keys" zf) [] [] zd] [] pos) (MB f):=by
 intro zc s σ H Q I h;obtain⟨G,δ,g0,s0,h⟩:=h;have ta:vJ (DI (tD X.K EX f)) qL σ H λvs H2=>∃(G1 H1:Hp) (a:Addr) (kvs:List (Ae×V)) (aA:List (Ae×D)) (pv:Addr),vs= [.ref pv]/\H1 pv=none/\H2=upd H1 pv (.ext λh=>KdlKeysView h pv a)/\aB G1 H1/\Rd G1 a (.dK kvs)/\kvs.map (·.1)=aA.map (·.1)/\WP X.K G1 H1 (.ow (.lst (aA.map λp:Ae×D=>kD p.1))) Q:=by
  refine tD.seq g0 s0 h λw v G1 H1 _ st r o'=> ?_;revert o' r;cases w.d with
  |aE aA=>
   intro r o';cases r with
   |aE hr hk rr=>exact⟨_,_,rfl,aB.jb st.gh hr,λpv hp=>⟨G1,H1,_,_,aA,pv,rfl,hp,rfl,st.gh,hr,hk,o'⟩⟩
  |_=>intro _ o';exact False.elim o'
 refine Call_ (fU I hg hm R6 (N4 (Ay ((iS (Tz he af ae) mB jg) pos zc s σ H _ I ta) λus s1 ⟨vs,H2,I2,r1,G1,H1,a,kvs,aA,pv,ev,hp,eH,g1,rd,hk,q⟩=> ?_) hs rfl));subst ev;obtain⟨u,rfl,ru⟩:=r1.one;cases ru;have hv:H2 pv=some (.ext λh=>KdlKeysView h pv a):=by rw[eH,Bf]
 have g2:aB H1 H2:=by rw[eH];exact jV hp _
 obtain⟨vw,_,_⟩:=I2.aJ pv _ hv;obtain⟨z,lo,ws,kv,dd⟩:=iZ I2.aJ (aB.jb (g1.trans g2) rd);obtain⟨ep,da⟩:=dd.dictAt;refine kdl_call (kdl_keys (r:=pv) (d:=a)) (I2.ok.hd hc) ⟨vw,da⟩ (by rw[<-kv.length];exact z) λh' tk zm c kk kP it=> ?_;have eW:Vals ((kvs.map (·.1)).map kV) zm.toList:=xH kv (by rw[O7];exact it.1) λj v e=>it.2 j v (by rw[<-S5];exact e);have fr:H2 s1.heap.objs.size=none:=I2.aJ.fresh (B6 _);refine⟨.ref _,upd H2 _ (.lst _),I2.laid (t':=tk) kk (B6 _) ⟨?_,zm.toList,c,eW,by simpa using kP⟩,rfl, ?_⟩
 ·rw[A3,A3];exact z
 ·have e:(aA.map λp=>kD p.1)=(kvs.map (·.1)).map kD:=by rw[hk,J7];rfl
  rw[e]at q;have st:Step G1 H1 G1 H2:=⟨g2,g1.trans g2,aB.refl _,λ_ n _=>n⟩;exact sZ (EX:=MV) (show Out X.K MV G1 H2 (.ok (.ow (.lst ((kvs.map (·.1)).map kD)))) Q from WP.mono st q) (g1.trans g2) (Hb _) _ fr
end
end L3
namespace PySem.W
open PySem PySem.Calls PyProof.Rows PySem.Spec
section
variable{prog:Program}{w:World}{A:Around}{E:AA}{s:Shared}{T:String}{r d:Addr}{n:Nat}{P:Nat->Value->Prop}{OK:Heap->Prop}
def iF{Q:List Value->Shared->Prop}(K:KdlSrc prog w T r d n P OK)(hh:A.handled=none)(aJ:OK s.heap)(hn:n<=sizeLine)
  (hQ:∀h' tk zm,(∀b o,s.heap.get? b=some o->h'.get? b=some o)->s.heap.objs.size<=h'.objs.size->ItemsOf P zm n->Q zm.toList {s with heap:=h',toks:=tk}):wpAny (model prog w) A (collect (.ref r)) Q E s:=by
 have dF:=K.there _ aJ;unfold collect;refine A5 (wpAny_runValue (codeAny_builtin PySem.F.entry_proto_collect ?_));rw[Around.under_plainId PySem.F.plain_proto_collect _];show wpAny _ A.in1 (newList [] >>=λl=>again (.builtin "list.__iadd__" ⟨[l,.ref r],[]⟩)) _ _ s;refine A5 (Z6 ?_);refine F0 ⟨plainId_quiet ZB4 _,codeAny_builtin PySem.F.entry_list_iadd ?_⟩;rw[Around.under_plainId ZB4 _];have hS₁:(s.heap.push {cls:=.type "list",data:=.seq ([]:List Value).toArray}).get? s.heap.objs.size=some {cls:=.type "list",data:=.seq #[] 0}:=C1 _ rfl;show wpAny _ A.in1 (Builtin.List.listExtendWith (.ref s.heap.objs.size) (.ref r) (.ref s.heap.objs.size)) _ _ _;have fin:∀{rr:Result} {s':Shared},(∃h' tk au c',rr=.ok (.ret (.ref s.heap.objs.size))/\s'={s with heap:=h',toks:=tk}/\(∀b o,b≠s.heap.objs.size->(s.heap.push {cls:=.type "list",data:=.seq ([]:List Value).toArray}).get? b=some o->h'.get? b=some o)/\h'.get? s.heap.objs.size=some {cls:=.type "list",dict:=none,data:=.seq au c',slots:= #[]}/\ItemsOf P au n)->
   rr=.ok (.ret (.ref s.heap.objs.size))/\wpAny (model prog w) A (load s.heap.objs.size >>=λo=>match o.data with| .seq xs _=>pure xs.toList|_=>unsupported "internal:collect") Q E s':=by
  rintro rr s' ⟨h',tk,au,c',rfl,rfl,hk,Mr,cf⟩
  refine⟨rfl,A5 (wpAny_load Mr ?_)⟩;exact F0 (hQ h' tk au (λb o e=>hk b o (D8 (A6 e)) (A4 _ e)) (Q2 (A6 Mr)) cf)
 refine F5 (kdl_extend (R:=λrr s'=>∃h' tk au c',rr=.ok (.ret (.ref s.heap.objs.size))/\s'={s with heap:=h',toks:=tk}/\(∀b o,b≠s.heap.objs.size->(s.heap.push {cls:=.type "list",data:=.seq ([]:List Value).toArray}).get? b=some o->h'.get? b=some o)/\h'.get? s.heap.objs.size=some {cls:=.type "list",dict:=none,data:=.seq au c',slots:= #[]}/\ItemsOf P au n)
  (s:={s with heap:=s.heap.push {cls:=.type "list",data:=.seq ([]:List Value).toArray}}) K hh (K.keep _ _ aJ λb _ o e=>A4 _ e) s.heap.objs.size (Y3 dF.1) (Y3 dF.2) (.ref s.heap.objs.size) 0 hS₁ (λh' tk au c' hk Mr cf=>⟨h',tk,au,c',rfl,rfl,hk,Mr,cf⟩) hn) (λf s' hf=> ?_) λe s' hf=> ?_
 ·cases f with
  |done f=>
   obtain⟨e,q⟩:=fin hf;cases e;exact q
  |again c'=>
   refine⟨hf.1,R1 hf.2 λrr qk h=> ?_⟩;obtain⟨e,q⟩:=fin h;cases e;exact q
 ·obtain⟨e,_⟩:=fin hf;cases e
end
section
variable{prog:Program}{w:World}{A:Around}{E:AA}{s:Shared}{a kS:Addr}{vs:List Value}{kz:List Int}{e1:Nat}{P:PySem.Fin->Shared->Prop}
def mj{f:Value}(J:Nat->Array Value->Shared->Prop)(j0:J 0 #[] s)(zj:kz.length=vs.length)(mJ:vs.length < 64)
  (turn:∀(i:Nat) (v:Value) (k:Int) (kA:Array Value) (s':Shared),vs[i]? =some v->kz[i]? =some k->J i kA s'->
   wpAny (model prog w) A (call f [v]) (λu qk=>∃t e,u=.int k t/\qk.heap.get? kS=some (seqObj "list" kA e)/\J (i + 1) (kA.push u) {qk with heap:=qk.heap.update kS (Obj.mapSeq (·.push u))}) (λ_ _=>False) s')
  (at_:∀i kA s',J i kA s'->∃e,s'.heap.get? kS=some (seqObj "list" kA e))
  (h:∀kA s',J vs.length kA s'->IntsAre kA.toList kz->wpAny (model prog w) A (ksk_end a false vs.toArray e1 (.ref kS) kA) P E s'):
  wpAny (model prog w) A (ksk_rest a f false vs.toArray e1 (.ref kS)) P E s:=by
 unfold ksk_rest;refine A5 (wpAny_rule ?_)
 first
  |rw[List.forIn_toArray]
  |(rw[<-Array.forIn_toList];simp only[List.toList_toArray])
  |rw[<-Array.forIn_toList]
 refine A5 (ksk_fold (λi s'=>∃kA,J i kA s'/\IntsAre kA.toList (kz.take i)) vs 0 s ⟨#[],j0,by simpa using IntsAre.nil⟩ ?step ?done)
 case step=>
  rintro j x s' hx ⟨kA,hJ,hk⟩
  simp only[P6]at hk hJ⊢;have hj:j < vs.length:=(B5.mp hx).1;obtain⟨k,hkj⟩:∃k,kz[j]? =some k:=⟨_,A8 ()⟩;have hz:kA.size<=vs.length:=by
   have h1:=hk.length;rw[O7,W6]at h1;lia
  refine A5 (wpAny_attempt (F5 (turn j x k kA s' hx hkj hJ) (λv qk he=> ?_) λ_ _ hF=>hF.elim));obtain⟨t2,e2,rfl,kP,hJ2⟩:=he
  try dsimp only
  have ek:kz.take (j + 1)=kz.take j ++ [k]:=by rw[V7,hkj];simp
  have ea:(kA.push (Value.int k t2)).toList=kA.toList ++ [Value.int k t2]:=by simp
  refine A5 (X3 kP rfl ?_ (by rw[D9];lia) (D4 (T8 (Array.size_push ..)) (by rw[D9];lia)));exact F0 ⟨rfl,kA.push (.int k t2),hJ2,by rw[ea,ek];exact ksk_snoc hk⟩
 case done=>
  rintro s' ⟨kA,hJ,hk⟩
  rw[P6]at hJ;have mI:IntsAre kA.toList kz:=by
   have e3:kz.take (0 + vs.length)=kz:=List.take_of_length_le ();rw[e3]at hk;exact hk
  obtain⟨e,kP⟩:=at_ _ _ _ hJ
  try dsimp only
  refine A5 (OD kP rfl ?_);exact h kA s' hJ mI
end
end PySem.W
namespace L3
open PySem PySem.Spec PyProof.Rows L2
variable{K:Frag}{fd:FuncData}{mg:AB}{us:List Value}{base:Heap}{H:Hp}{X:Cx}{pos:Pos}{v:V}
def fQ(F:AF):List D->R (List (Int×D))
 | []=> .ok []
 |d::ds=>(F [d]).bind λw=>match w.d with
  | .int n=>(fQ F ds).bind λr=> .ok ((n,d)::r)
  |_=> .no
noncomputable def Gi(p:Int×D):List (Int×D)->List (Int×D)
 | []=> [p]
 |q::r=>if p.1<=q.1 then p::q::r else q::Gi p r
def kC:List (Int×D)->List (Int×D)
 | []=> []
 |p::r=>Gi p (kC r)
def ju(F:AF)(ds:List D):R W:=match fQ F ds with
 | .ok ps=>if ps.length < 64/\(ps.map (·.1)).Nodup then .ok (.ow (.lst ((kC ps).map (·.2)))) else .no
 |_=> .no
def oB(F:AF)(f:FE):FE:=λ δ=>(f δ).bind λw=>match w.d with
 | .aE aA=>ju F (aA.map λp=>kD p.1)
 |_=> .no
section
variable{X:Cx}{zc:AE}{σ:Sg}{H:Hp}{s:Shared}
def Tx{A:Around}{F:AF}{k:Nat}{f:Addr}{ps:List Str}{u:Value}{d:D}{n:Int}{w:W}(ok:bI X.prog X.w X.K X.mg X.base true k f fd ps (Bo X.K 1 F))(hb:Binds X.K fd ps [])(I:Inv X zc σ H s)(hA:A.frames=X.A.frames)(hr:aF true k A)
  (rv:RelV v u) (hv:∀G,aM X.K G v d) (e:F [d]=.ok w) (ew:w.d=.int n):wpAny (model X.prog X.w) A (call (.ref f) [u]) (λz s'=>∃t H',z=.int n t/\aB H H'/\Inv X zc σ H' s') (λ_ _=>False) s:=by
 have e0:dG X.prog X.w X.K X.mg X.base A X.stack s H:=⟨hA.trans I.ok.frames,I.ok.mod,I.bs,D4 I.ok.iU I.sz,I.stack,I.dX,I.aJ,I.bare⟩;have sp:Bo X.K 1 F [v] H (λv' H'=>v'=.int n/\aB H H') λ_ _ _=>False:=⟨rfl,λ_=>none,[d],(λ_ _ z=>nomatch z),.cons (hv _) .nil,by
  rw[e];refine WP.intro λv' G' H' st r=> ?_;rw[ew]at r;cases r;exact⟨rfl,st.hh⟩⟩
 have hl:([u]:List Value).length=ps.length:=by
  have:=ok.len _ _ _ _ sp;simpa using this
 have cO:=hb s [u] I.cN (by rw[E4];exact hl);rw[E4]at cO;refine W8 (R1 (ok.run A X.stack s H ⟨[u],[]⟩ [u] [v] _ _ hr e0 cO (.cons rv .nil) sp) λr s' hq=> ?_);cases r with
 |error e=>
  obtain⟨_,_,_,_,_,_,_,_,_,_,_,_,_,_,_,z⟩:=hq;exact z
 |ok fl=>
  cases fl with
  |ret z=>
   obtain⟨v',H',I',eW,rfl,sm⟩:=I.after hq;obtain⟨t,rfl⟩:=eW;exact⟨t,H',rfl,sm,I'⟩
  |next=>exact False.elim hq
  |brk=>exact False.elim hq
  |cont=>exact False.elim hq
end
def Ro{h:Heap}{a:Addr}{m m':AB}(x:h.Ns a m)(y:h.Ns a m'):m=m':=by
 obtain⟨o,es,ep,ho,hd,_,e⟩:=x;obtain⟨o',BV,BW,dJ,fF,_,e'⟩:=y;rw[ho]at dJ;cases dJ;rw[hd]at fF;cases fF
 funext z
 rw[<-e z,<-e' z]
section
variable{X:Cx}{zc:AE}{σ:Sg}{H:Hp}{s:Shared}
noncomputable def oA(h:Heap)(L b c:Addr):AE:=(List.range h.objs.size).filterMap λi=>if i=L\/i=b\/i=c then none else(h.get? i).map λo=>(i,o)
def Xb{h:Heap}{L b c i:Addr}{o:Obj}(e:h.get? i=some o)(n:¬(i=L\/i=b\/i=c)):(i,o)∈oA h L b c:=by
 unfold oA;refine V0.mpr ⟨i,N5.mpr (A6 e), ?_⟩;rw[if_neg n,e];rfl
def sF{h:Heap}{L b c:Addr}{p:Addr×Obj}(e:p∈oA h L b c):h.get? p.1=some p.2/\p.1≠L/\p.1≠b/\p.1≠c:=by
 unfold oA at e;obtain⟨i,_,q⟩:=V0.mp e
 split at q
 ·cases q
 ·rename_i n;obtain⟨o,eo,rfl⟩:=E8.mp q;exact⟨eo,λz=>n (.inl z),λz=>n (.inr (.inl z)),λz=>n (.inr (.inr z))⟩
def VG{A:Around}{E:AA}{P:PySem.Fin->Shared->Prop}{a kS:Addr}{keys:Array Value}{e e1:Nat}{vs:List Value}{xs:List V}{kz:List Int}(I:Inv X ((kS,seqObj "list" keys e)::(a,seqObj "list" #[] e1)::zc) σ H s)(Mm:kS≠a)(z1:X.s₀.heap.objs.size<=kS)(z2:X.s₀.heap.objs.size<=a)(np:∀p∈X.pn ++ zc,p.1≠kS/\p.1≠a)
  (hk:IntsAre keys.toList kz) (zj:kz.length=vs.length) (mJ:vs.length < 64) (hv:Vals xs vs)
  (h:∀(s':Shared) (ps:List (Int×Value)) (us:List V),ps.Perm (kz.zip vs)->ps.Pairwise (λp q=>p.1<=q.1)->Vals us (ps.map Prod.snd)->us.length=vs.length->(∀H',H'=upd H a (.lst us)->Inv X zc σ H' s')->P (.done (.ret .none)) s'):
  wpAny (model X.prog X.w) A (PyProof.Rows.ksk_end a false vs.toArray e1 (.ref kS) keys) P E s:=by
 have pk:=I.pin (kS,seqObj "list" keys e) (B7 _ (.head _));have pa:=I.pin (a,seqObj "list" #[] e1) (B7 _ (.tail _ (.head _)));obtain⟨m,hm,_⟩:=id I.loc;have I0:Inv X zc σ H s:=I.cZ λp hp=>I.pin p (B7 _ (.tail _ (.tail _ hp)));refine PyProof.Rows.ksk_end_ (e:=e) (h₀:={objs:= #[]}) (L:=X.env.locals) (m:=m) (news:=oA s.heap X.env.locals kS a) ⟨hm,λb o z=>by simp[Heap.get?]at z,K5 _⟩ (λp hp=> ?_) Mm (λp hp=>(sF hp).2.2.1) (λp hp=>(sF hp).2.2.2) hk zj mJ λh' tk out c F' N' ko=> ?_
 ·rcases F6.mp hp with hp|hp
  ·exact⟨(sF hp).1,(sF hp).2.1,by simp[Heap.get?]⟩
  ·rcases C7.mp hp with rfl|hp
   ·exact⟨pk.1,pk.2.2.1,by simp[Heap.get?]⟩
   ·rw[D7.mp hp];exact⟨pa.1,pa.2.2.1,by simp[Heap.get?]⟩
 ·obtain⟨ps,pm,eo,zW⟩:=ko;have kP:h'.get? a=some (seqObj "list" out c):=(N' _ (.head _)).1;have kp:∀b o,b≠X.env.locals->b≠kS->b≠a->s.heap.get? b=some o->h'.get? b=some o:=λb o n1 n2 n3 e=>(N' (b,o) (.tail _ (Xb e (by rintro (z|z|z) <;> contradiction)))).1;have hlz:ps.length=vs.length:=by rw[pm.length_eq,U8,zj,ML]
  obtain⟨us,hu⟩:∃us,Vals us (ps.map Prod.snd):=by
   have all:∀(l:List (Int×Value)),(∀p∈l,∃x,RelV x p.2)->∃us,Vals us (l.map Prod.snd):=by
    intro l
    induction l with
    |nil=>intro _;exact⟨[],.nil⟩
    |cons p l ih=>
     intro hl;obtain⟨x,hx⟩:=hl p (.head _);obtain⟨us,hus⟩:=ih λq hq=>hl q (.tail _ hq);exact⟨x::us,.cons hx hus⟩
   refine all ps λp hp=> ?_;have hz:=X7 (pm.mem_iff.mp hp);obtain⟨i,hi,ei⟩:=List.getElem_of_mem hz.2;obtain⟨x,_,r⟩:∃x,xs[i]? =some x/\RelV x p.2:=by
    have BE:i < xs.length:=by rw[hv.length];exact hi
    obtain⟨u,e1,e2⟩:=hv.get (A8 BE);rw[A8 hi,ei]at e1;cases e1;exact⟨_,A8 BE,e2⟩
   exact⟨x,r⟩
  have BB:us.length=vs.length:=by rw[hu.length,A3];exact hlz
  refine h _ ps us pm (zW.imp λ{p q} z=>by simpa using z) hu BB λH' eH=> ?_;subst eH;have nH:∀b u,H b=some u->b≠kS/\b≠a/\b≠X.env.locals:=λb u e=>⟨(λz=>by rw[z,pk.2.1]at e;cases e),(λz=>by rw[z,pa.2.1]at e;cases e),(λz=>by rw[z,I.free]at e;cases e)⟩;have zS:∀b u,H b=some u->upd H a (.lst us) b=some u:=λb u e=>by rw[Ao (nH b u e).2.1];exact e
  refine I0.step (g':=s.gens) (d':=s.drawn) (ch:=[kS,a]) (λb hb=> ?_) (λb o n1 _ n3 e _=>kp b o n1 (λz=>n3 (by simp[z])) (λz=>n3 (by simp[z])) e) (λb o n1 _ n3 e _=>⟨o.slots,kp b o n1 (λz=>n3 (by simp[z])) (λz=>n3 (by simp[z])) e⟩) (λb o n3 _ n=>by rw[Ao λz=>n3 (by simp[z])];exact n)
   (λb o n3 e=> ?_) (λb xs e=>zS b _ e) (λb o u e=>zS b _ e) (λb ps e=>⟨#[],by rw[zS b _ e];simp⟩) (λm' qx=>by rw[<-Ro hm qx];exact F'.ns) (λb u e=> ?_) I.bare
  ·have cO:b=kS\/b=a:=by simpa using hb
   have cl:∀{q:Addr×Obj},q∈((kS,seqObj "list" keys e)::(a,seqObj "list" #[] e1)::zc)->∀x c,X.env.cells.lookup x=some c->c≠q.1:=λ{q} hq x c hc z=>by
    obtain⟨v,o,ho,hd⟩:=I.cell x c hc;have:=I.pin q (B7 _ hq);rw[z,this.1]at ho;cases ho;exact this.2.2.2.2 v hd
   rcases cO with rfl|rfl
   ·exact⟨.inr z1,pk.2.2.1,cl (.head _),λp hp=>(np p hp).1⟩
   ·exact⟨.inr z2,pa.2.2.1,cl (.tail _ (.head _)),λp hp=>(np p hp).2⟩
  ·by_cases z:b=X.env.locals
   ·subst z;obtain⟨o',_,_,dJ,_⟩:=F'.ns;exact⟨o',dJ⟩
   ·exact⟨o,kp b o z (λz=>n3 (by simp[z])) (λz=>n3 (by simp[z])) e⟩
  ·by_cases z:b=a
   ·subst z;rw[Bf]at e;cases e;exact⟨by rw[BB,D9];lia,ps.map Prod.snd,c,hu,by rw[<-eo];simpa using kP⟩
   ·rw[Ao z]at e;obtain⟨n1,n2,n3⟩:=nH b u e;refine(I.aJ b u e).cX (λb' o' hc q=> ?_) (λb' q=>zS b' _ q) λb' xs q=>zS b' _ q;rcases hc with rfl|hc
    ·exact kp _ _ n3 n1 n2 q
    ·obtain⟨k1,k2,k3⟩:=nH b' _ hc;exact kp _ _ k3 k1 k2 q
end
section
variable{X:Cx}{zc:AE}{σ:Sg}{H:Hp}{s:Shared}
def Xa{A:Around}{E:AA}{P:PySem.Fin->Shared->Prop}{a:Addr}{n k:Nat}{vs:List Value}{xs:List V}{ds:List D}{kz:List Int}{F:AF}{f:Addr}{ps:List Str}(I:Inv X zc σ H s)(ho:s.heap.get? a=some (seqObj "list" vs.toArray n))(ha0:H a=none)(haz:X.s₀.heap.objs.size<=a)(haL:a≠X.env.locals)
  (hac:∀x c,X.env.cells.lookup x=some c->c≠a) (yY:∀p∈X.pn ++ zc,p.1≠a) (haf:a∉X.fs) (hv:Vals xs vs) (hx:∀(i:Nat) v d,xs[i]? =some v->ds[i]? =some d->∀G,aM X.K G v d) (hdl:ds.length=vs.length)
  (hkz:∀(i:Nat) d k,ds[i]? =some d->kz[i]? =some k->∃w,F [d]=.ok w/\w.d=.int k) (zj:kz.length=vs.length) (mJ:vs.length < 64)
  (ok:bI X.prog X.w X.K X.mg X.base true k f fd ps (Bo X.K 1 F)) (hb:Binds X.K fd ps []) (hA:A.frames=X.A.frames) (hr:aF true k A)
  (h:∀(s':Shared) (H':Hp) (ps:List (Int×Value)) (us:List V),aB H H'->H' a=none->ps.Perm (kz.zip vs)->ps.Pairwise (λp q=>p.1<=q.1)->Vals us (ps.map Prod.snd)->us.length=vs.length->Inv X zc σ (upd H' a (.lst us)) s'->P (.done (.ret .none)) s'):
  wpAny (model X.prog X.w) A (PyProof.Rows.ksk_tree a (.ref f) false) P E s:=by
 have ha:a < s.heap.objs.size:=A6 ho;have s1:=Heap.SameBut.update s.heap a (Obj.mapSeq λ_=>(#[]:Array Value));obtain⟨e1,BC⟩:∃e1,(s.heap.update a (Obj.mapSeq λ_=>(#[]:Array Value))).get? a=some (seqObj "list" #[] e1):=⟨_,get?_update_seq ho λ_=> #[]⟩;have uN:((s.heap.update a (Obj.mapSeq λ_=>(#[]:Array Value))).push (seqObj "tuple" vs.toArray 0)).objs.size=s.heap.objs.size + 1:=by rw[size_push',OT]
 generalize hq:((s.heap.update a (Obj.mapSeq λ_=>(#[]:Array Value))).push (seqObj "tuple" vs.toArray 0)).objs.size=kS at uN;have Mm:kS≠a:=by rw[uN];exact Y3 (S9 ha)
 have z1:X.s₀.heap.objs.size<=kS:=by rw[uN];exact Nat.le_succ_of_le I.sz
 have npk:∀p∈X.pn ++ zc,p.1≠kS:=λp hp z=>by
  have:=A6 (I.pin p hp).1;rw[z,uN]at this;exact absurd this (CF.mpr (L7 _))
 have I1:Inv X zc σ H {s with heap:=s.heap.update a (Obj.mapSeq λ_=>(#[]:Array Value))}:=I.turned (t':=s.toks) (λb o hb e=>(s1.2 b hb).trans e) ha0 haL (.inr haz) hac yY;have I2:Inv X zc σ H {s with heap:=((s.heap.update a (Obj.mapSeq λ_=>(#[]:Array Value))).push (seqObj "tuple" vs.toArray 0)).push (seqObj "list" #[] 0)}:=I1.kept (t':=s.toks) λb o e=>A4 _ (A4 _ e);have Mo:H kS=none:=I.aJ.fresh (by rw[uN];exact L7 _);have hkL:kS≠X.env.locals:=λz=>by have:=I.lt;rw[<-z,uN]at this;exact absurd this (CF.mpr (L7 _))
 have hkf:kS∉X.fs:=I.vg (by rw[uN];exact L7 _);have nc:∀(l:Array Value) (e:Nat) v,(seqObj "list" l e).data≠ .cell v:=λl e v z=>by cases z
 let J:Nat->Array Value->Shared->Prop:=λ_ kA s'=>∃H' e,aB H H'/\Inv X ((kS,seqObj "list" kA e)::(a,seqObj "list" #[] e1)::zc) σ H' s'
 have aw:∀{kA:Array Value} {e:Nat} {H':Hp} {s':Shared},Inv X zc σ H' s'->s'.heap.get? kS=some (seqObj "list" kA e)->s'.heap.get? a=some (seqObj "list" #[] e1)->H' kS=none->H' a=none->Inv X ((kS,seqObj "list" kA e)::(a,seqObj "list" #[] e1)::zc) σ H' s':=λ{kA e H' s'} J0 g1 g2 n1 n2=>by
  refine J0.cZ λp hp=> ?_;rcases C7.mp hp with rfl|hp
  ·exact⟨g1,n1,hkL,hkf,nc _ _⟩
  ·rcases C7.mp hp with rfl|hp
   ·exact⟨g2,n2,haL,haf,nc _ _⟩
   ·exact J0.pin p (B7 _ hp)
 unfold PyProof.Rows.ksk_tree;refine A5 (OD ho rfl ?_);refine A5 (X3 ho rfl ?_ (by rw[D6,D9];lia) (K5 _));refine A5 (MJ BC rfl ?_);refine A5 (wpAny_newTuple ?_ (by show vs.length<=_;rw[D9];lia));refine A5 (MN ?_ (K5 _));refine S3 ?_;show wpAny _ A (PyProof.Rows.ksk_rest a (.ref f) false vs.toArray e1 (.ref ((s.heap.update a (Obj.mapSeq λ_=>(#[]:Array Value))).push (seqObj "tuple" vs.toArray 0)).objs.size)) P E _;rw[hq];refine PySem.W.mj (kz:=kz) J ?_ zj mJ (λi v kk kA s' ev ek hJ=> ?_) (λi kA s' hJ=> ?_) λkA s' hJ hk=> ?_
 ·refine⟨H,0,aB.refl _,aw I2 ?_ (A4 _ (A4 _ BC)) Mo ha0⟩;rw[<-hq];exact C1 _ rfl
 ·obtain⟨H1,e,sm,J1⟩:=hJ;have hi:i < vs.length:=(B5.mp ev).1;have BE:i < xs.length:=by rw[hv.length];exact hi
  obtain⟨u,eu,ru⟩:=hv.get (A8 BE);rw[ev]at eu;cases eu;have hid:i < ds.length:=by rw[hdl];exact hi
  obtain⟨w,ew,en⟩:=hkz i _ kk (A8 hid) ek;refine F5 (Tx ok hb J1 hA hr ru (hx i _ _ (A8 BE) (A8 hid)) ew en) (λz s2 hz=> ?_) λ_ _ z=>z;obtain⟨t,H2,rfl,sm2,J2⟩:=hz;have pk:=J2.pin (kS,seqObj "list" kA e) (B7 _ (.head _));have pa:=J2.pin (a,seqObj "list" #[] e1) (B7 _ (.tail _ (.head _)));refine⟨t,e,rfl,pk.1, ?_⟩;have J3:Inv X zc σ H2 s2:=J2.cZ λp hp=>J2.pin p (B7 _ (.tail _ (.tail _ hp)));have sb:=Heap.SameBut.update s2.heap kS (Obj.mapSeq (·.push (.int kk t)));have cl:∀x c,X.env.cells.lookup x=some c->c≠kS:=λx c hc z=>by
   obtain⟨v,o,ho,hd⟩:=J2.cell x c hc;rw[z,pk.1]at ho;cases ho;exact pk.2.2.2.2 v hd
  have J4:Inv X zc σ H2 {s2 with heap:=s2.heap.update kS (Obj.mapSeq (·.push (.int kk t)))}:=J3.turned (t':=s2.toks) (λb o hb e=>(sb.2 b hb).trans e) pk.2.1 hkL (.inr z1) cl npk;exact⟨H2,_,sm.trans sm2,aw J4 (get?_update_seq pk.1 (·.push (.int kk t))) ((sb.2 a Mm.symm).trans pa.1) pk.2.1 pa.2.1⟩
 ·obtain⟨H1,e,sm,J1⟩:=hJ;exact⟨e,(J1.pin (kS,seqObj "list" kA e) (B7 _ (.head _))).1⟩
 ·obtain⟨H1,e,sm,J1⟩:=hJ;have pa:=J1.pin (a,seqObj "list" #[] e1) (B7 _ (.tail _ (.head _)));exact VG J1 Mm z1 haz (λp hp=>⟨npk p hp,yY p hp⟩) hk zj mJ hv λs3 ps us pm zW hu BB J=>h s3 H1 ps us sm pa.2.1 pm zW hu BB (J _ rfl)
end
theorem xD(p:Int×D):∀l:List (Int×D),(Gi p l).Perm (p::l)
 | []=> .refl _
 |q::r=>by
  unfold Gi
  split
  ·exact .refl _
  ·exact(List.Perm.cons q (xD p r)).trans (List.Perm.swap p q r)
theorem sM:∀l:List (Int×D),(kC l).Perm l
 | []=> .refl _
 |p::r=>(xD p (kC r)).trans (.cons p (sM r))
theorem Kt(p:Int×D):∀{l:List (Int×D)},l.Pairwise (λa b=>a.1<=b.1)->(Gi p l).Pairwise (λa b=>a.1<=b.1)
 | [],_=>by unfold Gi;simp
 |q::r,h=>by
  rw[P9]at h;unfold Gi
  split
  ·rename_i hl;refine P9.mpr ⟨λz hz=> ?_,P9.mpr h⟩;rcases C7.mp hz with rfl|hz
   ·exact hl
   ·exact Int.le_trans hl (h.1 z hz)
  ·rename_i hl;refine P9.mpr ⟨λz hz=> ?_,Kt p h.2⟩;rcases C7.mp ((xD p r).mem_iff.mp hz) with rfl|hz
   ·lia
   ·exact h.1 z hz
theorem yd:∀l:List (Int×D),(kC l).Pairwise (λa b=>a.1<=b.1)
 | []=> .nil
 |p::r=>Kt p (yd r)
theorem JR{α β:Type}{R:α->β->Prop}{a:α}:∀{A:List α} {B:List β},Paired R A B->a∈A->∃l1 l2 m1 m2 b,A=l1 ++ a::l2/\B=m1 ++ b::m2/\R a b/\Paired R (l1 ++ l2) (m1 ++ m2)
 |_,_,.cons (a:=x) (b:=y) (l₁:=A) (l₂:=B) r t,h=>by
  by_cases e:a=x
  ·subst e;exact⟨[],A,[],B,y,rfl,rfl,r,t⟩
  ·rcases C7.mp h with z|h
   ·exact absurd z e
   ·obtain⟨l1,l2,m1,m2,b,rfl,rfl,rb,pr⟩:=JR t h;exact⟨x::l1,l2,y::m1,m2,b,rfl,rfl,rb,.cons r pr⟩
theorem xX{α β:Type}{R:Int×α->Int×β->Prop}(hR:∀p q,R p q->p.1=q.1):∀{A:List (Int×α)} {A0:List (Int×α)} {B0 B:List (Int×β)},Paired R A0 B0->A.Perm A0->B.Perm B0->(B0.map (·.1)).Nodup->A.Pairwise (λp q=>p.1<=q.1)->B.Pairwise (λp q=>p.1<=q.1)->Paired R A B
 | [],A0,B0,B,r,pa,pb,_,_,_=>by
  have:A0= []:=pa.symm.eq_nil;subst this;cases r;have:B= []:=pb.eq_nil;subst this;exact .nil
 |a::A,A0,B0,B,r,pa,pb,nd,sa,sb=>by
  obtain⟨l1,l2,m1,m2,b,rfl,rfl,rb,pr⟩:=JR r (pa.mem_iff.mp (.head _));have pa':A.Perm (l1 ++ l2):=(List.perm_cons a).mp (pa.trans W9);have bB:b∈B:=pb.mem_iff.mpr (by simp);rw[P9]at sa;cases B with
  |nil=>cases bB
  |cons c B=>
   rw[P9]at sb;have fb:∀z∈m1 ++ m2,a.1<=z.1:=λz hz=>by
    have:∀{A:List (Int×α)} {B:List (Int×β)},Paired R A B->∀z∈B,∃y∈A,y.1=z.1:=λ{A B} p=>by
     induction p with
     |nil=>intro z hz;cases hz
     |cons rr _ ih=>
      intro z hz;rcases C7.mp hz with rfl|hz
      ·exact⟨_,.head _,hR _ _ rr⟩
      ·obtain⟨y,hy,e⟩:=ih z hz;exact⟨y,.tail _ hy,e⟩
    obtain⟨y,hy,e⟩:=this pr z hz;rw[<-e];exact sa.1 y (pa'.mem_iff.mpr hy)
   have eb:a.1=b.1:=hR _ _ rb;have cb:c=b:=by
    have hc:c∈m1 ++ b::m2:=pb.mem_iff.mp (.head _);have kO:c=b\/c∈m1 ++ m2:=by
     rcases F6.mp hc with h|h
     ·exact .inr (F2 _ h)
     ·rcases C7.mp h with h|h
      ·exact .inl h
      ·exact .inr (B7 _ h)
    rcases kO with h|h
    ·exact h
    ·exfalso;have h1:=fb c h;have h2:c.1<=b.1:=by
      rcases C7.mp bB with z|z
      ·rw[z];exact Int.le_refl _
      ·exact sb.1 b z
     have h3:c.1=b.1:=by lia
     have uI:((b::(m1 ++ m2)).map (·.1)).Nodup:=(List.Perm.map _ (W9 (a:=b) (l₁:=m1) (l₂:=m2))).nodup_iff.mp nd;rw[B3,K9]at uI;exact uI.1 (by rw[<-h3];exact Y1 h)
   subst cb;have pb':B.Perm (m1 ++ m2):=(List.perm_cons c).mp (pb.trans W9);have uI:((m1 ++ m2).map (·.1)).Nodup:=by
    have uI:((c::(m1 ++ m2)).map (·.1)).Nodup:=(List.Perm.map _ (W9 (a:=c) (l₁:=m1) (l₂:=m2))).nodup_iff.mp nd;rw[B3,K9]at uI;exact uI.2
   exact .cons rb (xX hR pr pa' pb' uI sa.2 sb.2)
theorem Jd{F:AF}:∀{ds:List D} {ps:List (Int×D)},fQ F ds=.ok ps->Paired (λd (p:Int×D)=>p.2=d/\∃w,F [d]=.ok w/\w.d=.int p.1) ds ps
 | [],_,e=>by cases e;exact .nil
 |d::ds,ps,e=>by
  unfold fQ at e;cases ef:F [d] with
  |ok w=>
   rw[ef]at e;simp only[R.aI]at e;cases ew:w.d with
   |int n=>
    rw[ew]at e;simp only at e;cases er:fQ F ds with
    |ok r=>rw[er]at e;cases e;exact .cons ⟨rfl,w,ef,ew⟩ (Jd er)
    |ex x=>rw[er]at e;cases e
    |no=>rw[er]at e;cases e
   |_=>rw[ew]at e;cases e
  |ex x=>rw[ef]at e;cases e
  |no=>rw[ef]at e;cases e
def VF{k:Ae}{u:Value}(r:RelV v u)(q:RelV (kV k) u):v=kV k:=by
 cases k with
 |inl i=>
  obtain⟨t,rfl⟩:=q;cases v with
  |int j=>obtain⟨t',e⟩:=r;cases e;rfl
  |str x=>obtain⟨t',e⟩:=r;cases e
  |iT x=>obtain⟨t',e⟩:=r;cases e
  |nr x=>obtain⟨t',e⟩:=r;cases e
  |_=>cases r
 |inr x=>
  obtain⟨t,rfl⟩:=q;cases v with
  |str y=>obtain⟨t',e⟩:=r;cases e;rfl
  |int j=>obtain⟨t',e⟩:=r;cases e
  |iT x=>obtain⟨t',e⟩:=r;cases e
  |nr x=>obtain⟨t',e⟩:=r;cases e
  |_=>cases r
abbrev RelK(p:Int×Value)(q:Int×D):Prop:=p.1=q.1/\∃k0,q.2=kD k0/\RelV (kV k0) p.2
theorem CL{F:AF}:∀{ks:List Ae} {vs:List Value} {ps:List (Int×D)},Vals (ks.map kV) vs->Paired (λd (p:Int×D)=>p.2=d/\∃w,F [d]=.ok w/\w.d=.int p.1) (ks.map kD) ps->Paired RelK ((ps.map (·.1)).zip vs) ps
 | [],_,_,r,q=>by cases r;cases q;exact .nil
 |k::ks,_,_,r,q=>by
  rw[B3]at r q;cases r with
  |cons h t=>
   cases q with
   |cons h2 t2=>exact .cons ⟨rfl,k,h2.1,h⟩ (CL t t2)
theorem CT{G:Hp}:∀{ps:List (Int×Value)} {qs:List (Int×D)} {us:List V},Paired RelK ps qs->Vals us (ps.map Prod.snd)->aC K G us (qs.map (·.2))
 | [],_,_,r,h=>by cases r;cases h;exact .nil
 |p::ps,_,_,r,h=>by
  rw[B3]at h;cases r with
  |cons r t=>
   cases h with
   |cons hv ht=>
    obtain⟨_,k0,e,rk⟩:=r;rw[B3,e];exact .cons (by rw[VF hv rk];exact oE k0) (CT t ht)
theorem Paired.getL{α β:Type}{R:α->β->Prop}:∀{A:List α} {B:List β} {i:Nat} {a:α} {b:β},Paired R A B->A[i]? =some a->B[i]? =some b->R a b
 |_,_,_,_,_,.nil,e,_=>by simp at e
 |_,_,0,_,_,.cons r _,e,e'=>by
  simp at e e';subst e e';exact r
 |_,_,i + 1,_,_,.cons _ t,e,e'=>Paired.getL (i:=i) t (by simpa using e) (by simpa using e')
section
variable{X:Cx}{EX:Ax}{pos:Pos}
def WZ{zc:AE}{σ:Sg}{G H:Hp}{s:Shared}{Q:VK}{a f:Addr}{k k':Nat}{ps:List Str}{F:AF}{kvs:List (Ae×V)}{aA:List (Ae×D)}(hc:X.calm=true)(I:Inv X zc σ H s)(g:aB G H)(rd:Rd G a (.dK kvs))(hk:kvs.map (·.1)=aA.map (·.1))
  (ok:bI X.prog X.w X.K X.mg X.base true k f fd ps (Bo X.K 1 F)) (hb:Binds X.K fd ps []) (hr:aF true k' X.A) (yV:k + 1<=k') (o:Out X.K MV G H (ju F (aA.map λp=>kD p.1)) Q):
  wpAny (model X.prog X.w) X.A (call (.builtin "sorted") [.ref a] [(Str.ofString "key",.ref f)]) (EP X zc σ Q) X.xe s:=by
 unfold ju at o;cases eK:fQ F (aA.map λp=>kD p.1) with
 |ex x=>rw[eK]at o;exact False.elim o
 |no=>rw[eK]at o;exact False.elim o
 |ok uD=>
  rw[eK]at o;simp only at o
  split at o
  ·rename_i pF;obtain⟨mJ,nd⟩:=pF;have pK:=Jd eK;have Ml:aA.length=kvs.length:=by
    have:=K4 List.length hk;rw[A3,A3]at this;exact this.symm
   have bZ:uD.length=kvs.length:=by
    rw[<-X2 pK,A3];exact Ml
   have MA:(aA.map λp=>kD p.1)=(kvs.map (·.1)).map kD:=by rw[hk,J7];rfl
   obtain⟨z,lo,ws,kv,dd⟩:=iZ I.aJ (aB.jb g rd);obtain⟨ep,da⟩:=dd.dictAt;refine call_function_entry_kw kind_sorted plain_sorted entry_sorted (ksk_s1 _ _) ?_;unfold Builtin.«sorted»;refine A5 (m:=checkCount "sorted" 1 1 _) (F0 ?_);refine A5 (PySem.W.iF (A:=X.A.in1) (kdl_dict lo) (I.ok.hd hc) da (by rw[<-kv.length];exact z) λh1 LL zm kk le it=> ?_);have eW:Vals ((kvs.map (·.1)).map kV) zm.toList:=xH kv (by rw[O7];exact it.1) λj v e=>it.2 j v (by rw[<-S5];exact e);have Mq:zm.toList.length=kvs.length:=by rw[<-eW.length,A3,A3]
   refine A5 (MN ?_ (by rw[Mq];exact z));have new:(h1.push (seqObj "list" zm.toList.toArray 0)).get? h1.objs.size=some (seqObj "list" zm.toList.toArray 0):=C1 _ rfl;have I0:Inv X zc σ H {s with heap:=h1,toks:=LL}:=I.kept (t':=LL) kk;have I1:Inv X zc σ H {s with heap:=h1.push (seqObj "list" zm.toList.toArray 0),toks:=LL}:=I0.kept (t':=LL) λb u e=>A4 _ e;have fr:H h1.objs.size=none:=I.aJ.fresh le;refine A5 (S3 (wpAny_call_entry_kw slot_list_sort ⟨_,new,rfl⟩ entry_list_sort ?body (ksk_l1 _ _)))
   case body=>
    show wpAny (model X.prog X.w) X.A.in1.in1 (Builtin.«list.sort» ⟨[.ref h1.objs.size],[(Str.ofString "key",.ref f)]⟩) _ _ _;rw[ksk_t1];have hr':aF true k X.A.in1.in1:=⟨hr.hd,by have:=hr.dp;show X.A.depth + 3 * k + 5 < _;lia,by have:=hr.un;show X.A.units + 1 + 1 + 16 * k + 200 < _;lia⟩;refine Xa (kz:=uD.map (·.1)) (ds:=aA.map λp=>kD p.1) (F:=F) I1 new fr (D4 I.sz le) (λz=> ?_) (λx c e z=> ?_) (λp hp z=> ?_) (I0.vg (B6 _)) eW (λi v d e1 e2 G'=> ?_) (by rw[A3,Mq];exact Ml) (λi d kx e1 e2=> ?_) (by rw[A3,Mq];exact bZ) (by rw[Mq,<-bZ];exact mJ) ok hb rfl hr' λs' H' ps us sm na pm zW hu BB J=> ?_
    ·have:=I0.lt;rw[<-z]at this;exact absurd this (F3 _)
    ·obtain⟨v,hv⟩:=I0.cell x c e;have:=hv.lt;rw[z]at this;exact absurd this (F3 _)
    ·have:=A6 (I0.pin p hp).1;rw[z]at this;exact absurd this (F3 _)
    ·rw[MA,A9]at e2;rw[A9]at e1;cases ek:(kvs.map (·.1))[i]? with
     |none=>rw[ek]at e1;cases e1
     |some k0=>rw[ek]at e1 e2;cases e1;cases e2;exact oE k0
    ·rw[A9]at e2;cases Od:uD[i]? with
     |none=>rw[Od]at e2;cases e2
     |some p=>
      rw[Od]at e2;cases e2;exact(Paired.getL pK e1 Od).2
    ·refine⟨_,rfl,F0 ⟨_,rfl,.ref h1.objs.size,_,J,rfl, ?_⟩⟩;rw[MA]at pK;have pr:=xX (R:=RelK) (λp q r=>r.1) (CL eW pK) pm (sM uD) nd zW (yd uD);refine(show WP X.K G H (.ow (.lst ((kC uD).map (·.2)))) Q from o) (.ref h1.objs.size) (λb=>b=h1.objs.size) G _ ⟨λb u e=> ?_,λb u e=> ?_,aB.refl _,λ_ n _=>n⟩ (λb e=> ?_) (Ow.list Bf rfl (CT pr hu))
     ·rw[Ao (Ep e fr)];exact sm b u e
     ·rw[Ao (Ep (g b u e) fr)];exact sm b u (g b u e)
     ·subst e;exact⟨fr,g.free fr,by rw[Bf];simp⟩
  ·exact False.elim o
def VE{o:Expr}{f:FE}{x:Str}{k k':Nat}{y:Str}{F:AF}{p p2 p3:Pos}(hc:X.calm=true)(hr:aF true k' X.A)(hm:X.mg "sorted" =none)(h:CK X.prog X.w X.K X.mg X.base true x k [y] F)(he:ED X EX o f)(hk:k + 1<=k':=by decide)(hg:Gl X "sorted" :=by rfl)(hgx:Gl X x:=by rfl)(cW:AG x:=by decide)
  (jg:starEach [o] X.env=(false,eval o X.env)::starEach [] X.env:=by rfl) (BN:backTo pos (starEach [o] X.env)=(false,eval o X.env)::backTo pos (starEach [] X.env):=by rfl) (bZ:(backTo pos (starEach [o] X.env)).any (·.1)=false:=by rfl)
  (bf:(backToKw pos (keywordEach [⟨some "key",.Name x p2,p3⟩] X.env)).all (·.1.isSome)=true:=by rfl) (hkw:(backToKw pos (keywordEach [⟨some "key",.Name x p2,p3⟩] X.env)).any (·.1.isNone)=false:=by rfl)
  (pX:(backToKw pos (keywordEach [⟨some "key",.Name x p2,p3⟩] X.env)).filterMap (·.1)= [Str.ofString "key"]:=by rfl):
  ED X EX (.Call (.Name "sorted" p) [o] [⟨some "key",.Name x p2,p3⟩] pos) (oB F f):=by
 obtain⟨fa,fd,ok,hmx,kp,hb⟩:=h;intro zc s σ H Q I q;obtain⟨G,δ,g0,s0,q⟩:=q;have ta:vJ (tD X.K EX f) qL σ H λvs H1=>∃(G1:Hp) (a:Addr) (kvs:List (Ae×V)) (aA:List (Ae×D)),vs= [.ref a]/\aB G1 H1/\Rd G1 a (.dK kvs)/\kvs.map (·.1)=aA.map (·.1)/\Out X.K (EX σ) G1 H1 (ju F (aA.map λp=>kD p.1)) Q:=by
  refine tD.seq g0 s0 q λw v G1 H1 _ st r o'=> ?_;revert o' r;cases w.d with
  |aE aA=>
   intro r o';cases r with
   |aE hr hk rr=>exact⟨G1,_,_,aA,rfl,st.gh,hr,hk,o'⟩
  |_=>intro _ o';exact False.elim o'
 refine N0 (fU I hg hm Q6 (callWith_kw (Ay ((iS he mB jg) pos zc s σ H _ I ta) λus s1 ⟨vs,H1,I1,r1,G1,a,kvs,aA,ev,g1,rd,yV,o'⟩=> ?_) BN bZ bf hkw));subst ev;obtain⟨u,rfl,ru⟩:=r1.one;cases ru;refine kws_cons (qi I1 hgx hmx (kws_nil ?_) cW);rw[pX];refine WZ hc I1 g1 rd yV ok hb hr hk ?_;unfold ju at o'⊢;cases eK:fQ F (aA.map λp=>kD p.1) with
 |ok uD=>
  rw[eK]at o';simp only at o'⊢
  split at o'
  ·rename_i pF;rw[if_pos pF];exact o'
  ·exact False.elim o'
 |ex x=>rw[eK]at o';exact False.elim o'
 |no=>rw[eK]at o';exact False.elim o'
end
def kG:Sl->Bool
 | .no=>true
 | .sh d=>Dc d
 | .ow d=>Dg (Tn.of d)
 | .tr t=>Dg t
 | .lk d=>Dg (Tn.of d)
 | .lt t=>Dg t
def Ym{s:Sl}{t:Tn}(h:kG s=true)(e:s.own=some t):Dg t=true:=by
 cases s with
 |no=>cases e
 |sh d=>cases e
 |_=>cases e;exact h
section
variable{X:Cx}{EX:Ax}{e:Expr}{g:SE->FM}
end
def qJ(a:Addr)(ob:Obj)(kvs:List (Ae×V)):It:=⟨λi H=>H a=some (.aQ ob (.dK kvs))/\i < kvs.length,λi H x H'=>∃p q,H p=none/\x=.ref p/\kvs[i]? =some q/\H'=upd H p (.tup [kV q.1,q.2]),λi H=>H a=some (.aQ ob (.dK kvs))/\i=kvs.length⟩
theorem GN{α β:Type}{R:α->β->Prop}:∀{A:List α} {B:List β} {i:Nat} {a:α},Paired R A B->A[i]? =some a->∃b,B[i]? =some b/\R a b
 |_,_,0,_,.cons h _,e=>by cases e;exact⟨_,rfl,h⟩
 |_,_,i + 1,_,.cons _ r,e=>GN (i:=i) r e
 |_,_,i,_,.nil,e=>by cases i <;> cases e
def JQ{P:Program}{w:World}{elts:List Expr}{x1:Nat}(a it:Addr)(ob:Obj)(kvs:List (Ae×V)){es:Array DictEntry}{ep:Nat}(hd:ob.data=.dict es ep):Turn P w K (.Tuple elts x1 pos) (qJ a ob kvs) [it] it (λi h=>∃ok ov,IsItemIter h it a i kvs.length ep ok ov) where
 mem:=by simp
 obj:=λi h st b hb=>by
  have e:b=it:=by simpa using hb
  subst e;obtain⟨_,_,q⟩:=st;exact⟨_,q,λv z=>by cases z⟩
 keep:=λi h h' st k=>by
  obtain⟨ok,ov,q⟩:=st;exact⟨ok,ov,k it (by simp) _ q⟩
 item:=by
  intro X hP hw hK hc i zc s σ H E I hf st hg;subst hP hw hK;obtain⟨hq,dF⟩:=hg;obtain⟨ws,kv,da⟩:=sk I.aJ hq hd;have f:=hf it (by simp);obtain⟨p,hp⟩:∃p,kvs[i]? =some p:=⟨_,A8 dF⟩;obtain⟨⟨k',x⟩,hx,e1,rx⟩:=GN kv hp;simp only at e1 rx;subst e1;obtain⟨ok,ov,st⟩:=st;rw[kv.length]at st;refine wpAny_pyNext_items_item st da hx λkey h' hk ho ht hsz kk=> ?_;refine⟨_,rfl,wpAny_letOwnedTupleGo_items ho λMs ar sb=> ?_⟩;have ne:s.heap.objs.size≠it:=λz=>absurd (A6 st) (by rw[<-z];exact F3 _);refine⟨.ref s.heap.objs.size,upd H s.heap.objs.size (.tup [kV p.1,p.2]), ?_,rfl,⟨_,p,I.aJ.fresh (B6 _),rfl,hp,rfl⟩,⟨key,x,by rw[kv.length];exact ar⟩,λb hb=> ?_⟩
  ·exact Inv.pair (e:=it) (it:=it) (tk:=s.toks) (its:=[key,x]) I f f (λb o h1 _ q=>(sb.2 b h1).trans (kk b o h1 q)) ⟨_,ar⟩ ⟨_,ar⟩ ((sb.2 _ ne).trans ht) (.cons (vE hk) (.cons rx .nil)) (by show 2<=sizeLine;decide)
  ·have e:b=it:=by simpa using hb
   subst e;rw[Ao (D8 (A6 st))];exact f.1
 done:=by
  intro X hP hw hK hc i zc s σ H E I hf st hg;subst hP hw hK;obtain⟨hq,hg⟩:=hg;subst hg;obtain⟨ws,kv,da⟩:=sk I.aJ hq hd;have f:=hf it (by simp);obtain⟨ok,ov,st⟩:=st;rw[kv.length]at st;exact wpAny_pyNext_items_end (I.ok.hd hc) st da (by simp) λh' eb=>⟨rfl,Inv.fZ (tk:=s.toks) I f f λb o h1 _ q=>eb b o h1 q⟩
 self:=λA i s Q E st h=>by
  obtain⟨ok,ov,st⟩:=st;exact kcp_self st h
def iIm(H₀:Hp)(to:TE):TI:=λ σ H R=>to σ H λx H1=>∃a kvs,x=.ref a/\((H1 a=some (.dK kvs)/\∀ob,(∀o v,H₀ a≠some (.aQ o v))->R (qJ a ob kvs) (upd H1 a (.aQ ob (.dK kvs))))\/(∃ob,H1 a=some (.aQ ob (.dK kvs))/\R (qJ a ob kvs) H1))
def xi{o:Expr}{to:TE}{elts:List Expr}{x1:Nat}{tp zf zd:Pos}(ho:PE X o to)(af:attributeBase o "items" X.env (eval o X.env)=eval o X.env:=by rfl)(ae:(zf.endLine ==zd.line)=true:=by rfl):PI X (.Tuple elts x1 tp) (.Call (.Attribute o "items" zf) [] [] zd) (iIm X.H₀ to):=by
 intro zc s σ H R I h;refine ZB3 af ae (Ay (ho zc s σ H _ I h) λv s1 ⟨x,H1,I1,r1,a,kvs,ex,q⟩=> ?_);subst ex;obtain rfl:v=Value.ref a:=r1;have rd:Rd H1 a (.dK kvs):=q.elim (λz=> .inl z.1) λ⟨ob,z,_⟩=> .inr ⟨ob,z⟩;obtain⟨z,lo,ws,kv,od,es,ep,g1,c1,c2,c3⟩:=iZ I1.aJ rd;have da:s1.heap.DictAt (Ec X.prog X.w) a ws ep:=⟨od,es,g1,c1,c2,c3⟩;have dd:s1.heap.DictOf (Ec X.prog X.w) a ws:=⟨od,es,ep,g1,c1,c2,c3⟩;refine⟨"dict","dict.items",P3,ZB5,PySem.F.type_dict_items,dd.typeIs,dd.mapOf.noDict,N9 rfl (PySem.evalArgs_none ?_)⟩;refine V4 ZB5 dd.typeIs PySem.F.entry_dict_items (PySem.F.args_dict_items_1 _) (meets_dict_items (Ec X.prog X.w) a lo) ⟨⟨ws,dd⟩, ?_⟩;refine wpAny_pyIter_items ⟨_,C1 _ rfl,rfl,rfl⟩ (da.push _) ?_;have gp:∀b o,s1.heap.get? b=some o->((s1.heap.push {cls:=.type "dict_items",data:=.fields #[.ref a]}).push {cls:=.type "dict_itemiterator",data:=.fields #[.none,.bool false,.ref a,.int 0 0,.int ws.length 0,.int ep 0,.none,.none]}).get? b=some o:=λb o e=>A4 _ (A4 _ e);have I2:=I1.kept (t':=s1.toks) gp;have zU:IsItemIter ((s1.heap.push {cls:=.type "dict_items",data:=.fields #[.ref a]}).push {cls:=.type "dict_itemiterator",data:=.fields #[.none,.bool false,.ref a,.int 0 0,.int ws.length 0,.int ep 0,.none,.none]}) (s1.heap.push {cls:=.type "dict_items",data:=.fields #[.ref a]}).objs.size a 0 kvs.length ep .none .none:=by
  rw[kv.length];exact C1 _ rfl
 have le:s1.heap.objs.size<=(s1.heap.push {cls:=.type "dict_items",data:=.fields #[.ref a]}).objs.size:=by
  have:=A6 (C1 s1.heap (o:={cls:=.type "dict_items",data:=.fields #[.ref a]}) rfl);exact Q2 this
 have free:=I1.aJ.fresh le;have fr:∀H2:Hp,H2 (s1.heap.push {cls:=.type "dict_items",data:=.fields #[.ref a]}).objs.size=none->∀b∈ [(s1.heap.push {cls:=.type "dict_items",data:=.fields #[.ref a]}).objs.size],Fs X zc H2 b:=λH2 hn b hb=>by
  have e:b=(s1.heap.push {cls:=.type "dict_items",data:=.fields #[.ref a]}).objs.size:=by simpa using hb
  subst e;exact I1.fL le hn
 rcases q with⟨hH,q⟩|⟨ob,hH,q⟩
 ·have nf:∀o v,X.H₀ a≠some (.aQ o v):=λo v e=>by
   have:=I1.base.cC a o v e;rw[hH]at this;cases this
  have ok:aP X.prog X.w (upd H1 a (.aQ od (.dK kvs))) ((s1.heap.push {cls:=.type "dict_items",data:=.fields #[.ref a]}).push {cls:=.type "dict_itemiterator",data:=.fields #[.none,.bool false,.ref a,.int 0 0,.int ws.length 0,.int ep 0,.none,.none]}) a (.aQ od (.dK kvs)):=⟨gp _ _ g1,z,lo,ws,kv,od,es,ep,gp _ _ g1,c1,c2,c3⟩;have I3:=Inv.kg I2 hH (λ_ z=>by cases z) (λ_ z=>by cases z) (λ_ z=>by cases z) nf ok;refine⟨_,_,_,qJ a od kvs,_,rfl,I3,JQ a _ od kvs c2,⟨_,_,zU⟩,fr _ ?_,q od nf⟩;rw[Ao (λz=>by rw[z,hH]at free;cases free)];exact free
 ·obtain⟨g2,_⟩:=(show aP X.prog X.w H1 s1.heap a (.aQ ob (.dK kvs)) from I1.aJ a _ hH);rw[g1]at g2;cases g2;exact⟨_,_,_,qJ a od kvs,H1,rfl,I2,JQ a _ od kvs c2,⟨_,_,zU⟩,fr _ free,q⟩
open Classical in
noncomputable def Er(a:Addr)(u:HO)(F:Hp):Hp:=λb=>if b=a/\F b≠none then some u else F b
section
variable{K:Frag}{EX:Ax}{a:Addr}{u u0:HO}{F F' G H:Hp}
def mq{b:Addr}(h:b≠a):Er a u F b=F b:=by unfold Er;rw[if_neg λz=>h z.1]
def jz(h:F a≠none):Er a u F a=some u:=by unfold Er;rw[if_pos ⟨rfl,h⟩]
def aO{b:Addr}:Er a u F b=none↔F b=none:=by
 unfold Er
 by_cases h:b=a/\F b≠none
 ·rw[if_pos h];exact⟨λz=>(nomatch z),λz=>absurd z h.2⟩
 ·rw[if_neg h]
def wB(h:F a≠none):Er a u F=upd F a u:=by
 funext b
 by_cases e:b=a
 ·subst e;rw[jz h,Bf]
 ·rw[mq e,Ao e]
def xh(s:aB F F'):aB (Er a u F) (Er a u F'):=λb o q=>by
 by_cases e:b=a
 ·subst e;cases h:F b with
  |none=>rw[aO.mpr h]at q;cases q
  |some x=>
   rw[jz (by rw[h];exact λz=>by cases z)]at q;cases q;exact jz (by rw[s _ _ h];exact λz=>by cases z)
 ·rw[mq e]at q⊢;exact s _ _ q
def VD{G' H':Hp}(s:Step G H G' H'):Step (Er a u G) (Er a u H) (Er a u G') (Er a u H'):=
 ⟨xh s.hh,xh s.gh,xh s.gg,λb n z=>aO.mpr (s.nw b (aO.mp n) λq=>z (aO.mpr q))⟩
mutual
theorem Ow.tagged{G' H':Hp}(hg:∀v d,aM K G v d->aM K G' v d):∀{v:V} {t:Tn} {S:AS},Ow K G H v t S->(∀b o,S b->H b=some o->H' b=some o)->Ow K G' H' v t S
 |_,_,_,.sh h,_=> .sh (hg _ _ h)
 |_,_,_,.lst h ha sub r,k=> .lst (k _ _ ha h) ha sub (aR.tagged hg r λb o hb=>k b o (sub b hb).1)
 |_,_,_,.tup h ha sub r,k=> .tup (k _ _ ha h) ha sub (aR.tagged hg r λb o hb=>k b o (sub b hb).1)
 |_,_,_,.aE h hk ha sub r,k=> .aE (k _ _ ha h) hk ha sub (aR.tagged hg r λb o hb=>k b o (sub b hb).1)
 |_,_,_,.obj hc h hl ha sub r,k=> .obj hc (k _ _ ha h) hl ha sub (aR.tagged hg r λb o hb=>k b o (sub b hb).1)
theorem aR.tagged{G' H':Hp}(hg:∀v d,aM K G v d->aM K G' v d):∀{vs:List V} {ts:List Tn} {S:AS},aR K G H vs ts S->(∀b o,S b->H b=some o->H' b=some o)->aR K G' H' vs ts S
 |_,_,_,.nil,_=> .nil
 |_,_,_,.cons h r dj s1 s2,k=> .cons (Ow.tagged hg h λb o hb=>k b o (s1 b hb)) (aR.tagged hg r λb o hb=>k b o (s2 b hb)) dj s1 s2
end
variable{H0:HB}{G0:Hp}{σ:Sg}{Δ:SE}{O:OS}{kvs:List (Ae×V)}{ob:Obj}
theorem Ev.tag(E:Ev K H0 G0 G H σ Δ O)(hG:G a=some (.dK kvs)):Ev K ⟨Er a (.aQ ob (.dK kvs)) H0.h,H0.b⟩ (Er a (.aQ ob (.dK kvs)) G0) (Er a (.aQ ob (.dK kvs)) G) (Er a (.aQ ob (.dK kvs)) H) σ Δ O:=by
 have nn:G a≠none:=by rw[hG];exact λz=>by cases z
 have hg:∀v d,aM K G v d->aM K (Er a (.aQ ob (.dK kvs)) G) v d:=λv d r=>by
  rw[wB nn];exact aM.tag hG (.inl rfl) (.inr ⟨ob,rfl⟩) r
 refine⟨VD E.st,E.len,λi d q=> ?_,λi s t q o=> ?_,λi b h=> ?_,E.dj,E.lk,E.lt⟩
 ·obtain⟨v,e,r⟩:=E.sh i d q;exact⟨v,e,hg v d r⟩
 ·obtain⟨v,e,r⟩:=E.ow i s t q o;refine⟨v,e,Ow.tagged hg r λb o hb q=> ?_⟩;have:b≠a:=λz=>by subst z;exact nn (E.out i b hb).1
  rw[mq this];exact q
 ·obtain⟨h1,h2,h3⟩:=E.out i b h;exact⟨aO.mpr h1,aO.mpr h2,λz=>h3 (aO.mp z)⟩
def Ev.ug(E:Ev K ⟨Er a (.aQ ob (.dK kvs)) H0.h,H0.b⟩ (Er a (.aQ ob (.dK kvs)) G0) G H σ Δ O)(hG:G a=some (.aQ ob (.dK kvs)))(h0:∀o,H0.h a=some o->o=.dK kvs)(g0:∀o,G0 a=some o->o=.dK kvs):Ev K H0 G0 (upd G a (.dK kvs)) (upd H a (.dK kvs)) σ Δ O:=by
 have hg:∀v d,aM K G v d->aM K (upd G a (.dK kvs)) v d:=λv d r=>aM.tag hG (.inr ⟨ob,rfl⟩) (.inl rfl) r;have ne:∀b,G b=none->b≠a:=λb n z=>by subst z;rw[hG]at n;cases n
 refine⟨⟨λb o q=> ?_,yD E.st.gh _ _,λb o q=> ?_,λb n z=> ?_⟩,E.len,λi d q=> ?_,λi s t q o=> ?_,λi b h=> ?_,E.dj,E.lk,E.lt⟩
 ·by_cases e:b=a
  ·subst e;rw[Bf,h0 o q]
  ·rw[Ao e];exact E.st.hh b o ((mq e).trans q)
 ·by_cases e:b=a
  ·subst e;rw[Bf,g0 o q]
  ·rw[Ao e];exact E.st.gg b o ((mq e).trans q)
 ·have n1:=E.st.nw b (aO.mpr n) λq=>z (aO.mp q);rw[Ao (ne b n1)];exact n1
 ·obtain⟨v,e,r⟩:=E.sh i d q;exact⟨v,e,hg v d r⟩
 ·obtain⟨v,e,r⟩:=E.ow i s t q o;refine⟨v,e,Ow.tagged hg r λb o hb q=> ?_⟩;rw[Ao (ne b (E.out i b hb).1)];exact q
 ·obtain⟨h1,h2,h3⟩:=E.out i b h;have n:=ne b h1;exact⟨by rw[Ao n];exact h1,aO.mp h2,by rw[Ao n];exact h3⟩
def LH(H₀:Hp)(D:Ends):Ends:=
 ⟨λ σ H=>D.nx σ H\/∃a ob kvs,H a=some (.aQ ob (.dK kvs))/\(∀o v,H₀ a≠some (.aQ o v))/\D.nx σ (upd H a (.dK kvs)),
  λv H=>D.rt v H\/∃a ob kvs,H a=some (.aQ ob (.dK kvs))/\(∀o v,H₀ a≠some (.aQ o v))/\D.rt v (upd H a (.dK kvs)),D.bk,D.ct⟩
def DH{st:Stmt}{t:TS}(h:PS X st t):PS X st λD σ H=>t (LH X.H₀ D) σ H:=λzc s σ H D I q=>Ay (h zc s σ H _ I q) λf s' hq=>by
 have un:∀{σ':Sg} {H':Hp} {a:Addr} {ob:Obj} {kvs:List (Ae×V)},Inv X zc σ' H' s'->H' a=some (.aQ ob (.dK kvs))->(∀o v,X.H₀ a≠some (.aQ o v))->Inv X zc σ' (upd H' a (.dK kvs)) s':=λI' e nf=>by
  obtain⟨_,Nx⟩:=(show aP X.prog X.w _ s'.heap _ (.aQ _ (.dK _)) from I'.aJ _ _ e);exact Inv.kg I' e (λ_ z=>by cases z) (λ_ z=>by cases z) (λ_ z=>by cases z) nf Nx
 cases f with
 |next=>
  obtain⟨σ',H',I',d|⟨a,ob,kvs,e,nf,d⟩⟩:=hq
  ·exact⟨σ',H',I',d⟩
  ·exact⟨σ',_,un I' e nf,d⟩
 |ret u=>
  obtain⟨v,σ',H',I',r,d|⟨a,ob,kvs,e,nf,d⟩⟩:=hq
  ·exact⟨v,σ',H',I',r,d⟩
  ·exact⟨v,σ',_,un I' e nf,r,d⟩
 |brk=>exact hq
 |cont=>exact hq
def lj:Fl->Fl
 | .nx Δ=> .nx Δ
 | .rt (.sh d)=> .rt (.sh d)
 | .rv d Δ=> .rv d Δ
 |_=> .no
theorem Fin.tag{D:Ends}{H₀ G1:Hp}{r:Fl}(nf:∀o v,H₀ a≠some (.aQ o v))(hG:G1 a=some (.dK kvs))(h0:∀o,H0.h a=some o->o=.dK kvs)(g0:∀o,G0 a=some o->o=.dK kvs)(q:Fin K EX H0 G0 G1 D (lj r)):Fin K EX ⟨Er a (.aQ ob (.dK kvs)) H0.h,H0.b⟩ (Er a (.aQ ob (.dK kvs)) G0) (Er a (.aQ ob (.dK kvs)) G1) (LH H₀ D) r:=by
 have nn:G1 a≠none:=by rw[hG];exact λz=>by cases z
 have at':∀{G:Hp},aB (Er a (.aQ ob (.dK kvs)) G1) G->G a=some (.aQ ob (.dK kvs))/\aB G1 (upd G a (.dK kvs)):=λ{G} s=>by
  refine⟨s _ _ (jz nn),λb o q=> ?_⟩
  by_cases e:b=a
  ·subst e;rw[Bf,<-hG,q]
  ·rw[Ao e];exact s _ _ ((mq e).trans q)
 cases r with
 |nx Δ=>exact λ σ G H O E s=> .inr ⟨a,ob,kvs,E.st.gh _ _ (at' s).1,nf,q σ _ _ O (E.ug (at' s).1 h0 g0) (at' s).2⟩
 |rv d Δ=>exact λv σ G H O E s r=> .inr ⟨a,ob,kvs,E.st.gh _ _ (at' s).1,nf,q v σ _ _ O (E.ug (at' s).1 h0 g0) (at' s).2 (aM.tag (at' s).1 (.inr ⟨ob,rfl⟩) (.inl rfl) r)⟩
 |bk Δ=>exact q.elim
 |ct Δ=>exact q.elim
 |ex x Δ=>exact q.elim
 |no=>exact q.elim
 |rt w=>
  cases w with
  |ow d=>exact q.elim
  |tr t=>exact q.elim
  |sh d=>
   intro v G2 H2 st r;have q:∀v G' H',Step G0 H0.h G' H'->aM K G' v d->D.rt v H':=q;cases hg:G0 a with
   |some o=>
    have e0:=g0 o hg;subst e0;have gt:G2 a=some (.aQ ob (.dK kvs)):=st.gg _ _ (jz (by rw[hg];exact λz=>by cases z));refine .inr ⟨a,ob,kvs,st.gh _ _ gt,nf,q v (upd G2 a (.dK kvs)) _ ⟨λb o q=> ?_,yD st.gh _ _,λb o q=> ?_,λb n z=> ?_⟩ (aM.tag gt (.inr ⟨ob,rfl⟩) (.inl rfl) r)⟩
    ·by_cases e:b=a
     ·subst e;rw[Bf,h0 o q]
     ·rw[Ao e];exact st.hh b o ((mq e).trans q)
    ·by_cases e:b=a
     ·subst e;rw[Bf,g0 o q]
     ·rw[Ao e];exact st.gg b o ((mq e).trans q)
    ·have n1:=st.nw b (aO.mpr n) λq=>z (aO.mp q);rw[Ao (λz=>by subst z;rw[gt]at n1;cases n1)];exact n1
   |none=>
    cases hh:H0.h a with
    |some o=>
     have e0:=h0 o hh;subst e0;have ht:H2 a=some (.aQ ob (.dK kvs)):=st.hh _ _ (jz (by show H0.h a≠none;rw[hh];exact λz=>by cases z));have gn:G2 a=none:=st.nw a (aO.mpr hg) λz=>by have:=aO.mp z;rw[hh]at this;cases this
     refine .inr ⟨a,ob,kvs,ht,nf,q v G2 _ ⟨λb o q=> ?_,λb o q=> ?_,λb o q=> ?_,λb n z=>st.nw b (aO.mpr n) λq=>z (aO.mp q)⟩ r⟩
     ·by_cases e:b=a
      ·subst e;rw[Bf,h0 o q]
      ·rw[Ao e];exact st.hh b o ((mq e).trans q)
     ·rw[Ao (λe=>by subst e;rw[gn]at q;cases q)];exact st.gh b o q
     ·exact st.gg b o ((mq (λe=>by subst e;rw[hg]at q;cases q)).trans q)
    |none=>
     refine .inl (q v G2 H2 ⟨λb o q=> ?_,st.gh,λb o q=> ?_,λb n z=>st.nw b (aO.mpr n) λq=>z (aO.mp q)⟩ r)
     ·exact st.hh b o ((mq (λe=>by subst e;rw[hh]at q;cases q)).trans q)
     ·exact st.gg b o ((mq (λe=>by subst e;rw[hg]at q;cases q)).trans q)
end
def Rn:D->R (List D)
 | .aE aA=> .ok (aA.map λp=> .tup [kD p.1,p.2])
 |_=> .no
def jP(f:FE):FI:=λ δ=>(f δ).bind λw=>Rn w.d
def zI{G:Hp}{a:Addr}{ob:Obj}{kvs:List (Ae×V)}{aA:List (Ae×D)}(ga:G a=some (.aQ ob (.dK kvs)))(hk:kvs.map (·.1)=aA.map (·.1))(r:aC K G (kvs.map (·.2)) (aA.map (·.2))):Gm K G (qJ a ob kvs) (aA.map λp=> .tup [kD p.1,p.2]):=λG' H' s1 s2 i=>by
 have gH:H' a=some (.aQ ob (.dK kvs)):=s2 _ _ (s1 _ _ ga);have zj:aA.length=kvs.length:=by
  have:=K4 List.length hk;rw[A3,A3]at this;exact this.symm
 refine⟨λd e=>⟨⟨gH, ?_⟩,λx Pg y=> ?_⟩,λe=>⟨gH,by rw[A3]at e;lia⟩⟩
 ·have:=(B5.mp e).1;rw[A3]at this;lia
 ·obtain⟨p,q,hp,rfl,hq,rfl⟩:=y;rw[A9]at e;obtain⟨q',eO,rfl⟩:=E8.mp e;have e1:(kvs.map (·.1))[i]? =some q.1:=by rw[A9,hq];rfl
  have e2:(aA.map (·.1))[i]? =some q'.1:=by rw[A9,eO];rfl
  rw[hk,e2]at e1;have e3:q'.1=q.1:=K1 e1;obtain⟨v,e4,hv⟩:=r.get (show(aA.map (·.2))[i]? =some q'.2 by rw[A9,eO];rfl);rw[A9,hq]at e4;have e5:q.2=v:=K1 e4;subst e5;rw[e3];exact⟨_,Step.new s2 hp _,.tup (dD.of Bf) (.cons (oE _) (.cons (hv.mono (s1.trans (jV (s2.free hp) _))) .nil))⟩
def nQ(js:List Nat)(f:FE)(fg:FG)(g:FS):FS:=λ Δ=>match jP f (At Δ) with
 | .ok ds=>lj (De fg g ds Δ)
 |_=>match jP f (At (aD js Δ)) with
  | .ok ds=>lj (De fg g ds (aD js Δ))
  |_=> .no
def HV{f:FE}{δ:DE}{ds:List D}(h:jP f δ=.ok ds):∃w aA,f δ=.ok w/\w.d=.aE aA/\ds=aA.map λp=> .tup [kD p.1,p.2]:=by
 unfold jP at h;cases e:f δ with
 |ok w=>
  rw[e]at h;simp only[R.aI]at h;cases e2:w.d with
  |aE aA=>rw[e2]at h;cases h;exact⟨w,aA,rfl,e2,rfl⟩
  |_=>rw[e2]at h;cases h
 |ex x=>rw[e]at h;cases h
 |no=>rw[e]at h;cases h
def Fin.Nh{EX:Ax}{H0:HB}{G0 G1 H₀:Hp}{D:Ends}{r:Fl}(q:Fin K EX H0 G0 G1 D (lj r)):Fin K EX H0 G0 G1 (LH H₀ D) r:=by
 cases r with
 |nx Δ=>exact λ σ G H O E s=> .inl (q σ G H O E s)
 |rv d Δ=>exact λv σ G H O E s r=> .inl (q v σ G H O E s r)
 |rt w=>
  cases w with
  |sh d=>exact λv G' H' st r=> .inl (q v G' H' st r)
  |ow d=>exact q.elim
  |tr t=>exact q.elim
 |bk Δ=>exact q.elim
 |ct Δ=>exact q.elim
 |ex x Δ=>exact q.elim
 |no=>exact q.elim
section
variable{X:Cx}{EX:Ax}{pos:Pos}{o:Expr}{elts:List Expr}{x1:Nat}{tp zf zd:Pos}
def xU{f:FE}{fg:FG}{g:FS}{D:Ends}{σ:Sg}{H0:HB}{G0 G:Hp}{Δ:SE}{O:OS}{ds:List L3.D}(E:Ev X.K H0 G0 G H σ Δ O)(hd:jP f (At Δ)=.ok ds)(q:Fin X.K EX H0 G0 G D (lj (De fg g ds Δ))):CM (iIm X.H₀ (tD X.K EX f)) (tG X.K EX fg) (tS X.K EX g) (LH X.H₀ D) σ H:=by
 obtain⟨w,aA,ew,ed,rfl⟩:=HV hd;refine⟨G,At Δ,E.st.gh,E.dU, ?_⟩;rw[ew];refine WP.intro λv G' H' st r=> ?_;rw[ed]at r;cases r with
 |aE hr hk rr=>
  rename_i a kvs;have E':=E.grow st;refine⟨a,kvs,rfl, ?_⟩;rcases hr with hr|⟨ob,hr⟩
  ·have hH:=st.gh _ _ hr;refine .inl ⟨hH,λob nf=> ?_⟩;have nG:G' a≠none:=by rw[hr];exact λz=>by cases z
   have nH:H' a≠none:=by rw[hH];exact λz=>by cases z
   have it:Gm X.K (Er a (.aQ ob (.dK kvs)) G') (qJ a ob kvs) (aA.map λp=> .tup [kD p.1,p.2]):=by
    refine zI (jz nG) hk ?_;rw[wB nG];exact aC.tag hr (.inl rfl) (.inr ⟨ob,rfl⟩) rr
   have L:=uG (E'.tag (ob:=ob) hr) it (Fin.tag (ob:=ob) nf hr (λo e=>by have:=E'.st.hh _ _ e;rw[hH]at this;exact(K1 this).symm) (λo e=>by have:=E'.st.gg _ _ e;rw[hr]at this;exact(K1 this).symm) (Fin.mono st.gg q));rw[wB nH]at L;exact L
  ·exact .inr ⟨ob,st.gh _ _ hr,uG E' (zI hr hk rr) (Fin.Nh (Fin.mono st.gg q))⟩
def Tw(js:List Nat){body:List Stmt}{f:FE}{fg:FG}{g:FS}(hp:PassesOwn (model X.prog X.w) X.A X.env X.xe)(hc:X.calm=true)(ho:ED X EX o f)(hg:GD X EX (.Tuple elts x1 tp) fg)(hb:BD X EX body g)
  (hs:∀x,foldedSetIterable (.Call (.Attribute o "items" zf) [] [] zd) X.env x=pure x:=by intro _;rfl) (af:attributeBase o "items" X.env (eval o X.env)=eval o X.env:=by rfl) (ae:(zf.endLine ==zd.line)=true:=by rfl):SD X EX (.For (.Tuple elts x1 tp) (.Call (.Attribute o "items" zf) [] [] zd) body [] pos) (nQ js f fg g):=
 PS.imp (DH (rF hp hc (xi ho af ae) hg hb hs)) λD σ H ⟨H0,G0,G,Δ,O,E,q⟩=>by
  unfold nQ at q;cases e1:jP f (At Δ) with
  |ok ds=>rw[e1]at q;exact xU E e1 q
  |ex x=>
   rw[e1]at q;obtain⟨G1,O1,sg,E1⟩:=E.aD js;cases e2:jP f (At (aD js Δ)) with
   |ok ds=>simp only[e2]at q;exact xU E1 e2 (Fin.mono sg q)
   |ex x=>simp only[e2]at q;exact q.elim
   |no=>simp only[e2]at q;exact q.elim
  |no=>
   rw[e1]at q;obtain⟨G1,O1,sg,E1⟩:=E.aD js;cases e2:jP f (At (aD js Δ)) with
   |ok ds=>simp only[e2]at q;exact xU E1 e2 (Fin.mono sg q)
   |ex x=>simp only[e2]at q;exact q.elim
   |no=>simp only[e2]at q;exact q.elim
def WY{f0:FE}(ho:ED X Cm o f0)(af:attributeBase o "items" X.env (eval o X.env)=eval o X.env:=by rfl)(ae:(zf.endLine ==zd.line)=true:=by rfl):Gj X Fe (.Tuple elts x1 tp) (.Call (.Attribute o "items" zf) [] [] zd) (jP f0):=EO λzc s σ G H δ ds I g0 h0 ek=>by
 obtain⟨w,aA,ew,ed,rfl⟩:=HV ek;have tq:tD X.K Cm f0 σ H λx H1=>∃a kvs,x=.ref a/\((H1 a=some (.dK kvs)/\∀ob,(∀o v,X.H₀ a≠some (.aQ o v))->∃G2,ZD X G H G2 (upd H1 a (.aQ ob (.dK kvs)))/\Gm X.K G2 (qJ a ob kvs) (aA.map λp=> .tup [kD p.1,p.2]))\/(∃ob,H1 a=some (.aQ ob (.dK kvs))/\∃G2,ZD X G H G2 H1/\Gm X.K G2 (qJ a ob kvs) (aA.map λp=> .tup [kD p.1,p.2]))):=by
  refine⟨G,δ,g0,h0, ?_⟩;rw[ew];refine WP.intro λv G1 H1 st r=> ?_;rw[ed]at r;cases r with
  |aE hr mI rr=>
   rename_i a kvs;refine⟨a,kvs,rfl, ?_⟩;rcases hr with hr|⟨ob,hr⟩
   ·exact .inl ⟨st.gh _ _ hr,λob nf=>⟨upd G1 a (.aQ ob (.dK kvs)),⟨a,ob,kvs,G1,H1,st,.inr ⟨hr,nf,rfl,rfl⟩⟩,zI Bf mI (aC.tag hr (.inl rfl) (.inr ⟨ob,rfl⟩) rr)⟩⟩
   ·exact .inr ⟨ob,st.gh _ _ hr,G1,⟨a,ob,kvs,G1,H1,st,.inl ⟨rfl,rfl⟩⟩,zI hr mI rr⟩
 refine Ay (xi (elts:=elts) (x1:=x1) (tp:=tp) ho af ae zc s σ H (λJ H2=>∃G2,ZD X G H G2 H2/\Gm X.K G2 J (aA.map λp:Ae×L3.D=> .tup [kD p.1,p.2])) I tq) λv s1 h1=>Ay h1 λjT s2 h2=> ?_;obtain⟨it,fp,tn,J,H2,e,I2,T,t0,fpk,G2,z,tR⟩:=h2;exact⟨it,fp,tn,J,H2,G2,e,I2,Turn.z T,t0,fpk,z,tR⟩
end
end L3
namespace L3
open PySem PySem.W PyProof.Rows
variable{K:Frag}{fd:FuncData}{mg:AB}{us:List Value}{base:Heap}{H:Hp}{X:Cx}{pos:Pos}{v:V}
section
variable{N:Nat}{key:Nat->Int}{cmp:Nat->Nat->(Bool->Shared->Prop)->Shared->Prop}{s:Shared}
structure aS(N:Nat)(p:Array Nat):Prop where
 size:p.size=N
 perm:p.toList.Perm (List.range N)
noncomputable abbrev kp(key:Nat->Int)(p:Array Nat)(i:Nat):Int:=key (p.getD i 0)
def aS.lt{p:Array Nat}(g:aS N p){i:Nat}(h:i < N):p.getD i 0 < N:=by
 have h':i < p.size:=by rw[g.size];exact h
 have e:p.getD i 0=p[i]:=by simp[Array.getD,h']
 rw[e];exact N5.mp (g.perm.mem_iff.mp (by simp))
def aS.inj{p:Array Nat}(g:aS N p){i j:Nat}(hi:i < N)(hj:j < N)(e:p.getD i 0=p.getD j 0):i=j:=by
 have h1:i < p.size:=by rw[g.size];exact hi
 have h2:j < p.size:=by rw[g.size];exact hj
 have e1:p.getD i 0=p[i]:=by simp[Array.getD,h1]
 have e2:p.getD j 0=p[j]:=by simp[Array.getD,h2]
 rw[e1,e2]at e;have nd:p.toList.Nodup:=g.perm.nodup_iff.mpr List.nodup_range;have pw:=U3.mp nd;rcases V8 i j with h|h|h
 ·exact absurd (by rw[T5,T5];exact e) (pw i j _ _ h)
 ·exact h
 ·exact absurd (by rw[T5,T5];exact e.symm) (pw j i _ _ h)
def rN{p q:Array Nat}{i j:Nat}(h:p[i]? =q[j]?):p.getD i 0=q.getD j 0:=by
 rw[Y5,Y5,h]
def aS.rev{p:Array Nat}(g:aS N p)(i j:Nat):aS N (kas_rev p i j):=⟨(mirror_size _ _ _ _).trans g.size,(Z3.mp (mirror_perm p i j _)).trans g.perm⟩
def aS.bub{p:Array Nat}(g:aS N p)(i j:Nat):aS N (bubble p i j):=⟨(bubble_size _ _ _).trans g.size,(Z3.mp (bubble_perm p i j)).trans g.perm⟩
def eP(key:Nat->Int)(p:Array Nat)(n:Nat):Prop:=∀i j,i < j->j < n->kp key p i < kp key p j
def uf(key:Nat->Int)(p:Array Nat)(n:Nat):Prop:=∀i j,i < j->j < n->kp key p j < kp key p i
def DG(N:Nat)(key:Nat->Int)(cmp:Nat->Nat->(Bool->Shared->Prop)->Shared->Prop)(s:Shared):Prop:=(∀i j,i < N->j < N->key i=key j->i=j)/\∀i j C,i < N->j < N->i≠j->C (decide (key i < key j)) s->cmp i j C s
variable(T:DG N key cmp s)
include T
theorem oP{p:Array Nat}(g:aS N p){i j:Nat}(hi:i < N)(hj:j < N)(hn:i≠j){C:Bool->Shared->Prop}(h1:kp key p i < kp key p j->C true s)(h2:kp key p j < kp key p i->C false s):cmp (p.getD i 0) (p.getD j 0) C s:=by
 refine T.2 _ _ _ (g.lt hi) (g.lt hj) (λe=>hn (g.inj hi hj e)) ?_
 by_cases h:key (p.getD i 0) < key (p.getD j 0)
 ·rw[C9 h];exact h1 h
 ·rw[C5 h];have:key (p.getD i 0)≠key (p.getD j 0):=λe=>hn (g.inj hi hj (T.1 _ _ (g.lt hi) (g.lt hj) e));exact h2 (show key _ < key _ by lia)
theorem eP.up{p:Array Nat}{n:Nat}(h:eP key p n)(h1:1<=n)(hn:kp key p (n - 1) < kp key p n):eP key p (n + 1):=λi j gL hj=>by
 by_cases e:j=n
 ·subst e
  by_cases e2:i=j - 1
  ·subst e2;exact hn
  ·exact V9 (h i (j - 1) () ()) hn
 ·exact h i j gL ()
theorem uf.up{p:Array Nat}{n:Nat}(h:uf key p n)(h1:1<=n)(hn:kp key p n < kp key p (n - 1)):uf key p (n + 1):=λi j gL hj=>by
 by_cases e:j=n
 ·subst e
  by_cases e2:i=j - 1
  ·subst e2;exact hn
  ·exact V9 hn (h i (j - 1) () ())
 ·exact h i j gL ()
theorem vM{p:Array Nat}(g:aS N p):∀(f n:Nat) {Q:Nat->Shared->Prop},1<=n->n + f<=N->eP key p n->(∀m,n<=m->m<=n + f->eP key p m->(m < n + f->kp key p m < kp key p (m - 1))->Q m s)->(kas_asc p f n).kasWp cmp Q s
 |0,n,Q,_,_,ha,hq=>hq n (B6 _) (B6 _) ha λh=>absurd h (F3 _)
 |f + 1,n,Q,h1,hN,ha,hq=>by
  show cmp (p.getD n 0) (p.getD (n - 1) 0) _ s;refine oP T g () () () (λh=> ?_) λh=> ?_
  ·simp only[if_true];exact hq n (B6 _) () ha λ_=>h
  ·simp only[L1,P1];exact vM g f (n + 1) () () (eP.up T ha h1 h) λm a1 a2 a3 a4=>hq m () () a3 λhm=>a4 ()
theorem GL{p:Array Nat}(g:aS N p):∀(f n:Nat) {Q:Array Nat×Nat×Nat->Shared->Prop},1<=n->n + f<=N->uf key p n->(∀m,n<=m->m<=n + f->uf key p m->Q (p,m,0) s)->(kas_desc f p n 0).kasWp cmp Q s
 |0,n,Q,_,_,ha,hq=>hq n (B6 _) (B6 _) ha
 |f + 1,n,Q,h1,hN,ha,hq=>by
  show cmp (p.getD n 0) (p.getD (n - 1) 0) _ s;refine oP T g () () () (λh=> ?_) λh=> ?_
  ·simp only[if_true,F3,gt_iff_lt,P1];exact GL g f (n + 1) () () (uf.up T ha h1 h) λm a1 a2 a3=>hq m () () a3
  ·simp only[L1,P1];show cmp (p.getD (n - 1) 0) (p.getD n 0) _ s;refine oP T g () () () (λh'=> ?_) λh'=> ?_
   ·simp only[if_true];exact hq n (B6 _) () ha
   ·exact absurd (V9 h h') (Int.lt_irrefl _)
theorem Tv{p:Array Nat}(g:aS N p){n:Nat}(hn:n<=N)(h:uf key p n):eP key (kas_rev p 0 n) n:=λi j gL hj=>by
 have at':∀k,k < n->kp key (kas_rev p 0 n) k=kp key p (n - 1 - k):=λk hk=>by
  have:=getElem?_mirror_all (xs:=p) (i:=0) (j:=n) (by rw[g.size];exact hn) k;rw[if_pos ⟨K5 _,hk⟩,P6]at this;exact K4 key (rN this)
 rw[at' i (),at' j hj];exact h (n - 1 - j) (n - 1 - i) () ()
theorem Tu{p:Array Nat}(g:aS N p){n:Nat}{Q:Nat×Array Nat->Shared->Prop}(h1:1<=n)(hn:n + 1<=N)(hd:uf key p (n + 1))(hq:∀m q,1<=m->m<=N->aS N q->eP key q m->Q (m,q) s):(kas_descPart n N p).kasWp cmp Q s:=by
 unfold kas_descPart;rw[U9];refine GL T g (N - (n + 1)) (n + 1) () () hd λm a1 a2 a3=> ?_;simp only[gt_iff_lt,F3,P1];unfold kas_tail3;rw[U9];refine vM T (g.rev 0 m) (N - m) m () () (Tv T g () a3) λm' b1 b2 b3 _=> ?_;exact hq m' _ () () (g.rev 0 m) b3
theorem VC{p:Array Nat}(g:aS N p){Q:Nat×Array Nat->Shared->Prop}(h1:1<=N)(hq:∀m q,1<=m->m<=N->aS N q->eP key q m->Q (m,q) s):(kas_count N p).kasWp cmp Q s:=by
 unfold kas_count;rw[U9];refine vM T g (N - 1) 1 (B6 _) () (λi j gL hj=>by lia) λn a1 a2 a3 a4=> ?_
 by_cases e:n=N
 ·subst e;simp only[M4,if_true];exact hq n p a1 (B6 _) g a3
 ·have e':(n ==N)=false:=by simpa using e
  simp only[e',L1,P1]
  by_cases h2:n > 1
  ·rw[if_pos h2];show cmp (p.getD 0 0) (p.getD (n - 1) 0) _ s;refine oP T g () () () (λh=> ?_) λh=> ?_
   ·simp only[if_true];exact hq n p a1 () g a3
   ·exact absurd (V9 h (a3 0 (n - 1) () ())) (Int.lt_irrefl _)
  ·rw[if_neg h2];have:n=1:=by lia
   subst this;have NY:=a4 ();exact Tu T g (B6 _) () (λi j gL hj=>by
    have:i=0/\j=1:=by lia
    obtain⟨rfl,rfl⟩:=this;exact NY) hq
theorem xg{p:Array Nat}(g:aS N p){k:Nat}(hk:k < N):∀(f l r:Nat) {Q:Nat->Shared->Prop},r - l<=f->l<=r->r<=k->(∀i,i < l->kp key p i < kp key p k)->(∀i,r<=i->i < k->kp key p k < kp key p i)->(∀m,m<=k->(∀i,i < m->kp key p i < kp key p k)->(∀i,m<=i->i < k->kp key p k < kp key p i)->eP key p k->Q m s)->eP key p k->(kas_place p k f l r).kasWp cmp Q s
 |0,l,r,Q,hf,hlr,hrk,h1,h2,hq,ha=>hq l () h1 (λi hi hk=>h2 i () hk) ha
 |f + 1,l,r,Q,hf,hlr,hrk,h1,h2,hq,ha=>by
  unfold kas_place
  by_cases e:l≥r
  ·rw[if_pos e];exact hq l () h1 (λi hi hk=>h2 i () hk) ha
  ·rw[if_neg e];show cmp (p.getD k 0) (p.getD ((l + r) / 2) 0) _ s;refine oP T g hk () () (λh=> ?_) λh=> ?_
   ·simp only[if_true];refine xg g hk f l ((l + r) / 2) () () () h1 (λi hi hik=> ?_) hq ha
    by_cases e2:i=(l + r) / 2
    ·subst e2;exact h
    ·exact V9 h (ha _ i () hik)
   ·simp only[L1,P1];refine xg g hk f ((l + r) / 2 + 1) r () () hrk (λi hi=> ?_) h2 hq ha
    by_cases e2:i=(l + r) / 2
    ·subst e2;exact h
    ·exact V9 (ha i _ () ()) h
theorem Tt{p:Array Nat}(g:aS N p){k l:Nat}(hk:k < N)(hl:l<=k)(h1:∀i,i < l->kp key p i < kp key p k)(h2:∀i,l<=i->i < k->kp key p k < kp key p i)(ha:eP key p k):eP key (bubble p k (k - l)) (k + 1):=λi j gL hj=>by
 have b:=getElem?_bubble (xs:=p) (src:=k) (by rw[g.size];exact hk) (k - l) ();have e:k - (k - l)=l:=by lia
 have Bm:kp key (bubble p k (k - l)) l=kp key p k:=K4 key (rN (by rw[b l,e,if_pos rfl]));have MF:∀x,x < l->kp key (bubble p k (k - l)) x=kp key p x:=λx hx=>K4 key (rN (by rw[b x,e,if_neg (),if_neg ()]));have at2:∀x,l < x->x<=k->kp key (bubble p k (k - l)) x=kp key p (x - 1):=λx hx hxk=>K4 key (rN (by rw[b x,e,if_neg (),if_pos ⟨hx,hxk⟩]));rcases V8 i l with h|h|h
 ·rw[MF i h];rcases V8 j l with h'|h'|h'
  ·rw[MF j h'];exact ha i j gL ()
  ·rw[h',Bm];exact h1 i h
  ·rw[at2 j h' ()];exact ha i (j - 1) () ()
 ·rw[h,Bm,at2 j () ()];exact h2 (j - 1) () ()
 ·rw[at2 i h (),at2 j () ()];exact ha (i - 1) (j - 1) () ()
theorem EE:∀(f:Nat) (p:Array Nat) (k:Nat) {Q:Array Nat->Shared->Prop},aS N p->f + k=N->eP key p k->(∀q,aS N q->eP key q N->Q q s)->(kas_bin f p k).kasWp cmp Q s
 |0,p,k,Q,g,hk,ha,hq=>hq p g (by rw[P6]at hk;rw[<-hk];exact ha)
 |f + 1,p,k,Q,g,hk,ha,hq=>by
  unfold kas_bin;rw[U9];refine xg T g () k 0 k () () (B6 _) (λi hi=>by lia) (λi h1 h2=>by lia) (λm a1 a2 a3 a4=> ?_) ha;exact EE f _ (k + 1) (g.bub k (k - m)) () (Tt T g () a1 a2 a3 a4) hq
theorem Ts(h1:1<=N){Q:Array Nat->Shared->Prop}(hq:∀q,aS N q->eP key q N->Q q s):(kas_sort N).kasWp cmp Q s:=by
 unfold kas_sort;rw[U9];have g0:aS N (List.toArray (List.range N)):=⟨by simp,by simp⟩;refine VC T g0 h1 λm q a1 a2 a3 a4=> ?_
 by_cases h:m < N
 ·rw[if_pos h];have e:max m 1=m:=by lia
  rw[e];exact EE T (N - m) q m a3 () a4 hq
 ·rw[if_neg h];have:m=N:=by lia
  subst this;exact hq q a3 a4
end
end L3
namespace L3
open PySem PySem.W PySem.Spec PyProof.Rows
variable{K:Frag}{fd:FuncData}{mg:AB}{us:List Value}{base:Heap}{H:Hp}{X:Cx}{pos:Pos}{v:V}
section
variable{prog:Program}{w:World}{A:Around}{E:AA}{s:Shared}{vs fs:List Value}{kz:List Int}
theorem wA{h:Heap}:∀{vs fs:List Value} {kz:List Int} {i:Nat},KatTups h vs fs->IntsAre fs kz->i < vs.length->∃a o xs n t tl,vs.getD i Value.none=.ref a/\h.get? a=some o/\o.data=.seq xs n/\xs.toList=.int (kz.getD i 0) t::tl
 | [],_,_,i,_,_,hi=>absurd hi (ON _)
 |v::vs,[],_,_,t,_,_=>t.elim
 |v::vs,f::fs,kz,i,t,ia,hi=>by
  obtain⟨⟨a,o,xs,n,rfl,ho,hc,hd,hf⟩,t⟩:=t;cases ia with
  |cons z tk ia=>
   cases i with
   |zero=>
    refine⟨a,o,xs,n,tk,xs.toList.tail,rfl,ho,hd, ?_⟩;have e:xs.toList[0]? =some (.int z tk):=by rw[S5];exact hf
    cases hx:xs.toList with
    |nil=>rw[hx]at e;cases e
    |cons y ys=>rw[hx]at e;cases e;rfl
   |succ i=>
    obtain⟨a',o',xs',n',t',LK,e1,e2,e3,e4⟩:=wA (i:=i) t ia (by simpa using hi);exact⟨a',o',xs',n',t',LK,e1,e2,e3,e4⟩
def Yl(t:KatTups s.heap vs fs)(ia:IntsAre fs kz)(nd:kz.Nodup)(hl:kz.length=vs.length):DG vs.length (λi=>kz.getD i 0) (kas_ask prog w A (tuples' true) vs) s:=by
 have inj:∀i j,i < vs.length->j < vs.length->kz.getD i 0=kz.getD j 0->i=j:=λi j hi hj e=>by
  have h1:i < kz.length:=by lia
  have h2:j < kz.length:=by lia
  have e1:kz.getD i 0=kz[i]:=by simp[h1]
  have e2:kz.getD j 0=kz[j]:=by simp[h2]
  rw[e1,e2]at e;have pw:=U3.mp nd;rcases V8 i j with h|h|h
  ·exact absurd e (pw i j h1 h2 h)
  ·exact h
  ·exact absurd e.symm (pw j i h2 h1 h)
 refine⟨inj,λi j C hi hj hn hC=> ?_⟩;obtain⟨a,o,xs,n,tk,tl,e1,e2,e3,e4⟩:=wA t ia hi;obtain⟨a',o',xs',n',tk',LK,f1,f2,f3,f4⟩:=wA t ia hj;unfold kas_ask;rw[e1,f1];refine kat_lt e2 e3 f2 f3 ?_;rw[e4,f4];have ne:(kz.getD i 0 ==kz.getD j 0)=false:=by
  rw[O6];exact λz=>hn (inj i j hi hj z)
 show wpAny _ _ (eqBool _ _) _ _ _;refine wpAny_eqBool_int ?_;rw[ne];simp only[L1,P1];exact oneLt_int hC
def Yk{a:Addr}{n:Nat}{P:PySem.Fin->Shared->Prop}(ho:s.heap.get? a=some (seqObj "list" vs.toArray n))(ht:∀h':Heap,(∀b o,b≠a->s.heap.get? b=some o->h'.get? b=some o)->KatTups h' vs fs)(ia:IntsAre fs kz)(nd:kz.Nodup)(hl:kz.length=vs.length)(mJ:vs.length < 64)
  (h:∀p:Array Nat,aS vs.length p->eP (λi=>kz.getD i 0) p vs.length->P (.done (.ret .none)) {s with heap:=sortedHeap s.heap a vs (List.toArray (p.toList.map λi=>vs.getD i Value.none))}):
  wpAny (model prog w) A (Builtin.«list.sort» ⟨[.ref a],[]⟩) P E s:=by
 rw[list_sort_plain];have ha:a < s.heap.objs.size:=A6 ho;refine A5 (OD ho rfl ?_);refine A5 (X3 ho rfl ?_ (by rw[D6,D9];lia) (K5 _));obtain⟨e1,BC⟩:∃e1,(s.heap.update a (Obj.mapSeq λ_=>(#[]:Array Value))).get? a=some (seqObj "list" #[] e1):=⟨_,get?_update_seq ho (λ_=> #[])⟩;refine A5 (MJ BC rfl ?_);refine A5 (wpAny_newTuple ?_ (by show vs.length<=_;rw[D9];lia));refine A5 (MN ?_ (K5 _));refine S3 ?_;have Mi:(((s.heap.update a (Obj.mapSeq λ_=>(#[]:Array Value))).push (seqObj "tuple" vs.toArray 0)).push (seqObj "list" #[] 0)).get? a=some (seqObj "list" #[] e1):=A4 _ (A4 _ BC);have kk:∀b o,b≠a->s.heap.get? b=some o->(((s.heap.update a (Obj.mapSeq λ_=>(#[]:Array Value))).push (seqObj "tuple" vs.toArray 0)).push (seqObj "list" #[] 0)).get? b=some o:=λb o hb q=>A4 _ (A4 _ (by rw[U5 _ _ _ _ hb];exact q));have t:=ht _ kk;show wpAny (model prog w) A _ P E {s with heap:=((s.heap.update a (Obj.mapSeq λ_=>(#[]:Array Value))).push (seqObj "tuple" vs.toArray 0)).push (seqObj "list" #[] 0)};dsimp only;have hsz:vs.toArray.size=vs.length:=by simp
 have g0:aS vs.length (List.toArray (List.range vs.length)):=⟨by simp,by simp⟩
 by_cases h2:vs.toArray.size < 2
 ·rw[if_pos h2,if_pos h2];refine A5 (F0 ?_);rw[StateT.run_pure];refine A5 (F0 ?_);dsimp only;refine A5 (MJ Mi rfl ?_);refine A5 (X3 Mi rfl ?_ (K5 _) (by rw[Array.size_map];show(pairsOf vs).size<=_;rw[pairsOf_size,D9];lia));simp only[bne_self_eq_false,L1,P1];refine F0 ?_;have q:=h _ g0 (λi j gL hj=>by rw[hsz]at h2;lia);have eo:(arrOf (SortSt.mk' general' (vs.toArray.zip vs.toArray) #[] 7 none)).map (·.2)=List.toArray ((List.toArray (List.range vs.length)).toList.map λi=>vs.getD i Value.none):=by
   refine kat_snds rfl ?_;exact(kas_range (vs.toArray.zip vs.toArray)).symm.trans (by rw[show(vs.toArray.zip vs.toArray).size=vs.length by simp])
  rw[<-eo]at q;exact q
 ·rw[if_neg h2,if_neg h2];have hf:0 < fs.length:=by
   have:fs.length=kz.length:=ia.length;rw[hsz]at h2;lia
  refine A5 (kat_kind (T:=.type "int") t hf (λv hv=> ?_) (by rfl) ?_)
  ·have:∀{fs:List Value} {kz:List Int},IntsAre fs kz->v∈fs->∃n t,v=.int n t:=λ{fs kz} ia=>by
    induction ia with
    |nil=>intro h;cases h
    |cons n t r ih=>
     intro h;rcases C7.mp h with rfl|h
     ·exact⟨n,t,rfl⟩
     ·exact ih h
   obtain⟨n,t,rfl⟩:=this ia hv;exact .now
  ·refine A5 (F5 (kat_run (Q:=λdE s'=>s'={s with heap:=((s.heap.update a (Obj.mapSeq λ_=>(#[]:Array Value))).push (seqObj "tuple" vs.toArray 0)).push (seqObj "list" #[] 0)}/\∃p:Array Nat,arrOf dE=p.map (kas_item (vs.toArray.zip vs.toArray))/\failedOf dE=none/\aS vs.length p/\eP (λi=>kz.getD i 0) p vs.length) (G:=λp s'=>s'={s with heap:=((s.heap.update a (Obj.mapSeq λ_=>(#[]:Array Value))).push (seqObj "tuple" vs.toArray 0)).push (seqObj "list" #[] 0)}/\aS vs.length p/\eP (λi=>kz.getD i 0) p vs.length)
    rfl () mJ (λp' dE s' a1 a2 a3 a4=>⟨a4.1,p',a2,a3,a4.2⟩) (Ts (Yl t ia nd hl) () λq g as=>⟨rfl,g,as⟩)) ?_ λ_ _ e=>e)
   rintro ⟨⟨⟩,dE⟩ s' ⟨rfl,p,har,hf',g,as⟩
   dsimp only;have cw:=kat_snds rfl har;have hz:(List.toArray (p.toList.map λi=>vs.getD i Value.none)).size=vs.length:=by rw[D6,A3,O7,g.size]
   refine A5 (MJ Mi rfl ?_);refine A5 (X3 Mi rfl ?_ (K5 _) (by rw[cw,hz,D9];lia));rw[hf',cw];simp only[bne_self_eq_false,L1,P1];exact F0 (h p g as)
def YQ{l:Addr}{Q:AA}(pY:s.heap.IsList l vs.toArray)(t:∀h':Heap,(∀b o,s.heap.get? b=some o->h'.get? b=some o)->KatTups h' vs fs)(ia:IntsAre fs kz)(nd:kz.Nodup)(hl:kz.length=vs.length)(mJ:vs.length < 64)
  (h:∀p:Array Nat,aS vs.length p->eP (λi=>kz.getD i 0) p vs.length->Q (.ref (s.heap.objs.size + 1)) {s with heap:=sortedAll s.heap vs (List.toArray (p.toList.map λi=>vs.getD i Value.none))}):
  wpAny (model prog w) A (call (.builtin "sorted") [.ref l]) Q E s:=by
 refine Calls.call_function_entry kind_sorted plain_sorted entry_sorted (args_sorted1 _) ?_;unfold Builtin.«sorted»;refine A5 (m:=checkCount "sorted" 1 1 _) (F0 ?_);refine A5 (collect_list pY ?_ (by rw[D9];lia));refine A5 (MN ?_ (by rw[D9];lia));have hsz:((s.heap.push (seqObj "list" #[] 0)).update s.heap.objs.size (Obj.mapSeq (· ++ vs.toArray))).objs.size=s.heap.objs.size + 1:=by
  rw[OT,size_push']
 have yU:(((s.heap.push (seqObj "list" #[] 0)).update s.heap.objs.size (Obj.mapSeq (· ++ vs.toArray))).push (seqObj "list" vs.toArray 0)).get? (s.heap.objs.size + 1)=some (seqObj "list" vs.toArray 0):=by
  rw[<-hsz];exact C1 _ rfl
 have keep:∀b o,s.heap.get? b=some o->(((s.heap.push (seqObj "list" #[] 0)).update s.heap.objs.size (Obj.mapSeq (· ++ vs.toArray))).push (seqObj "list" vs.toArray 0)).get? b=some o:=λb o q=>by
  have dF:b < s.heap.objs.size:=A6 q;exact A4 _ (by rw[U5 _ _ _ _ (D8 dF)];exact A4 _ q)
 show wpAny _ _ _ _ _ {s with heap:=((s.heap.push (seqObj "list" #[] 0)).update s.heap.objs.size (Obj.mapSeq (· ++ vs.toArray))).push (seqObj "list" vs.toArray 0)};rw[hsz];refine A5 (S3 (wpAny_call_entry slot_list_sort ⟨_,yU,rfl⟩ entry_list_sort (Yk yU (λh' k=>t h' λb o q=>k b o (D8 (S9 (A6 q))) (keep b o q)) ia nd hl mJ λp g as=>⟨_,rfl, ?_⟩) (args_list_sort _)));exact F0 ⟨_,rfl,h p g as⟩
end
end L3
namespace L3
open PySem PySem.W PySem.Spec PyProof.Rows L2
variable{K:Frag}{fd:FuncData}{mg:AB}{us:List Value}{base:Heap}{H:Hp}{X:Cx}{pos:Pos}{v:V}
def pQ:List D->Option (List Int)
 | []=>some []
 | .tup (.int n::_)::ds=>(pQ ds).map (n:: ·)
 |_=>none
def qU:List D->R W
 | [.lst ds]=>(match pQ ds with
  |some kz=>if kz.length < 64/\kz.Nodup then .ok (.ow (.lst ((kC (kz.zip ds)).map (·.2)))) else .no
  |none=> .no)
 |_=> .no
def Ks{d:D}{ds:List D}{kz:List Int}(e:pQ (d::ds)=some kz):∃n tl yQ,d=.tup (.int n::tl)/\kz=n::yQ/\pQ ds=some yQ:=by
 unfold pQ at e
 split at e
 ·rename_i h;cases h
 ·rename_i n tl ds' h;cases h;obtain⟨yQ,e1,e2⟩:=E8.mp e;exact⟨n,tl,yQ,rfl,e2.symm,e1⟩
 ·cases e
theorem JP:∀{ds:List D} {kz:List Int},pQ ds=some kz->kz.length=ds.length
 | [],kz,e=>by cases e;rfl
 |d::ds,kz,e=>by
  obtain⟨n,tl,yQ,rfl,rfl,e'⟩:=Ks e;rw[B4,B4,JP e']
section
variable{X:Cx}{zc:AE}{σ:Sg}{H:Hp}{s:Shared}
theorem Kr{G:Hp}(I:Inv X zc σ H s)(g:aB G H):∀{vs:List V} {ds:List D} {its:List Value} {kz:List Int},aC X.K G vs ds->Vals vs its->pQ ds=some kz->∃fs,IntsAre fs kz/\∀h':Heap,(∀b o,s.heap.get? b=some o->h'.get? b=some o)->KatTups h' its fs
 |_,_,_,kz,.nil,rv,e=>by
  cases rv;cases e;exact⟨[],.nil,λ_ _=>KatTups.nil⟩
 |_,_,_,kz,.cons h r,rv,e=>by
  obtain⟨n,tl,yQ,rfl,rfl,e'⟩:=Ks e;cases rv with
  |cons ru rv=>
   obtain⟨fs,ia,kt⟩:=Kr I g r rv e';cases h with
   |tup hq rr=>
    cases ru;obtain⟨its',eW,⟨o,ho,hc,m,hd⟩,_⟩:=I.tuple (aB.tupS g hq);cases rr with
    |cons hx _=>
     cases hx;cases eW with
     |cons rx _=>
      obtain⟨t,rfl⟩:=rx;refine⟨.int n t::fs,.cons n t ia,λh' k=>KatTups.cons (k _ _ ho) hc hd ?_ (kt h' k)⟩;simp
abbrev yf(ds:List D)(p:Int×Nat)(q:Int×D):Prop:=p.1=q.1/\ds[p.2]? =some q.2
theorem JO{α β:Type}{R:α->β->Prop}{γ:Type}(f:γ->α):∀{l:List γ} {B:List β},l.length=B.length->(∀(i:Nat) c b,l[i]? =some c->B[i]? =some b->R (f c) b)->Paired R (l.map f) B
 | [],[],_,_=> .nil
 | [],_::_,e,_=>by cases e
 |_::_,[],e,_=>by cases e
 |c::l,b::B,e,h=> .cons (h 0 c b rfl rfl) (JO f (by simpa using e) λi c' b' h1 h2=>h (i + 1) c' b' h1 h2)
theorem Jc{G:Hp}{vs:List V}{ds:List D}(r:aC K G vs ds):∀{A:List (Int×Nat)} {B:List (Int×D)},Paired (yf ds) A B->aC K G (A.map λp=>vs.getD p.2 .aK) (B.map (·.2))
 |_,_,.nil=> .nil
 |_,_,.cons h t=>by
  refine .cons ?_ (Jc r t);obtain⟨v,e,hv⟩:=r.get h.2;show aM K G (vs.getD _ .aK) _;rw[K8,e];exact hv
theorem GK{vs:List V}{its:List Value}(rv:Vals vs its):∀{l:List Nat},(∀i∈l,i < vs.length)->Vals (l.map λi=>vs.getD i .aK) (l.map λi=>its.getD i Value.none)
 | [],_=> .nil
 |i::l,h=>by
  refine .cons ?_ (GK rv λj hj=>h j (B9 _ hj));have hi:=h i C8;obtain⟨u,e,ru⟩:=rv.get (A8 hi);show RelV (vs.getD i .aK) (its.getD i Value.none);rw[K8,K8,e,A8 hi];exact ru
def Yj(_hc:X.calm=true):Et X (.builtin "sorted") qU:=by
 intro zc s σ H vs us Q I rv q;obtain⟨EX,G,ds,g,r,o⟩:=q;cases r with
 |nil=>exact False.elim o
 |cons h t=>
  cases t with
  |cons _ _=>cases h <;> exact False.elim o
  |nil=>
   cases h with
   |lst h r=>
    rename_i l xs ds;simp only[qU]at o
    split at o
    ·rename_i kz e
     split at o
     ·rename_i hl;obtain⟨mJ,nd⟩:=hl;obtain⟨u,rfl,ru⟩:=rv.one;cases ru;obtain⟨its,eW,pl,hz⟩:=I.list (g.seq h);obtain⟨fs,ia,kt⟩:=Kr I g r eW e;have kl:=JP e;have il:xs.length=its.length:=eW.length;have dl:xs.length=ds.length:=r.length;refine YQ pl.isList kt ia nd () () λp gp as=> ?_;have pl:∀i∈p.toList,i < its.length:=λi hi=>N5.mp (gp.perm.mem_iff.mp hi);have A0:Paired (yf ds) ((List.range its.length).map λi=>(kz.getD i 0,i)) (kz.zip ds):=by
       refine JO _ (by rw[Q5,U8];lia) λi c b h1 h2=> ?_;obtain⟨hi,rfl⟩:i < its.length/\c=i:=by
        have:=B5.mp h1;obtain⟨hi,e⟩:=this;rw[List.getElem_range]at e;exact⟨by simpa using hi,e.symm⟩
       obtain⟨hz1,e2⟩:=B5.mp h2;rw[List.getElem_zip]at e2;subst e2;refine⟨?_,A8 _⟩;show kz.getD c 0=kz[c];simp[show c < kz.length by lia]
      have pA:(p.toList.map λi=>(kz.getD i 0,i)).Pairwise (λa b:Int×Nat=>a.1<=b.1):=by
       rw[List.pairwise_map];refine U3.mpr λi j hi hj gL=> ?_;have hi':i < p.size:=by simpa using hi
       have Mp:j < p.size:=by simpa using hj
       have:=as i j gL (by rw[<-gp.size];exact Mp);have e1:p.getD i 0=p.toList[i]:=by simp[Array.getD,hi']
       have e2:p.getD j 0=p.toList[j]:=by simp[Array.getD,Mp]
       unfold kp at this;rw[e1,e2]at this;exact Int.le_of_lt this
      have zn:((kz.zip ds).map (·.1))=kz:=by rw[List.map_fst_zip ()]
      have pr:=xX (R:=yf ds) (λp q r=>r.1) A0 (gp.perm.map _) (sM (kz.zip ds)) (by rw[zn];exact nd) pA (yd _);have hu:=Jc r pr;rw[J7]at hu;obtain⟨c,kP⟩:=sortedAll_at s.heap its (List.toArray (p.toList.map λi=>its.getD i Value.none));have Nr:Vals (p.toList.map λi=>xs.getD i .aK) (p.toList.map λi=>its.getD i Value.none):=GK eW λi hi=>by have:=pl i hi;lia
      have fr:=I.aJ.fresh (L7 s.heap.objs.size);refine⟨.ref _,upd H _ (.lst _),I.laid (t':=s.toks) (λ_ _=>sortedAll_old) (L7 _) ⟨?_,_,c,Nr,by simpa using kP⟩,rfl,sZ o g hu _ fr⟩;rw[A3,O7,gp.size,D9];lia
     ·exact o.elim
    ·exact o.elim
   |_=>exact False.elim o
end
end L3
namespace L3
open PySem PySem.Spec PyProof.Rows L2
variable{K:Frag}{fd:FuncData}{mg:AB}{us:List Value}{base:Heap}{H:Hp}{X:Cx}{pos:Pos}{v:V}
section
variable{K:Frag}{G:Hp}{S:AS}
end
section
variable{X:Cx}{EX:Ax}{e e1 e2:Expr}{g g2:SE->FM}{pos:Pos}
end
def Sl.qc:Sl->Option (List (Ae×D)×Bool)
 | .ow (.aE aA)=>some (aA,false)
 | .lt (.aE zk)=>(Gg zk).map λaA=>(aA,true)
 |_=>none
def Sl.tL(b:Bool)(aA:List (Ae×D)):Sl:=if b then .lt (Tn.of (.aE aA)) else .ow (.aE aA)
def Sl.dA{s:Sl}{aA:List (Ae×D)}{b:Bool}(e:s.qc=some (aA,b)):s.own=some (Tn.of (.aE aA))/\(b=true->s=.lt (Tn.of (.aE aA))):=by
 cases s with
 |ow d=>
  cases d with
  |aE k=>cases e;exact⟨rfl,λz=>by cases z⟩
  |_=>cases e
 |lt t=>
  cases t with
  |aE zk=>
   obtain⟨k,e1,e2⟩:=E8.mp e;cases e2;rw[yA e1];exact⟨rfl,λ_=>rfl⟩
  |_=>cases e
 |_=>cases e
def Sl.gr(b:Bool)(aA:List (Ae×D)):(Sl.tL b aA).own=some (Tn.of (.aE aA)):=by cases b <;> rfl
def Sl.jI(b:Bool)(aA:List (Ae×D)):∀d,Sl.tL b aA≠ .lk d:=by intro d;cases b <;> (intro z;cases z)
def Ev.jH{H0:HB}{G0 G H:Hp}{σ:Sg}{Δ:SE}{O:OS}(E:Ev K H0 G0 G H σ Δ O){i:Nat}{s:Sl}{aA:List (Ae×D)}{b:Bool}(e:Δ[i]? =some s)(q:s.qc=some (aA,b))(aa:List (Ae×D)):∀d,Sl.tL b aa=.lt d->σ[i]? =some (some (.ref (H0.b i))):=by
 intro d z;cases b with
 |false=>cases z
 |true=>
  have:=(Sl.dA q).2 rfl;subst this;exact E.lt i _ e
def Ev.two{H0:HB}{G0 G H G' H':Hp}{σ:Sg}{Δ:SE}{A:OS}(E:Ev K H0 G0 G H σ Δ A){i j:Nat}(gL:i≠j){v v2:V}{z z2:Sl}{t t2:Tn}{S S2:AS}(zo:z.own=some t)(zl:∀d,z≠ .lk d)(zt:∀d,z=.lt d->σ[i]? =some (some (.ref (H0.b i))))(zo2:z2.own=some t2)(zl2:∀d,z2≠ .lk d)(zt2:∀d,z2=.lt d->σ[j]? =some (some (.ref (H0.b j))))
  (ms:bX (λa=>A i a\/A j a) G H G' H') (s:σ[i]? =some (some v)) (s2:σ[j]? =some (some v2)) (fr:∀a,S a->((A i a\/A j a)\/H a=none)/\G' a=none/\H' a≠none) (fr2:∀a,S2 a->((A i a\/A j a)\/H a=none)/\G' a=none/\H' a≠none) (dj:∀a,S a->S2 a->False) (w:Ow K G' H' v t S) (w2:Ow K G' H' v2 t2 S2):
  Ev K H0 G0 G' H' σ ((Δ.set i z).set j z2) (Cq (Cq A i S) j S2):=by
 have h0:∀a,(A i a\/A j a)->H0.h a=none:=λa h=>h.elim (λh=>(E.out i a h).2.1) λh=>(E.out j a h).2.1;have st:Step G0 H0.h G' H':=⟨λb o q=>ms.hh b o (λhb=>by rw[h0 b hb]at q;cases q) (E.st.hh b o q),ms.gh,E.st.gg.trans ms.gg,
  λb n z=>ms.nw b (λhb=>z (h0 b hb)) (E.st.nw b n z) λq=>z (E.st.hh.free q)⟩
 have cs:∀(k:Nat) (x:Sl),((Δ.set i z).set j z2)[k]? =some x->(k=j/\x=z2)\/(k=i/\k≠j/\x=z)\/(k≠i/\k≠j/\Δ[k]? =some x):=λk x e=>by
  rcases Fa e with⟨rfl,q⟩|⟨nn,q⟩
  ·exact .inl ⟨rfl,q⟩
  ·rcases Fa q with⟨e2,q2⟩|⟨nn2,q2⟩
   ·exact .inr (.inl ⟨e2.symm,Ne.symm nn,q2⟩)
   ·exact .inr (.inr ⟨Ne.symm nn2,Ne.symm nn,q2⟩)
 have sa:∀k,k≠i->k≠j->Cq (Cq A i S) j S2 k=A k:=λk h1 h2=>by rw[Go h2,Go h1]
 have si:Cq (Cq A i S) j S2 i=S:=by rw[Go gL,jW]
 have sj:Cq (Cq A i S) j S2 j=S2:=jW;have keep:∀k a,k≠i->k≠j->A k a->¬(A i a\/A j a):=λk a h1 h2 hk h=>h.elim (λh=>h1 (E.dj k i a hk h)) λh=>h2 (E.dj k j a hk h);have nS:∀k a,k≠i->k≠j->A k a->¬S a/\¬S2 a:=λk a h1 h2 hk=>by
  refine⟨λhs=> ?_,λhs=> ?_⟩
  ·rcases(fr a hs).1 with q|q
   ·exact keep k a h1 h2 hk q
   ·exact(E.out k a hk).2.2 q
  ·rcases(fr2 a hs).1 with q|q
   ·exact keep k a h1 h2 hk q
   ·exact(E.out k a hk).2.2 q
 refine⟨st,by rw[F9,F9];exact E.len,λk d e=> ?_,λk z' d e iH=> ?_,λk a ha=> ?_,λk k' a h1 h2=> ?_,λk d e=> ?_,λk d e=> ?_⟩
 ·rcases cs k _ e with⟨_,q⟩|⟨_,_,q⟩|⟨_,_,q⟩
  ·subst q;cases zo2
  ·subst q;cases zo
  ·obtain⟨v',e1,r'⟩:=E.sh k d q;exact⟨v',e1,r'.mono ms.gg⟩
 ·rcases cs k _ e with⟨rfl,q⟩|⟨rfl,_,q⟩|⟨h1,h2,q⟩
  ·subst q;rw[zo2]at iH;cases iH;rw[sj];exact⟨v2,s2,w2⟩
  ·subst q;rw[zo]at iH;cases iH;rw[si];exact⟨v,s,w⟩
  ·obtain⟨v',e1,x⟩:=E.ow k z' d q iH;rw[sa k h1 h2];exact⟨v',e1,x.mono ms.gg (λb o hb q=>ms.hh b o (keep k b h1 h2 hb) q) λ_ q=>q⟩
 ·by_cases e2:k=j
  ·subst e2;rw[sj]at ha;obtain⟨a1,a2,a3⟩:=fr2 a ha;exact⟨a2,a1.elim (h0 a) λq=>E.st.hh.free q,a3⟩
  ·by_cases e1:k=i
   ·subst e1;rw[si]at ha;obtain⟨a1,a2,a3⟩:=fr a ha;exact⟨a2,a1.elim (h0 a) λq=>E.st.hh.free q,a3⟩
   ·rw[sa k e1 e2]at ha;obtain⟨h1,h2,h3⟩:=E.out k a ha;have hn:=keep k a e1 e2 ha;refine⟨ms.nw a hn h1 h3,h2,λq=> ?_⟩;cases e:H a with
    |none=>exact h3 e
    |some o=>rw[ms.hh a o hn e]at q;cases q
 ·by_cases e2:k=j
  ·subst e2;rw[sj]at h1
   by_cases e3:k'=k
   ·exact e3.symm
   ·by_cases e4:k'=i
    ·subst e4;rw[si]at h2;exact(dj a h2 h1).elim
    ·rw[sa k' e4 e3]at h2;exact absurd h1 (nS k' a e4 e3 h2).2
  ·by_cases e1:k=i
   ·subst e1;rw[si]at h1
    by_cases e3:k'=j
    ·subst e3;rw[sj]at h2;exact(dj a h1 h2).elim
    ·by_cases e4:k'=k
     ·exact e4.symm
     ·rw[sa k' e4 e3]at h2;exact absurd h1 (nS k' a e4 e3 h2).1
   ·rw[sa k e1 e2]at h1
    by_cases e3:k'=j
    ·subst e3;rw[sj]at h2;exact absurd h2 (nS k a e1 e2 h1).2
    ·by_cases e4:k'=i
     ·subst e4;rw[si]at h2;exact absurd h2 (nS k a e1 e2 h1).1
     ·rw[sa k' e4 e3]at h2;exact E.dj k k' a h1 h2
 ·rcases cs k _ e with⟨_,q⟩|⟨_,_,q⟩|⟨_,_,q⟩
  ·exact absurd q.symm (zl2 d)
  ·exact absurd q.symm (zl d)
  ·exact E.lk k d q
 ·rcases cs k _ e with⟨rfl,q⟩|⟨rfl,_,q⟩|⟨_,_,q⟩
  ·exact zt2 d q.symm
  ·exact zt d q.symm
  ·exact E.lt k d q
inductive kb where
 |ok (d:D) (t:Tn) (aA:List (Ae×D))|ex (x:Xn) (t:Tn) (aA:List (Ae×D))|no
def oN(n:Nat)(t:Tn)(aA:List (Ae×D))(ds:List D):SE:=.lt t:: .lt (Tn.of (.aE aA))::(ds.map Sl.sh ++ List.replicate (n - (ds.length + 2)) .no)
def iI:Fl->kb
 | .nx (.lt t':: .lt (.aE zk)::_)=>(match Gg zk with|some aA=> .ok .aK t' aA|none=> .no)
 | .rv d (.lt t':: .lt (.aE zk)::_)=>(match Gg zk with|some aA=> .ok d t' aA|none=> .no)
 | .ex x (.lt t':: .lt (.aE zk)::_)=>(match Gg zk with|some aA=> .ex x t' aA|none=> .no)
 |_=> .no
def oz(n:Nat)(g:FS)(t:Tn)(aA:List (Ae×D))(ds:List D):kb:=iI (g (oN n t aA ds))
def kU(K:Frag)(n:Nat)(F:Tn->List (Ae×D)->List D->kb):Sp:=λvs H Q E=>∃a0 a1 dB,vs=.ref a0:: .ref a1::dB/\dB.length=n/\∃G ds t aA S0 S1,aB G H/\aC K G dB ds/\Ow K G H (.ref a0) t S0/\Ow K G H (.ref a1) (Tn.of (.aE aA)) S1/\(∀a,S0 a\/S1 a->G a=none/\H a≠none)/\(∀a,S0 a->S1 a->False)/\
 match F t aA ds with
 | .ok d t' aa=>∀v G' H' T0 T1,bX (λa=>S0 a\/S1 a) G H G' H'->(∀a,T0 a\/T1 a->((S0 a\/S1 a)\/H a=none)/\G' a=none/\H' a≠none)->(∀a,T0 a->T1 a->False)->Ow K G' H' (.ref a0) t' T0->Ow K G' H' (.ref a1) (Tn.of (.aE aa)) T1->aM K G' v d->Q v H'
 | .ex x t' aa=>∀cls dx G' H' T0 T1,bX (λa=>S0 a\/S1 a) G H G' H'->(∀a,T0 a\/T1 a->((S0 a\/S1 a)\/H a=none)/\G' a=none/\H' a≠none)->(∀a,T0 a->T1 a->False)->Ow K G' H' (.ref a0) t' T0->Ow K G' H' (.ref a1) (Tn.of (.aE aa)) T1->ExcAt K G' cls dx x->E cls dx H'
 | .no=>False
open Classical in
def Qx{c:Bool}{P:Program}{w:World}{x qual:Str}{st:Stmt}{f:Addr}{N ps:List Str}{k n:Nat}{g:FS}(F:bC K x qual st f fd)(S:aV N ps (Cc st))(hn:ps.length=n + 2)(hle:ps.length<=N.length)
  (zh:∀(zp:Value) (A:Around) (outer:List Env) (s:Shared) (H:Hp) (E:XK),aF c k (A.deeper (envOfC qual (Cc st) s.heap.objs.size f zp))->
   BD (Gr c P w K mg base N qual (Cc st) f zp A outer s H E) (λ_=>bW K E) (Ft st) g):bI P w K mg base c (k + 1) f fd ps (kU K n (oz N.length g)):=by
 refine bC.AN F S (λvs H Q E h=> ?_) λzp A outer s H vs Q E hr h=>⟨_,zh zp A outer s H E hr, ?_⟩
 ·obtain⟨a0,a1,dB,rfl,hl,_⟩:=h;rw[B4,B4,hl,hn]
 obtain⟨a0,a1,dB,rfl,hl,G,ds,t,aA,S0,S1,g0,r,tw,tw1,out,dj,q⟩:=h;have i0:aB (λb=>if S0 b\/S1 b then none else H b) H:=λb o e=>by
  simp only at e
  split at e
  ·cases e
  ·exact e
 have E0:=xG (N:=N) (b:=λi=>if i=0 then a0 else a1) (v0:=.ref a0) (vs:=.aK::dB) (ds:=.aK::ds) g0 i0 (.cons .aK r) (by rw[B4,hl];lia);have hs:(L2.start N (.ref a0:: .aK::dB))[0]? =some (some (.ref a0)):=rfl;have E1:=E0.kY (i:=0) (z:=.lt t) (v:=.ref a0) (S:=S0) (λa ha=>⟨by simp only;rw[if_pos (.inl ha)],(out a (.inl ha)).1,(out a (.inl ha)).2⟩) rfl (λ_ z=>by cases z) tw (λj a ha=>ha.elim) (λ_ _=>rfl);rw[uu hs]at E1;have E2:=E1.kY (i:=1) (z:=.lt (Tn.of (.aE aA))) (v:=.ref a1) (S:=S1) (λa ha=>⟨by simp only;rw[if_pos (.inr ha)],(out a (.inr ha)).1,(out a (.inr ha)).2⟩) rfl (λ_ z=>by cases z) tw1 (λj a ha h1=>by
  by_cases z:j=0
  ·subst z;rw[jW]at ha;exact dj a ha h1
  ·rw[Go z]at ha;exact ha) (λ_ _=>rfl)
 have es:(L2.start N (.ref a0:: .aK::dB)).set 1 (some (.ref a1))=L2.start N (.ref a0:: .ref a1::dB):=rfl;rw[es]at E2;refine⟨⟨λb=>if S0 b\/S1 b then none else H b,λi=>if i=0 then a0 else a1⟩,G,G,_,_,E2, ?_⟩;have e2:((Sl.no::((D.aK::ds).map Sl.sh ++ List.replicate (N.length - ((D.aK::ds).length + 1)) .no)).set 0 (.lt t)).set 1 (.lt (Tn.of (.aE aA)))=oN N.length t aA ds:=rfl;rw[e2];have fin:∀{Δ:SE} {t':Tn} {zk:List (Ae×Tn)} {aa:List (Ae×D)} {σ:Sg} {G' H':Hp} {O:OS},Gg zk=some aa->Ev K ⟨λb=>if S0 b\/S1 b then none else H b,λi=>if i=0 then a0 else a1⟩ G G' H' σ (.lt t':: .lt (.aE zk)::Δ) O->bX (λa=>S0 a\/S1 a) G H G' H'/\(∀a,O 0 a\/O 1 a->((S0 a\/S1 a)\/H a=none)/\G' a=none/\H' a≠none)/\(∀a,O 0 a->O 1 a->False)/\Ow K G' H' (.ref a0) t' (O 0)/\Ow K G' H' (.ref a1) (Tn.of (.aE aa)) (O 1):=λ{Δ t' zk aa σ G' H' O} eu E'=>by
  obtain⟨v,s1,t3⟩:=E'.ow 0 (.lt t') t' rfl rfl;have s2:=E'.lt 0 t' rfl;rw[s1]at s2;cases s2;obtain⟨v',gI,t3'⟩:=E'.ow 1 (.lt (.aE zk)) (.aE zk) rfl rfl;have zY:=E'.lt 1 (.aE zk) rfl;rw[gI]at zY;cases zY;rw[yA eu]at t3';refine⟨⟨λb o nb z=>E'.st.hh b o (by simp only;rw[if_neg nb];exact z),E'.st.gh,E'.st.gg,λb nb z1 z2=>E'.st.nw b z1 (by simp only;rw[if_neg nb];exact z2)⟩,λa ha=> ?_,λa h1 h2=>(by cases E'.dj 0 1 a h1 h2),t3,t3'⟩;have:∃i,O i a:=ha.elim (λh=>⟨0,h⟩) λh=>⟨1,h⟩;obtain⟨i,hi⟩:=this;obtain⟨k1,k2,k3⟩:=E'.out i a hi;refine⟨?_,k1,k3⟩;simp only at k2
  split at k2
  ·rename_i z;exact .inl z
  ·exact .inr k2
 unfold oz at q;have sp:∀{Δ:SE},(∃t' zk Δ',Δ=.lt t':: .lt (.aE zk)::Δ')\/∀(d:D) (x:Xn),iI (.nx Δ)=.no/\iI (.rv d Δ)=.no/\iI (.ex x Δ)=.no:=λ{Δ}=>by
  cases Δ with
  |nil=>exact .inr λ_ _=>⟨rfl,rfl,rfl⟩
  |cons s Δ=>
   cases s with
   |lt t'=>
    cases Δ with
    |nil=>exact .inr λ_ _=>⟨rfl,rfl,rfl⟩
    |cons s2 Δ=>
     cases s2 with
     |lt u=>
      cases u with
      |aE zk=>exact .inl ⟨t',zk,Δ,rfl⟩
      |_=>exact .inr λ_ _=>⟨rfl,rfl,rfl⟩
     |_=>exact .inr λ_ _=>⟨rfl,rfl,rfl⟩
   |_=>exact .inr λ_ _=>⟨rfl,rfl,rfl⟩
 cases e:g (oN N.length t aA ds) with
 |nx Δ=>
  rw[e]at q;rcases sp (Δ:=Δ) with⟨t',zk,Δ',rfl⟩|h
  ·simp only[iI]at q;cases eu:Gg zk with
   |none=>simp only[eu]at q
   |some aa=>
    simp only[eu]at q;intro σ G' H' O E' _;obtain⟨ms,fr,dd,tt,zT⟩:=fin eu E';exact q .aK G' H' _ _ ms fr dd tt zT .aK
  ·rw[(h .aK ⟨"",[],[]⟩).1]at q;exact q.elim
 |rv d Δ=>
  rw[e]at q;rcases sp (Δ:=Δ) with⟨t',zk,Δ',rfl⟩|h
  ·simp only[iI]at q;cases eu:Gg zk with
   |none=>simp only[eu]at q
   |some aa=>
    simp only[eu]at q;intro v σ G' H' O E' _ rv;obtain⟨ms,fr,dd,tt,zT⟩:=fin eu E';exact q v G' H' _ _ ms fr dd tt zT rv
  ·rw[(h d ⟨"",[],[]⟩).2.1]at q;exact q.elim
 |ex x Δ=>
  rw[e]at q;rcases sp (Δ:=Δ) with⟨t',zk,Δ',rfl⟩|h
  ·simp only[iI]at q;cases eu:Gg zk with
   |none=>simp only[eu]at q
   |some aa=>
    simp only[eu]at q;intro σ G' H' O E' _ cls dx G2 H2 aT ea;obtain⟨ms,fr,dd,tt,zT⟩:=fin eu (E'.grow aT);exact q cls dx G2 H2 _ _ ms fr dd tt zT ea
  ·rw[(h .aK x).2.2]at q;exact q.elim
 |rt w=>rw[e]at q;exact q.elim
 |bk Δ=>rw[e]at q;exact q.elim
 |ct Δ=>rw[e]at q;exact q.elim
 |no=>rw[e]at q;exact q.elim
def lh(P:Program)(w:World)(K:Frag)(mg:AB)(base:Heap)(c:Bool)(x:Str)(k n:Nat)(ps:List Str)(F:Tn->List (Ae×D)->List D->kb):Prop:=
 ∃f fd,bI P w K mg base c k f fd ps (kU K n F)/\mg x=some (.ref f)/\keepIn K (.ref f)=true/\Binds K fd ps []
def EC{c:Bool}{P:Program}{w:World}{x qual:Str}{st:Stmt}{f:Addr}{N ps:List Str}{k n:Nat}{g:FS}(F:bC K x qual st f fd)(hn:ps.length=n + 2)(hle:ps.length<=N.length)
  (zh:MU c P w K mg base N qual st f k g) (S:aV N ps (Cc st):=by exact⟨rfl,rfl,rfl,by decide +kernel,rfl,by decide +kernel,by decide +kernel⟩):bI P w K mg base c (k + 1) f fd ps (kU K n (oz N.length g)):=
 Qx F S hn hle λzp A outer s H E hr=>zh rfl hr (aF.units hr) S.nd rC
def HU{P:Program}{w:World}{cc:Bool}{k n:Nat}{ps:List Str}{st:Stmt}{Fn:Tn->List (Ae×D)->List D->kb}{x:Str}{h:Heap}(X:K.In h)(G:h.Ns mainGlobals mg)(W:aL K x st)(ok:∀{f:Addr} {fd:FuncData},bC K x x st f fd->bI P w K mg base cc k f fd ps (kU K n Fn)/\Binds K fd ps []):lh P w K mg base cc x k n ps Fn:=by
 obtain⟨f,a,fd,F⟩:=W;exact⟨f,fd,(ok F).1,mg_of X G a,F.kp,(ok F).2⟩
def PZ(i j:Nat)(lk qq:Bool)(Δ:SE):kb->FM
 | .ok d t' aa=> .ok d ((Δ.set i (Sl.mk lk t')).set j (Sl.tL qq aa))
 | .ex x t' aa=> .ex x ((Δ.set i (Sl.mk lk t')).set j (Sl.tL qq aa))
 | .no=> .no
def sW(i j n:Nat)(F:Tn->List (Ae×D)->List D->kb)(ga:SE->R (List D)):SE->FM:=λ Δ=>match(Δ[i]?).bind Sl.tree with
 |some (.obj c ns ts,lk)=>(match(Δ[j]?).bind Sl.qc with
  |some (aA,qq)=>if i=j then .no else(match ga Δ with
   | .ok ds=>if ds.length=n then PZ i j lk qq Δ (F (.obj c ns ts) aA ds) else .no
   | .ex x=> .ex x Δ
   | .no=> .no)
  |none=> .no)
 |_=> .no
def nP(i:Nat)(fk fe:FE):FS:=λ Δ=>match(Δ[i]?).bind Sl.qc with
 |some (aA,lk)=>(match fe (At Δ) with
  | .ok w=>(match fk (At Δ) with
   | .ok z=>(match Ea z.d with
    |some k=>if aA.length < 16777216 then .nx (Δ.set i (Sl.tL lk (Df aA k w.d))) else .no
    |none=> .no)
   |_=> .no)
  |_=> .no)
 |none=> .no
def nN(i:Nat)(fk:FE):FS:=λ Δ=>match(Δ[i]?).bind Sl.qc with
 |some (aA,lk)=>(match fk (At Δ) with
  | .ok z=>(match Ea z.d with
   |some k=>if(Bc aA k).isSome=true then .nx (Δ.set i (Sl.tL lk (Gd aA k))) else .no
   |none=> .no)
  |_=> .no)
 |none=> .no
section
variable{X:Cx}{EX:Ax}{e:Expr}{es:List Expr}{f:FE}{ga:SE->R (List D)}{x:Str}{pp pos:Pos}{c:Bool}{k k' n:Nat}{ps:List Str}
def Ev.kq{H0:HB}{G0 G H:Hp}{σ:Sg}{Δ:SE}{O:OS}(E:Ev K H0 G0 G H σ Δ O){i:Nat}{s:Sl}{aA aa:List (Ae×D)}{b:Bool}{a:Addr}{kvs:List (Ae×V)}(e:Δ[i]? =some s)(q:s.qc=some (aA,b))(s1:σ[i]? =some (some (.ref a)))(m:O i a)(hk:kvs.map (·.1)=aa.map (·.1))(r:aC K G (kvs.map (·.2)) (aa.map (·.2))):
  Ev K H0 G0 G (upd H a (.dK kvs)) σ (Δ.set i (Sl.tL b aa)) (Cq O i (O i)):=
 have ms:=bP.write E.st.gh m (E.out i a m).1 (.dK kvs)
 E.dN (Sl.gr b aa) (Sl.jI b aa) (E.jH e q aa) ms.weak s1 (λb hb=>⟨.inl hb,(E.out i b hb).1,ms.al b (E.out i b hb).2.2⟩) (Ow.dict Bf hk m r)
def Jb{i j:Nat}{y y2:Str}{F:Tn->List (Ae×D)->List D->kb}{p3 p4:Pos}(hr:aF c k' X.A)(lk:Lk X EX)(h:lh X.prog X.w X.K X.mg X.base c x k n ps F)(ha:AM X EX es ga)(hk:k<=k':=by decide)
  (hN:X.N[i]? =some y:=by rfl) (hv:Fm X.env.scope y:=by trivial) (hd:AG y:=by decide) (bO:(y ==("__classdict__" :Str))=false:=by decide)
  (hN2:X.N[j]? =some y2:=by rfl) (mH:Fm X.env.scope y2:=by trivial) (hd2:AG y2:=by decide) (fu:(y2 ==("__classdict__" :Str))=false:=by decide)
  (hg:Gl X x:=by rfl) (cW:AG x:=by decide) (jg:starEach (.Name y p3:: .Name y2 p4::es) X.env=(false,eval (.Name y p3) X.env)::starEach (.Name y2 p4::es) X.env:=by rfl) (eN:starEach (.Name y2 p4::es) X.env=(false,eval (.Name y2 p4) X.env)::starEach es X.env:=by rfl) (bZ:(backTo pos (starEach (.Name y2 p4::es) X.env)).any (·.1)=false:=by rfl):
  EM X EX (.Call (.Name x pp) (.Name y p3:: .Name y2 p4::es) [] pos) (sW i j n F ga):=by
 obtain⟨f,fd,ok,hm,kp,hb⟩:=h;refine PE.imp (Ii hr lk ok hm kp hb (iS (Fd hN hv hd bO) (iS (Fd hN2 mH hd2 fu) ha eN) jg) hk hg cW jg bZ) λ σ H Q ⟨H0,G0,G,Δ,O,E,q⟩=> ?_;unfold sW at q
 split at q
 ·rename_i c0 ns ts yN e0;obtain⟨s,e1,cR⟩:=J9.mp e0;obtain⟨v0,s1,t0⟩:=E.ow i _ _ e1 (Sl.aZ cR)
  split at q
  ·rename_i aA qq e0';obtain⟨s',MC,ed⟩:=J9.mp e0';obtain⟨v1,gI,t0'⟩:=E.ow j _ _ MC (Sl.dA ed).1
   split at q
   ·exact q.elim
   ·rename_i gL;cases t0 with
    |obj hc hh hl hA sub rl=>
     rename_i a0 C0 dx0 us0 S0;obtain⟨a1,kv1,rfl,m1,hH1,Mn,rl1⟩:=Ow.cE t0';refine⟨_,s1,_,gI,H0,G0,G,Δ,O,E, ?_⟩;cases ea:ga Δ with
     |ok ds=>
      simp only[ea]at q
      split at q
      ·rename_i zj;intro vs G1 H1 E1 sg r;obtain⟨w0,x1,u0⟩:=E1.ow i _ _ e1 (Sl.aZ cR);rw[s1]at x1;cases x1;obtain⟨w1,x2,u1⟩:=E1.ow j _ _ MC (Sl.dA ed).1;rw[gI]at x2;cases x2;refine⟨_,_,vs,rfl,by rw[r.length];exact zj,G1,ds,_,aA,O i,O j,E1.st.gh,r,u0,u1,λa ha=>ha.elim (λh=>⟨(E1.out i a h).1,(E1.out i a h).2.2⟩) λh=>⟨(E1.out j a h).1,(E1.out j a h).2.2⟩,λa h1 h2=>gL (E1.dj i j a h1 h2), ?_⟩;cases ef:F (.obj c0 ns ts) aA ds with
       |ok d t' aa=>
        rw[ef]at q;exact λv G' H' T0 T1 ms fr dd o0 o1 rv=>q v G' H' _ (E1.two gL (Sl.dI yN t') (Sl.eR yN t') (E1.eQ e1 cR t') (Sl.gr qq aa) (Sl.jI qq aa) (E1.jH MC ed aa) ms s1 gI (λa ha=>fr a (.inl ha)) (λa ha=>fr a (.inr ha)) dd o0 o1) (sg.trans ms.gg) rv
       |ex x t' aa=>
        rw[ef]at q;exact λcls dx G' H' T0 T1 ms fr dd o0 o1 ea=>⟨x,G',ms.gh,ea,q G' H' _ (E1.two gL (Sl.dI yN t') (Sl.eR yN t') (E1.eQ e1 cR t') (Sl.gr qq aa) (Sl.jI qq aa) (E1.jH MC ed aa) ms s1 gI (λa ha=>fr a (.inl ha)) (λa ha=>fr a (.inr ha)) dd o0 o1) (sg.trans ms.gg)⟩
       |no=>rw[ef]at q;exact q
      ·exact q.elim
     |ex x=>simp only[ea]at q;exact λG1 H1 E1 sg=>q G1 H1 O E1 sg
     |no=>simp only[ea]at q;exact q.elim
  ·exact q.elim
 ·exact q.elim
def Tq{i:Nat}{y:Str}{e e2:Expr}{fe fk:FE}{p1 zg:Pos}(hu:X.A.units + 64 < cLine)(he:ED X EX e fe)(h2:ED X EX e2 fk)(hN:X.N[i]? =some y:=by rfl)(hv:Fm X.env.scope y:=by trivial)(hd:AG y:=by decide)
  (bO:(y ==("__classdict__" :Str))=false:=by decide) (hs:swapsWith e (some (.Subscript (.Name y p1) e2 zg)) pos.line X.env=pure false:=by rfl):
  SD X EX (.Assign [.Subscript (.Name y p1) e2 zg] e pos) (nP i fk fe):=
 PS.imp (wJ () (Fd hN hv hd bO) h2 he hs) λD σ H ⟨H0,G0,G,Δ,O,E,q⟩=>by
  unfold nP at q
  split at q
  ·rename_i aA lk e0;obtain⟨s,e1,ed⟩:=J9.mp e0;refine⟨G,At Δ,E.st.gh,E.dU, ?_⟩;cases e2:fe (At Δ) with
   |ex x=>simp only[e2]at q;exact q.elim
   |no=>simp only[e2]at q;exact q.elim
   |ok w=>
    simp only[e2]at q;refine WP.intro λv G1 H1 st r=> ?_;have E1:=E.grow st;obtain⟨v0,s1,t⟩:=E1.ow i _ _ e1 (Sl.dA ed).1;obtain⟨a,qr,rfl,mc,qB,nh,ql⟩:=Ow.cE t;refine⟨_,s1, ?_⟩;refine⟨G1,At Δ,E1.st.gh,E1.dU, ?_⟩;cases e3:fk (At Δ) with
    |ex x=>simp only[e3]at q;exact q.elim
    |no=>simp only[e3]at q;exact q.elim
    |ok z=>
     simp only[e3]at q;refine WP.intro λv2 G2 H2 aT r2=> ?_
     split at q
     ·rename_i k0 ek
      split at q
      ·rename_i zj;have mH:=mP r2 ek;subst mH;have E2:=E1.grow aT;have hle:qr.length=aA.length:=by
        have:=K4 List.length nh
        rwa[A3,A3]at this
       obtain⟨p1,p2⟩:=wD k0 nh ql r;exact⟨a,_,rfl,fW.k (aT.hh _ _ qB) (by rw[hle,D9];exact zj),q σ G2 _ _ (E2.kq e1 ed s1 mc p1 (p2.mono aT.gg)) (st.gg.trans aT.gg)⟩
      ·exact q.elim
     ·exact q.elim
  ·exact q.elim
def Tp{i:Nat}{y:Str}{e2:Expr}{fk:FE}{p1 zf zd:Pos}(h2:ED X EX e2 fk)(hN:X.N[i]? =some y:=by rfl)(hv:Fm X.env.scope y:=by trivial)(hd:AG y:=by decide)
  (bO:(y ==("__classdict__" :Str))=false:=by decide) (hm:M1 X (.Name y p1) "pop" zf e2 zd:=by exact⟨rfl,rfl,rfl,rfl⟩)
  (hs:swapsWith (.Call (.Attribute (.Name y p1) "pop" zf) [e2] [] zd) none pos.line X.env=pure false:=by rfl):
  SD X EX (.Expr (.Call (.Attribute (.Name y p1) "pop" zf) [e2] [] zd) pos) (nN i fk):=
 PS.imp (md (Iz (Fd hN hv hd bO) h2 hm) hs) λD σ H ⟨H0,G0,G,Δ,O,E,q⟩=>by
  unfold nN at q
  split at q
  ·rename_i aA lk e0;obtain⟨s,e1,ed⟩:=J9.mp e0;obtain⟨v0,s1,t⟩:=E.ow i _ _ e1 (Sl.dA ed).1;obtain⟨c1,qr,rfl,mc,qB,nh,ql⟩:=Ow.cE t;refine⟨_,s1,c1,rfl,.inl ⟨qr,.inl qB⟩, ?_⟩;refine⟨G,At Δ,E.st.gh,E.dU, ?_⟩;cases e3:fk (At Δ) with
   |ex x=>simp only[e3]at q;exact q.elim
   |no=>simp only[e3]at q;exact q.elim
   |ok z=>
    simp only[e3]at q;refine WP.intro λv2 G2 H2 aT r2=> ?_
    split at q
    ·rename_i k0 ek
     split at q
     ·rename_i iO;have mH:=mP r2 ek;subst mH;have E2:=E.grow aT;obtain⟨d0,Of⟩:=M7.mp iO;obtain⟨vv,ev,_⟩:=(jD k0 nh ql).2 d0 Of;obtain⟨p1,p2⟩:=xl k0 nh ql;exact⟨qr,k0,vv,aT.hh _ _ qB,rfl,ev,q σ G2 _ _ (E2.kq e1 ed s1 mc p1 (p2.mono aT.gg)) aT.gg⟩
     ·exact q.elim
    ·exact q.elim
  ·exact q.elim
end
section
variable{K:Frag}{G H:Hp}{a:Addr}{ob:Obj}{kvs:List (Ae×V)}
def rM(ga:G a=some (.aQ ob (.dK kvs))){b:Addr}{o:HO}(e:G b=some o)(n:∀ob kvs,o≠ .aQ ob (.dK kvs)):aN G (λb=>b=a) b=some o:=
 (ur (S:=λb=>b=a) λz=>by subst z;rw[ga]at e;cases e;exact n _ _ rfl).trans e
def VB(ga:G a=some (.aQ ob (.dK kvs))){b:Addr}{xs:List V}(h:Rd G b (.lst xs)):Rd (aN G λb=>b=a) b (.lst xs):=by
 rcases h with h|⟨o,h⟩
 ·exact .inl (rM ga h λ_ _ z=>by cases z)
 ·exact .inr ⟨o,rM ga h λ_ _ z=>by cases z⟩
def VA(ga:G a=some (.aQ ob (.dK kvs))){b:Addr}{xs:List V}(h:Rd G b (.tup xs)):Rd (aN G λb=>b=a) b (.tup xs):=by
 rcases h with h|⟨o,h⟩
 ·exact .inl (rM ga h λ_ _ z=>by cases z)
 ·exact .inr ⟨o,rM ga h λ_ _ z=>by cases z⟩
mutual
theorem aM.cJ(ga:G a=some (.aQ ob (.dK kvs))):∀{v:V} {d:D},aM K G v d->Dc d=true->aM K (aN G λb=>b=a) v d
 |_,_,.aK,_=> .aK
 |_,_,.bl b,_=> .bl b
 |_,_,.int i,_=> .int i
 |_,_,.str x,_=> .str x
 |_,_,.lst h r,e=>by
  simp only[Dc]at e;exact .lst (h.elim (λz=> .inl (VB ga z)) .inr) (aC.cJ ga r e)
 |_,_,.tup h r,e=>by
  simp only[Dc]at e;exact .tup (h.elim (λz=> .inl (VA ga z)) .inr) (aC.cJ ga r e)
 |_,_,.dP _ _,e=>by simp only[Dc]at e;cases e
 |_,_,.dO _ _ _ _ _,e=>by simp only[Dc]at e;cases e
 |_,_,.aE _ _ _,e=>by simp only[Dc]at e;cases e
 |_,_,.obj _ _ _ _,e=>by simp only[Dc]at e;cases e
theorem aC.cJ(ga:G a=some (.aQ ob (.dK kvs))):∀{vs:List V} {ds:List D},aC K G vs ds->Ef ds=true->aC K (aN G λb=>b=a) vs ds
 |_,_,.nil,_=> .nil
 |_,_,.cons h r,e=>by
  simp only[Ef,D5]at e;exact .cons (aM.cJ ga h e.1) (aC.cJ ga r e.2)
end
mutual
theorem Ow.cJ{H':Hp}(ga:G a=some (.aQ ob (.dK kvs)))(k:∀b o,b≠a->H b=some o->H' b=some o):∀{v:V} {t:Tn} {S':AS},Ow K G H v t S'->Dg t=true->(∀b,S' b->b≠a)->Ow K (aN G λb=>b=a) H' v t S'
 |_,_,_,.sh h,e,_=>by simp only[Dg]at e;exact .sh (h.cJ ga e)
 |_,_,_,.lst h ha sub r,e,n=>by simp only[Dg]at e;exact .lst (k _ _ (n _ ha) h) ha sub (aR.cJ ga k r e λb hb=>n b (sub b hb).1)
 |_,_,_,.tup h ha sub r,e,n=>by simp only[Dg]at e;exact .tup (k _ _ (n _ ha) h) ha sub (aR.cJ ga k r e λb hb=>n b (sub b hb).1)
 |_,_,_,.aE h hk ha sub r,e,n=>by simp only[Dg]at e;exact .aE (k _ _ (n _ ha) h) hk ha sub (aR.cJ ga k r (by rw[xV];exact e) λb hb=>n b (sub b hb).1)
 |_,_,_,.obj hc h hl ha sub r,e,n=>by simp only[Dg]at e;exact .obj hc (k _ _ (n _ ha) h) hl ha sub (aR.cJ ga k r e λb hb=>n b (sub b hb).1)
theorem aR.cJ{H':Hp}(ga:G a=some (.aQ ob (.dK kvs)))(k:∀b o,b≠a->H b=some o->H' b=some o):∀{vs:List V} {ts:List Tn} {S':AS},aR K G H vs ts S'->iP ts=true->(∀b,S' b->b≠a)->aR K (aN G λb=>b=a) H' vs ts S'
 |_,_,_,.nil,_,_=> .nil
 |_,_,_,.cons h r dj s1 s2,e,n=>by
  simp only[iP,D5]at e;exact .cons (Ow.cJ ga k h e.1 λb hb=>n b (s1 b hb)) (aR.cJ ga k r e.2 λb hb=>n b (s2 b hb)) dj s1 s2
end
end
def jt(j:Nat)(aA:List (Ae×D))(Δ1:SE):Option SE:=match Δ1[j]? with
 |some (.lt (.sh (.aE _)))=>if(Δ1.set j .no).all kG=true then some (Δ1.set j (.lt (Tn.of (.aE aA)))) else none
 |_=>none
def nM(j:Nat)(aA:List (Ae×D)):Fl->Fl
 | .nx Δ1=>(match jt j aA Δ1 with|some Δ2=> .nx Δ2|none=> .no)
 | .rv d Δ1=>if Dc d=true then(match jt j aA Δ1 with|some Δ2=> .rv d Δ2|none=> .no) else .no
 |_=> .no
def rn(j:Nat)(fg:FG)(gb:FS):FS:=λ Δ=>match Δ[j]? with
 |some (.lt (.aE zk))=>(match Gg zk with
  |some aA=>nM j aA (De fg gb (aA.map λp=> .tup [kD p.1,p.2]) (Δ.set j (.lt (.sh (.aE aA)))))
  |none=> .no)
 |_=> .no
def Ev.back{H0:HB}{G0 G G2 H2:Hp}{σ:Sg}{Δ1 Δ2:SE}{O:OS}{j:Nat}{a:Addr}{ob:Obj}{kvs:List (Ae×V)}{aA:List (Ae×D)}(E:Ev K H0 G0 G2 H2 σ Δ1 O)(hb:H0.b j=a)(h0:H0.h a=none)(g0:G0 a=none)(sg:aB (upd G a (.aQ ob (.dK kvs))) G2)(uS:G a=none)(hk:kvs.map (·.1)=aA.map (·.1))(rl:aC K G (kvs.map (·.2)) (aA.map (·.2)))(e:jt j aA Δ1=some Δ2):
  Ev K H0 G0 (aN G2 λb=>b=a) (upd H2 a (.dK kvs)) σ Δ2 (λi b=>(i=j/\b=a)\/(i≠j/\O i b))/\aB G (aN G2 λb=>b=a):=by
 have ga:G2 a=some (.aQ ob (.dK kvs)):=sg _ _ Bf;have sG:aB G (aN G2 λb=>b=a):=λb o q=>by
  have ne:b≠a:=λz=>by subst z;rw[uS]at q;cases q
  rw[ur (S:=λb=>b=a) ne];exact sg b o (by rw[Ao ne];exact q)
 refine⟨?_,sG⟩;unfold jt at e
 split at e
 ·rename_i kk ej
  split at e
  ·rename_i pa;cases e;have s1:=E.lt j _ ej;rw[hb]at s1;have hl1:j < Δ1.length:=by
    rcases Nat.lt_or_ge j Δ1.length with h|h
    ·exact h
    ·rw[K0 h]at ej;cases ej
   have gi:∀(i:Nat) (s:Sl),i≠j->(Δ1.set j (.lt (Tn.of (.aE aA))))[i]? =some s->Δ1[i]? =some s/\kG s=true:=λi s h q=>by
    rw[C4 λz=>h z.symm]at q;refine⟨q,F8.mp pa s ?_⟩;have:(Δ1.set j .no)[i]? =some s:=by rw[C4 λz=>h z.symm];exact q
    exact J8 this
   have gj:(Δ1.set j (.lt (Tn.of (.aE aA))))[j]? =some (.lt (Tn.of (.aE aA))):=by rw[F7 hl1]
   have na:∀i b,O i b->b≠a:=λi b h z=>by
    have:=(E.out i b h).1;rw[z,ga]at this;cases this
   refine⟨⟨λb o q=> ?_,λb o q=> ?_,λb o q=> ?_,λb n z=> ?_⟩,by rw[F9];exact E.len,λi d q=> ?_,λi s t q o=> ?_,λi b h=> ?_,λi k b g1 g2=> ?_,λi d q=> ?_,λi t q=> ?_⟩
   ·have ne:b≠a:=λz=>by subst z;rw[h0]at q;cases q
    rw[Ao ne];exact E.st.hh b o q
   ·have ne:b≠a:=λz=>by rw[oR (S:=λb=>b=a) z]at q;cases q
    rw[Ao ne];exact E.st.gh b o (bN b o q)
   ·have ne:b≠a:=λz=>by subst z;rw[g0]at q;cases q
    rw[ur (S:=λb=>b=a) ne];exact E.st.gg b o q
   ·exact bN.free (E.st.nw b n z)
   ·by_cases h:i=j
    ·subst h;rw[gj]at q;cases q
    ·obtain⟨q,pl⟩:=gi i _ h q;obtain⟨v,e1,r⟩:=E.sh i d q;exact⟨v,e1,r.cJ ga pl⟩
   ·by_cases h:i=j
    ·subst h;rw[gj]at q;cases q;cases o;exact⟨.ref a,s1,Ow.dict Bf hk (.inl ⟨rfl,rfl⟩) (rl.mono sG)⟩
    ·obtain⟨q,pl⟩:=gi i _ h q;obtain⟨v,e1,r⟩:=E.ow i s t q o;refine⟨v,e1,Ow.mono (aB.refl _) (Ow.cJ (H':=upd H2 a (.dK kvs)) ga (λb o ne q=>by rw[Ao ne];exact q) r (Ym pl o) λb hb=>na i b hb) (λ_ _ _ q=>q) λb hb=> .inr ⟨h,hb⟩⟩
   ·rcases h with⟨_,rfl⟩|⟨_,h⟩
    ·exact⟨oR (S:=λx=>x=b) rfl,h0,by rw[Bf];exact λz=>by cases z⟩
    ·have:=E.out i b h;exact⟨bN.free this.1,this.2.1,by rw[Ao (na i b h)];exact this.2.2⟩
   ·rcases g1 with⟨rfl,g1⟩|⟨_,g1⟩ <;> rcases g2 with⟨rfl,g2⟩|⟨_,g2⟩
    ·rfl
    ·exact absurd g1 (na _ _ g2)
    ·exact absurd g2 (na _ _ g1)
    ·exact E.dj i k b g1 g2
   ·by_cases h:i=j
    ·subst h;rw[gj]at q;cases q
    ·exact E.lk i d (gi i _ h q).1
   ·by_cases h:i=j
    ·subst h;rw[hb];exact s1
    ·exact E.lt i t (gi i _ h q).1
  ·cases e
 ·cases e
section
variable{X:Cx}{EX:Ax}{pos:Pos}{elts:List Expr}{x1:Nat}{tp zf zd:Pos}
def Vz{j:Nat}{y:Str}{p1:Pos}{body:List Stmt}{fg:FG}{g:FS}(hp:PassesOwn (model X.prog X.w) X.A X.env X.xe)(hc:X.calm=true)(hg:GD X EX (.Tuple elts x1 tp) fg)(hb:BD X EX body g)
  (hN:X.N[j]? =some y:=by rfl) (hv:Fm X.env.scope y:=by trivial) (hd:AG y:=by decide) (bO:(y ==("__classdict__" :Str))=false:=by decide)
  (hs:∀x,foldedSetIterable (.Call (.Attribute (.Name y p1) "items" zf) [] [] zd) X.env x=pure x:=by intro _;rfl) (af:attributeBase (.Name y p1) "items" X.env (eval (.Name y p1) X.env)=eval (.Name y p1) X.env:=by rfl) (ae:(zf.endLine ==zd.line)=true:=by rfl):SD X EX (.For (.Tuple elts x1 tp) (.Call (.Attribute (.Name y p1) "items" zf) [] [] zd) body [] pos) (rn j fg g):=
 PS.imp (DH (rF hp hc (xi (Fd hN hv hd bO) af ae) hg hb hs)) λD σ H ⟨H0,G0,G,Δ,O,E,q⟩=>by
  unfold rn at q
  split at q
  ·rename_i zk ej
   split at q
   ·rename_i aA eu;obtain⟨v,s1,t⟩:=E.ow j _ _ ej rfl;rw[yA eu]at t;obtain⟨a,kvs,rfl,m,hH,hk,rl⟩:=Ow.cE (aA:=aA) t;have s2:=E.lt j _ ej;rw[s1]at s2;have NT:H0.b j=a:=by cases s2;rfl
    obtain⟨uS,h0,_⟩:=E.out j a m;have g0:G0 a=none:=by
     cases e:G0 a with
     |none=>rfl
     |some o=>rw[E.st.gg _ _ e]at uS;cases uS
    have hjl:j < Δ.length:=by
     rcases Nat.lt_or_ge j Δ.length with h|h
     ·exact h
     ·rw[K0 h]at ej;cases ej
    refine⟨.ref a,s1,a,kvs,rfl,.inl ⟨hH,λob nf=> ?_⟩⟩;have sG:=jV uS (.aQ ob (.dK kvs));have gi:∀(i:Nat) (s:Sl),i≠j->(Δ.set j (.lt (.sh (.aE aA))))[i]? =some s->Δ[i]? =some s:=λi s h q=>by
     rwa[C4 λz=>h z.symm]at q
    have gj:(Δ.set j (.lt (.sh (.aE aA))))[j]? =some (.lt (.sh (.aE aA))):=by rw[F7 hjl]
    have na:∀i b,i≠j->O i b->b≠a:=λi b h ho z=>h (E.dj i j b ho (by rw[z];exact m));have E1:Ev X.K H0 G0 (upd G a (.aQ ob (.dK kvs))) (upd H a (.aQ ob (.dK kvs))) σ (Δ.set j (.lt (.sh (.aE aA)))) (λi b=>i≠j/\O i b):=by
     refine⟨⟨λb o q=> ?_,yD E.st.gh _ _,E.st.gg.trans sG,λb n z=> ?_⟩,by rw[F9];exact E.len,λi d q=> ?_,λi s t q o=> ?_,λi b ⟨h,ho⟩=> ?_,λi k b ⟨_,h1⟩ ⟨_,h2⟩=>E.dj i k b h1 h2,λi d q=> ?_,λi t q=> ?_⟩
     ·have ne:b≠a:=λz=>by subst z;rw[h0]at q;cases q
      rw[Ao ne];exact E.st.hh b o q
     ·have ne:b≠a:=λy=>z (by rw[y];exact h0);rw[Ao ne];exact E.st.nw b n z
     ·by_cases h:i=j
      ·subst h;rw[gj]at q;cases q
      ·obtain⟨v,e1,r⟩:=E.sh i d (gi i _ h q);exact⟨v,e1,r.mono sG⟩
     ·by_cases h:i=j
      ·subst h;rw[gj]at q;cases q;cases o;exact⟨.ref a,s1,.sh (.aE (.inr ⟨ob,Bf⟩) hk (rl.mono sG))⟩
      ·obtain⟨v,e1,r⟩:=E.ow i s t (gi i _ h q) o;exact⟨v,e1,r.mono sG (λb o hb q=>by rw[Ao (na i b h hb)];exact q) λb hb=>⟨h,hb⟩⟩
     ·have:=E.out i b ho;have ne:=na i b h ho;exact⟨by rw[Ao ne];exact this.1,this.2.1,by rw[Ao ne];exact this.2.2⟩
     ·by_cases h:i=j
      ·subst h;rw[gj]at q;cases q
      ·exact E.lk i d (gi i _ h q)
     ·by_cases h:i=j
      ·subst h;rw[NT];exact s1
      ·exact E.lt i t (gi i _ h q)
    refine uG E1 (zI Bf hk (rl.mono sG)) ?_;cases r:De fg g (aA.map λp=> .tup [kD p.1,p.2]) (Δ.set j (.lt (.sh (.aE aA)))) with
    |nx Δ1=>
     rw[r]at q;unfold nM at q;simp only at q;cases eb:jt j aA Δ1 with
     |none=>simp only[eb]at q;exact q.elim
     |some Δ2=>
      simp only[eb]at q;intro σ2 G2 H2 O2 E2 s2;obtain⟨E3,Nn⟩:=E2.back NT h0 g0 s2 uS hk rl eb;exact .inr ⟨a,ob,kvs,E2.st.gh _ _ (s2 _ _ Bf),nf,q σ2 _ _ _ E3 Nn⟩
    |rv d Δ1=>
     rw[r]at q;unfold nM at q;simp only at q
     split at q
     ·rename_i pd;cases eb:jt j aA Δ1 with
      |none=>simp only[eb]at q;exact q.elim
      |some Δ2=>
       simp only[eb]at q;intro v σ2 G2 H2 O2 E2 s2 rv;obtain⟨E3,Nn⟩:=E2.back NT h0 g0 s2 uS hk rl eb;exact .inr ⟨a,ob,kvs,E2.st.gh _ _ (s2 _ _ Bf),nf,q v σ2 _ _ _ E3 Nn (rv.cJ (s2 _ _ Bf) pd)⟩
     ·exact q.elim
    |bk Δ1=>rw[r]at q;exact q.elim
    |ct Δ1=>rw[r]at q;exact q.elim
    |ex x Δ1=>rw[r]at q;exact q.elim
    |rt w=>rw[r]at q;exact q.elim
    |no=>rw[r]at q;exact q.elim
   ·exact q.elim
  ·exact q.elim
end
def gY:D->Bool
 | .lst ds=>ds.all Bh
 |_=>false
def vn(d:D):D->R W
 | .lst ds=>if(ds.all λy=>gY y && Fo y d)=true then .ok (.sh (.bl (ds.any λy=>Ek y d))) else .no
 |_=> .no
def Vy{zc:AE}{σ:Sg}{s:Shared}(I:Inv X zc σ H s){G:Hp}(g:aB G H){v v':V}{d d':D}{u:Value}(h:aM X.K G v d)(h':aM X.K G v' d')(r:RelV v u)(r':RelV v' u)(f:gY d=true)(f':gY d'=true):d'=d:=by
 cases h with
 |lst q l=>
  cases h' with
  |lst q' l'=>
   cases r;cases r';have:=I.eE (g.seq q) (g.seq q');subst this;rw[aC.eV l l' f]
  |_=>cases f'
 |_=>cases f
open Classical in
def To(hu:X.A.units + 64 < cLine):Ee X (compareOp .In) vn:=by
 intro zc s σ H x y v u Q I rx ry q;obtain⟨EX,G,a,b,g,ra,rb,o⟩:=q;cases rb with
 |lst h r=>
  rename_i ds;have o':Out X.K EX G H (if(ds.all λy=>gY y && Fo y a)=true then .ok (.sh (.bl (ds.any λy=>Ek y a))) else .no) Q:=o
  split at o'
  ·rename_i hc;have hc:=F8.mp hc;cases ry;obtain⟨its,rv,pl,hz⟩:=I.list (g.seq h);have el:∀(i:Nat) (w:Value),its[i]? =some w->∃d v0,ds[i]? =some d/\aM X.K G v0 d/\RelV v0 w/\gY d=true/\Fo d a=true:=λi w e=>by
    have hi:=(B5.mp e).1;have l1:=rv.length;have l2:=r.length;obtain⟨d,hd⟩:∃d,ds[i]? =some d:=⟨_,A8 ()⟩;obtain⟨v0,e1,h0⟩:=r.get hd;obtain⟨w0,e2,r0⟩:=rv.get e1;rw[e]at e2;cases e2;have:=hc d (J8 hd);rw[D5]at this;exact⟨d,v0,hd,h0,r0,this.1,this.2⟩
   have same:∀(i j:Nat) (w:Value) (d d':D),its[i]? =some w->its[j]? =some w->ds[i]? =some d->ds[j]? =some d'->d'=d:=λi j w d d' e e' q q'=>by
    obtain⟨d1,v1,a1,a2,a3,a4,_⟩:=el i w e;obtain⟨d2,v2,b1,b2,b3,b4,_⟩:=el j w e';rw[q]at a1;cases a1;rw[q']at b1;cases b1;exact Vy I g a2 b2 a3 b3 a4 b4
   let e:Value->Bool:=λw=>decide (∃(i:Nat) (d:D),its[i]? =some w/\ds[i]? =some d/\Ek d a=true)
   have ee:∀(j:Nat) (w:Value) (d:D),its[j]? =some w->ds[j]? =some d->e w=Ek d a:=λj w d q1 q2=>by
    rw[O9,V2];exact⟨λ⟨i,d',z1,z2,z3⟩=>by rw[same i j w d' d z1 q1 z2 q2];exact z3,λz=>⟨j,d,q1,q2,z⟩⟩
   refine SeqAt.in_listAt e pl.isList (λw hw=> ?_) ⟨.bl _,H,I,rfl, ?_⟩
   ·obtain⟨j,hj,rfl⟩:=X6.mp (show w∈its by simpa using hw);obtain⟨d,v0,q1,q2,q3,_,q5⟩:=el j _ (A8 hj);rw[ee j _ d (A8 hj) q1];unfold Fo at q5;rw[D5,D5]at q5;obtain⟨⟨h1,h2⟩,h3⟩:=q5;have h3:=L6 h3;obtain⟨as,za⟩:=aM.reads rfl I g h1 q2 q3;obtain⟨bs,zb⟩:=aM.reads rfl I g h2 ra rx;refine SeqAt.eqAt_reads _ _ _ _ _ _ as bs za zb h1 h2 ?_;show X.A.units + 1 + min (Du d).depth (Du a).depth < cLine;have:=OO (Du d).depth (Du a).depth;lia
   ·have ea:its.toArray.any e=ds.any λy=>Ek y a:=by
     rw[O9,X0,Array.any_eq_true'];constructor
     ·rintro ⟨w,hw,hew⟩
      obtain⟨j,hj,rfl⟩:=X6.mp (show w∈its by simpa using hw);obtain⟨d,v0,q1,_⟩:=el j _ (A8 hj);exact⟨d,J8 q1,by rw[<-ee j _ d (A8 hj) q1];exact hew⟩
     ·rintro ⟨d,hd,hev⟩
      obtain⟨j,hj,rfl⟩:=X6.mp hd;have l1:=rv.length;have l2:=r.length;have Mp:j < its.length:=by lia
      refine⟨its[j],by simp, ?_⟩;rw[ee j _ _ (A8 Mp) (A8 hj)];exact hev
    rw[ea];exact Cz o' g (.bl _)
  ·exact o'.elim
 |_=>exact False.elim o
end L3
local macro_rules|`(#v[])=>`(L3.Ad)|`(#v[$n:num])=>`(L3.Ab (L3.Aa $n) L3.Ad)|`(#v[$x])=>`(L3.Ab $x L3.Ad)|`(#v[$n:num,$xs,*])=>`(L3.Ab (L3.Aa $n) #v[$xs,*])|`(#v[$x,$xs,*])=>`(L3.Ab $x #v[$xs,*])
namespace My
open PySem L2 L3
def Ja:FS:=
  (Af (Al 2 [0,1] (Ag Bz (Ag Dr (Ag Bv (Aa 0) (eC (.int 1))) (Ag Bv (eC (.int 48271)) (Ag Dr (eC (.int 118)) (Aa 1)))) (eC (.int 2147483629))))
  (Au [1,2] (Ag Bz (Ag Bv (Ag Bv (Ag Dr (Ag Cv (Aa 2) (eC (.int 977))) (eC (.int 16807))) (Ag Dr (Aa 2) (Ag Bv (Ag Dr (Aa 1) (Aa 1)) (eC (.int 7))))) (Aa 1)) (eC (.int 2147483587)))))
def mK:List D->R W:=An 3 Ja
def JN:FS:=
  (Af (Al 2 [] (eC (.int 0)))
  (Af (Bu [0,1] (Aj (Ag tN (Aa 1) (Av Dd #v[0])))
   (Al 2 [0,1] (Ag Bz (Ag Ba (Aa 0) (Aa 1)) (eC (.int 2147483647))))
   Az)
  (Au [1,2] (Bj 2 mK #v[2,Ag Bv (Aa 1) (eC (.int 101))]))))
def qa:List D->R W:=An 3 JN
def Kq:FS:=
  (Af (Al 2 [0] (Bj 2 qa #v[0,eC (.int 1)]))
  (Af (Al 3 [1,2] (Ag Bv (eC (.int 1)) (Ag Bz (Aa 2) (Aa 1))))
  (Af (Al 4 [2] (Ag Ba (Dq #v[eC (.int 0),eC (.int 1),Ag Bz (Ag Cv (Aa 2) (eC (.int 64))) (eC (.int 1000)),Ag Bv (Ag kZ (eC (.int 10)) (eC (.int 12))) (Aa 2)]) (Ag Bz (Ag Cv (Aa 2) (eC (.int 32))) (eC (.int 4)))))
  (Af (Al 5 [2] (Bj 2 mK #v[2,eC (.int 5)]))
  (Af (Al 6 [5] (Ag Ba (Dq #v[eC (.int 2),eC (.int 3),Ag Bv (eC (.int 2)) (Ag Bz (Ag Cv (Aa 5) (eC (.int 8))) (eC (.int 9))),eC (.int 10),eC (.int 1000),eC (.int 1000000000),Ag Bv (eC (.int 2)) (Ag Bz (Ag Cv (Aa 5) (eC (.int 8))) (eC (.int 999999999))),eC (.int 7)]) (Ag Bz (Aa 5) (eC (.int 8)))))
  (Au [3,4,6] (Ds #v[3,4,6])))))))
def AK:List D->R W:=An 7 Kq
def JM:FS:=
  (Af (Al 3 [0,1] (Av maxD #v[eC (.int 0),Ag En (Av Dd #v[0]) (Aa 1)]))
  (Au [0,1,2,3] (Av minD #v[2,Av maxD #v[3,Ag Bz (Bj 2 qa #v[0,Ag En (Aa 1) (eC (.int 1))]) (Ag Bv (Aa 2) (eC (.int 1)))]])))
def zR:List D->R W:=An 4 JM
def xC:FS:=
  (Af (Al 2 [] (eC (.int 0)))
  (Af (Bu [0,1] (Aj (Ag tN (Aa 1) (Av Dd #v[0])))
   (Al 2 [0,1] (Ag Ba (Aa 0) (Aa 1)))
   Az)
  (Af (Bu [0] (Aj (Ag Dj (Ag Bz (Bj 2 qa #v[0,eC (.int 0)]) (eC (.int 2))) (eC (.int 0))))
   (Cb 2)
   Az)
  (Au [1,2] (Bj 2 mK #v[Bj 2 mK #v[Ag Bz (Aa 2) (eC (.int 2147483647)),Ag Bv (Aa 1) (eC (.int 7))],1])))))
def yF:List D->R W:=An 3 xC
def yc:FS:=
  (Af (Al 1 [1,2] (Ag Bv (Aa 1) (Ag Ba (eC (.str "abcdefghijklmnopqrstuvwxyz0123456789-_ ")) (Ag Bz (Aa 2) (eC (.int 39))))))
  (Al 2 [2] (Ag Cv (Aa 2) (eC (.int 39)))))
def JL:FS:=
  (Af (Al 1 [] (eC (.str "")))
  (Af (Al 2 [0] (Ag Cv (Aa 0) (eC (.int 12))))
  (Af (Db [0] (Gu gT #v[Ag Bz (Aa 0) (eC (.int 12))]) (gV 3) yc)
  (Cb 1))))
def zQ:List D->R W:=An 4 JL
def zH:FS:=
  (Af (Al 1 [0] (Ag Cv (Aa 0) (eC (.int 4))))
  (Af (Bu [0] (Aj (Ag Dj (Ag Bz (Aa 0) (eC (.int 4))) (eC (.int 0))))
   (Au [1] (Ag Bz (Aa 1) (Ag kZ (eC (.int 10)) (eC (.int 18)))))
   Az)
  (Af (Bu [0] (Aj (Ag Dj (Ag Bz (Aa 0) (eC (.int 4))) (eC (.int 1))))
   (Au [1] (Bj 1 zQ #v[1]))
   Az)
  (Au [0,1] (Ag Bz (Aa 1) (Ag Ba (Dq #v[eC (.int 50),eC (.int 12)]) (Ag En (Ag Bz (Aa 0) (eC (.int 4))) (eC (.int 2)))))))))
def tK:List D->R W:=An 2 zH
def Yi:FS:=
  (Af (Al 5 [0,1,2] (Bj 2 yF #v[0,Ag Bv (Aa 1) (Ag Bz (Aa 2) (Av maxD #v[eC (.int 1),Ag En (Av Dd #v[0]) (Aa 1)]))]))
  (Af (Bu [0] (Aj (Ag Dj (Ag Bz (Bj 2 qa #v[0,eC (.int 0)]) (eC (.int 2))) (eC (.int 1))))
   (Al 5 [2,5] (Bj 2 mK #v[Ag Bz (Aa 5) (eC (.int 2147483647)),2]))
   Az)
  (Af (Al 6 [5] (Ag Bz (Aa 5) (eC (.int 8))))
  (Af (Al 7 [5] (Ag Cv (Aa 5) (eC (.int 8))))
  (Af (Al 8 [4,7] (Ag Bz (Aa 7) (Ag Ba (Aa 4) (eC (.int 2)))))
  (Af (Al 9 [4,7] (Bj 1 tK #v[Ag Cv (Aa 7) (Ag Ba (Aa 4) (eC (.int 2)))]))
  (Af (Bu [3,6] (Dz (Aj (Ag yZ (Aa 6) (eC (.int 4)))) (Aj (Ag nU (Aa 3) fN)))
   (Al 9 [3,4,7] (Ag Ba (MB (Aa 3)) (Ag Bz (Ag Cv (Aa 7) (Ag Ba (Aa 4) (eC (.int 2)))) (Av fJ #v[3]))))
   Az)
  (Au [6,8,9] (Ds #v[Ag Ba (Dq #v[eC (.int 0),eC (.int 0),eC (.int 0),eC (.int 0),eC (.int 0),eC (.int 0),eC (.int 1),eC (.int 1)]) (Aa 6),9,8])))))))))
def yI:List D->R W:=An 10 Yi
def Kp:FS:=
  (Au [0] (Fv (jY "int" (Aa 0)) (qQ (jY "bool" (Aa 0)))))
def uK:List D->R W:=An 1 Kp
def Lg:FS:=
  (Au [0] (Av vR #v[Dm ["Living"] "listed" (Aa 0)]))
def gN:List D->R W:=An 1 Lg
def NC:FT:=
  (Fy (Bx (Bb (Bj 1 uK #v[3]))) (Bx (Aj (mR tO tN (eC (.int 0)) (Aa 3) (Ag Ba (Aa 1) (eC (.int 2)))))))
def x_4:FS:=
  (Af (Al 2 [0] (Cg "table" 0 [("Living",gN)] (Aa 0) Ad))
  (Af (Bu [1,2] (Fy (Bx (Bb (jY "list" (Aa 2)))) (Aj (Ag Ck (Av Dd #v[2]) (Ag Dr (eC (.int 2)) (Ag Ba (Aa 1) (eC (.int 0)))))))
   (Au [] (eC (.bl false)))
   Az)
  (Au [1,2] (Ag Dj (Ct 1 (Ej (Aa 2)) (gC 3) NC (Aa 3)) (Dq Ad)))))
def BO:List D->R W:=An 3 x_4
def Na:FS:=
  (Al 1 [1,2] (Ag Bv (Ag Bv (Ag Dr (eC (.int 40)) (Aa 1)) (eC (.int 1))) (ki "str" lL (eC (.str "abcdefghijklmnopqrstuvwxyz0123456789-_ ")) #v[2])))
def xW:FS:=
  (Af (Bu [0] (Bb (jY "int" (Aa 0)))
   (Au [0] (Ag Dr (eC (.int 2)) (Aa 0)))
   Az)
  (Af (Al 1 [] (eC (.int 0)))
  (Af (Db [0] (Ej (Aa 0)) (gV 2) Na)
  (Au [1] (Ag Bv (Ag Dr (eC (.int 2)) (Aa 1)) (eC (.int 1)))))))
def tT:List D->R W:=An 3 xW
def Ko:FS:=
  (Af (Al 3 [] (eC (.int 2305843009213693951)))
  (Af (Al 4 [1,3] (Ag Bv (eC (.int 1)) (Ag Bz (Ag Bv (Ag Dr (eC (.int 1103515245)) (Aa 1)) (eC (.int 12345))) (Ag En (Aa 3) (eC (.int 1))))))
  (Af (Al 5 [0,1,3,4] (Ag Bz (Ag Bv (Ag Dr (Aa 4) (Aa 0)) (Ag Bz (Ag Bv (Ag Dr (Ag Dr (eC (.int 69069)) (Aa 1)) (Aa 1)) (Ag Dr (eC (.int 7)) (Aa 1))) (Aa 3))) (Aa 3)))
  (Au [2,5] (Ag Bz (Ag Bv (Aa 5) (Ag Cv (Aa 5) (eC (.int 2147483648)))) (Aa 2))))))
def yK:List D->R W:=An 6 Ko
def KL:FS:=
  (Af (Fu (oh [3,4,5]) [1] (Aa 1))
  (Af (Al 2 [0] (Bj 1 tT #v[0]))
  (Au [2,3,4] (Ds #v[Bj 3 yK #v[2,Ag Dr (eC (.int 4)) (Aa 4),3],Ag Bv (Aa 3) (Bj 3 yK #v[2,Ag Bv (Ag Dr (eC (.int 4)) (Aa 4)) (eC (.int 1)),3])]))))
def mL:List D->R W:=An 6 KL
def Ma:FE:=
  (Ag (inD false) (Aa 1) (eC (.str "abcdefghijklmnopqrstuvwxyz0123456789-_ ")))
def KU:FS:=
  (Au [0] (Fv (Ag tO (Av Dd #v[0]) (eC (.int 11))) (Av oO #v[(Ct 1 (Ej (Aa 0)) (gC 1) (λ_=> .ok true) Ma)])))
def AV:List D->R W:=An 1 KU
def xf:FS:=
  (Af (Bu [0] (Bb (jY "bool" (Aa 0)))
   (Au [] (eC (.bl false)))
   Az)
  (Af (Bu [0] (Bb (jY "int" (Aa 0)))
   (Au [0] (mR tO tO (eC (.int 0)) (Aa 0) (eC (.int 999999999999999999))))
   Az)
  (Au [0] (Fv (jY "str" (Aa 0)) (Bj 1 AV #v[0])))))
def yz:List D->R W:=An 1 xf
def xB:FS:=
  (Al 1 [1,2] (Ag Bv (Ag Bv (Ag Dr (eC (.int 40)) (Aa 1)) (ki "str" oo (eC (.str "abcdefghijklmnopqrstuvwxyz0123456789-_ ")) #v[2])) (eC (.int 1))))
def GJ:FS:=
  (Af (Al 1 [] (eC (.int 0)))
  (Af (Db [0] (Ej (Aa 0)) (gV 2) xB)
  (Cb 1)))
def oM:List D->R W:=An 3 GJ
def wz:FS:=
  (Af (Bu [0] (Bx (Bb (Bj 1 yz #v[0])))
   (lH "NoKey" "at" [] (eC (.int 0)))
   Az)
  (Af (Bu [0] (Bb (jY "str" (Aa 0)))
   (Au [0] (Ag Bv (Ag Dr (eC (.int 2)) (Bj 1 oM #v[0])) (eC (.int 1))))
   Az)
  (Au [0] (Ag Dr (eC (.int 2)) (Aa 0)))))
def kM:List D->R W:=An 1 wz
def GI:FS:=
  (Af (Bu [2] (Aj (Ag Dj (Aa 2) (eC (.int 0))))
   (Au [] (eC (.int 0)))
   Az)
  (Af (Al 3 [1] (Ag Bv (eC (.int 1)) (Ag Bz (Ag Bv (Ag Dr (eC (.int 1103515245)) (Aa 1)) (eC (.int 12345))) (Ag En (eC (.int 2305843009213693951)) (eC (.int 1))))))
  (Af (Al 4 [1] (Ag Bz (Ag Bv (Ag Dr (Ag Dr (eC (.int 69069)) (Aa 1)) (Aa 1)) (Ag Dr (eC (.int 7)) (Aa 1))) (eC (.int 2305843009213693951))))
  (Af (Al 5 [0,3,4] (Ag Bz (Ag Bv (Ag Dr (Aa 3) (Aa 0)) (Aa 4)) (eC (.int 2305843009213693951))))
  (Au [2,5] (Ag Bz (Ag Bv (Aa 5) (Ag Cv (Aa 5) (eC (.int 2147483648)))) (Aa 2)))))))
def oK:List D->R W:=An 6 GI
def LW:FE:=
  (Ag Bv (Ag Dr (Aa 5) (Aa 3)) (Bj 3 oK #v[4,Ag Bv (Ag Dr (eC (.int 4)) (Aa 1)) (Aa 5),3]))
def Kn:FS:=
  (Af (Al 4 [0] (Bj 1 kM #v[0]))
  (Au [1,2,3,4] (Av vH #v[(Ct 1 (Gu gT #v[2]) (gC 5) (λ_=> .ok true) LW)])))
def AJ:List D->R W:=An 5 Kn
def Ll:FS:=
  (Au [0,1] (Bj 4 AJ #v[1,Dm ["Living"] "by_salt" (Aa 0),eC (.int 2),Dm ["Living"] "part" (Aa 0)]))
def iV:List D->R W:=An 2 Ll
def sL:FS:=
  (Au [0,1] (Fv (qQ (jY "bool" (Aa 0))) (mR tO tN (eC (.int 0)) (Aa 0) (Aa 1))))
def qu:List D->R W:=An 2 sL
def Km:FS:=
  (Au [0,1] (BY (Aj (Ag Dj (Aa 1) (eC (.int 0)))) (eC (.int 0)) (Ag Bz (Aa 0) (Aa 1))))
def yJ:List D->R W:=An 2 Km
def zP:FE:=
  (Ag Ba (Aa 0) (Aa 4))
def zO:FT:=
  (Bb (Bj 2 qu #v[4,Av Dd #v[0]]))
def HS:FS:=
  (Af (Al 3 [0,1] (Ct 1 (Ej (Aa 1)) (gC 4) zO zP))
  (Au [2,3] (Bj 2 yJ #v[Av nI #v[3],2])))
def pf:List D->R W:=An 4 HS
def Lf:FS:=
  (Au [0,1] (Bj 3 pf #v[Dm ["Living"] "listed" (Aa 0),Cg "places" 1 [("Living",iV)] (Aa 0) #v[1],Dm ["Living"] "modulus" (Aa 0)]))
def mM:List D->R W:=An 2 Lf
def Kl:FS:=
  (Af (Fu (gP 6 7) [1,2] (Bj 2 mL #v[2,1]))
  (Af (Al 4 [0,2] (Cg "places" 1 [("Living",iV)] (Aa 0) #v[2]))
  (Af (Bu [4,6,7] (Fy (Bx (Bb (jY "tuple" (Aa 4)))) (Fy (Aj (Ag Ck (Aa 4) (Ds #v[6,7]))) (Bb (jY "bool" (Ag Ba (Aa 4) (eC (.int 0)))))))
   (Au [] (eC .aK))
   Az)
  (Af (Al 5 [0,2] (Cg "value" 1 [("Living",mM)] (Aa 0) #v[2]))
  (Af (Bu [1,3,5,6,7] (Fy (Bx (Bb (Bj 1 uK #v[5]))) (Aj (Ag Ck (Aa 5) (Ag Bz (Ag Bv (Ag Ba (Aa 3) (Aa 6)) (Ag Ba (Aa 3) (Aa 7))) (Ag Ba (Aa 1) (eC (.int 2)))))))
   (Au [] (eC .aK))
   Az)
  (Cb 5))))))
def uJ:List D->R W:=An 8 Kl
def LZ:FE:=
  (Ds #v[1,Ag Eo (Dm ["Living"] "by_key" (Aa 0)) (Aa 1)])
def KS:FS:=
  (Au [0] (Ct 1 (Ej (oB kM (Dm ["Living"] "by_key" (Aa 0)))) (gC 1) (λ_=> .ok true) LZ))
def ud:List D->R W:=An 1 KS
def MZ:FS:=
  (Bu [0,2,4,6,7] (Aj (Ag Ck (Bj 4 uJ #v[0,2,6,4]) (Aa 7)))
   (Au [] (eC (.bl false)))
   Az)
def LV:FE:=
  (Ds #v[Bj 1 tT #v[8],8,9])
def LU:FE:=
  (Ds #v[9,10])
def YO:FS:=
  (Af (Bu [0,2] (Bx (Bb (Bj 2 BO #v[0,2])))
   (Au [] (eC (.bl false)))
   Az)
  (Af (Al 4 [0] (Cg "table" 0 [("Living",gN)] (Aa 0) Ad))
  (Af (nQ [1] (Aa 1) (jh 6 7) MZ)
  (Af (Al 5 [1] (Av qU #v[(Ct 2 (jP (Aa 1)) (zu 8 9) (λ_=> .ok true) LV)]))
  (Af (Bu [0,5] (Aj (Ag Ck (Cg "kept" 0 [("Living",ud)] (Aa 0) Ad) (Ct 3 (Ej (Aa 5)) (Mt 8 9 10) (λ_=> .ok true) LU)))
   (Au [] (eC (.bl false)))
   Az)
  (Au [0,2,3,4] (Fv (Ag (gX true) (Bj 4 uJ #v[0,2,3,4]) (eC .aK)) (Ag Dj (Cg "table" 0 [("Living",gN)] (Aa 0) Ad) (Aa 4)))))))))
def LD:List D->R W:=An 8 YO
def KJ:FE:=
  (Bj 2 mL #v[9,3])
def KI:FT:=
  (Aj (Ag Ck (Aa 9) (Aa 2)))
def ya:FS:=
  (Af (Al 8 [4,6,7] (Ag En (Ag Bv (Ag Ba (Aa 7) (eC (.int 0))) (Ag Ba (Aa 7) (eC (.int 1)))) (Ag Ba (Aa 4) (Aa 6))))
  (Bu [4,6,7,8] (Dz (Aj (Ag (inD false) (Ag Ba (Aa 4) (Aa 6)) (Aa 7))) (Aj (Ag (inD true) (Aa 8) (Aa 4))))
   (Fx 4 (Aa 8))
   Az))
def LP:FT:=
  (Aj (Ag tN (Aa 6) (Av Dd #v[4])))
def KH:FS:=
  (Af (Db [5] (Ej (Aa 5)) (gV 7) ya)
  (Al 6 [6] (Ag Bv (Aa 6) (eC (.int 1)))))
def Yh:FS:=
  (Af (Al 4 [1] (Dq #v[1]))
  (Af (Al 5 [0,2,3] (Ct 1 (lx (Aa 0)) (gC 9) KI KJ))
  (Af (Al 6 [] (eC (.int 0)))
  (Af (gz [4,6] LP KH 3000)
  (Cb 4)))))
def yH:List D->R W:=An 9 Yh
def NA:FE:=
  (Bj 1 tT #v[9])
def v_6:FS:=
  (Af (Bu [1,2,6] (Fy (Aj (Ag (Ew true) (Aa 6) (Aa 1))) (Aj (Ag Dj (Aa 6) (Aa 2))))
   (Au [] (eC (.bl false)))
   Az)
  (Af (Al 8 [3,6] (Bj 2 mL #v[6,3]))
  (Af (Bu [4,8] (Aj (Ag (inD true) (Aa 4) (Aa 8)))
   (Au [] (eC (.bl false)))
   Az)
  (Al 4 [4,8] (Ag En (Ag Bv (Ag Ba (Aa 8) (eC (.int 0))) (Ag Ba (Aa 8) (eC (.int 1)))) (Aa 4))))))
def aaa:FS:=
  (Af (Fu (gP 5 7) [2,3] (Bj 2 mL #v[2,3]))
  (Af (Bu [1,2,3,5,7] (Aj (Ag (inD true) (Aa 7) (Bj 4 yH #v[1,5,2,3])))
   (Au [0] (Ag (gX false) (Aa 0) (eC .aK)))
   Az)
  (Af (Bu [0] (Fy (Bx (Bb (jY "list" (Aa 0)))) (Aj (Ag Ck (oU (Ct 1 (Ej (Aa 0)) (gC 9) (λ_=> .ok true) NA)) (Av Dd #v[0]))))
   (Au [] (eC (.bl false)))
   Az)
  (Af (Al 4 [5] (Aa 5))
  (Af (Db [0] (Ej (Aa 0)) (gV 6) v_6)
  (Au [4,7] (Ag Dj (Aa 4) (Aa 7))))))))
def Mc:List D->R W:=An 9 aaa
def Ng:FS:=
  (Al 3 [1,3,4,5] (Ag Bv (Aa 3) (Ag Ba (Dq #v[Ag Eo (Aa 1) (Aa 5),Ag En (eC (.int 0)) (Ag Eo (Aa 1) (Aa 5))]) (Ag Bz (Aa 4) (eC (.int 2))))))
def Zr:FS:=
  (Af (Al 3 [] (eC (.int 0)))
  (Af (Db [0] (om (Aa 0)) (jh 4 5) Ng)
  (Au [2,3] (Ag Bz (Aa 3) (Aa 2)))))
def LO:List D->R W:=An 6 Zr
def KG:FS:=
  (Bu [2,6] (Aj (Ag (Ew true) (Aa 6) (Aa 2)))
   (Af (qZ 2 [4,5] (Aa 6) (Ds #v[5,4]))
  (Fx 3 (Aa 6)))
   Az)
def LN:FT:=
  (Aj (Ag yZ (Av Dd #v[3]) (eC (.int 0))))
def KD:FS:=
  (Af (nR 4 3 (eC (.int 0)))
  (Db [1,4] (Ej (oj (Aa 1) (Aa 4) (Dq Ad))) (jh 5 6) KG))
def Yg:FS:=
  (Af (Al 2 [0] (vz (Aa 0) (eC .aK)))
  (Af (Al 3 [0] (Dq #v[0]))
  (Af (gz [3] LN KD 3000)
  (Cb 2))))
def tP:List D->R W:=An 7 Yg
def t_1:FT:=
  (Aj (Ag (gX true) (Aa 3) (eC .aK)))
def t_2:FS:=
  (Af (Fx 2 (Ag Ba (Aa 3) (eC (.int 0))))
  (Al 3 [1,3] (Ag Eo (Aa 1) (Ag Ba (Aa 3) (eC (.int 1))))))
def aak:FS:=
  (Af (Al 2 [] (Dq Ad))
  (Af (Al 3 [0,1] (Ag Eo (Aa 1) (Aa 0)))
  (Af (gz [3] t_1 t_2 3000)
  (Cb 2))))
def Mf:List D->R W:=An 4 aak
def Kk:FS:=
  (Af (kW 1 (Ag Ba (Aa 3) (eC (.int 0))) (Ds #v[2,Ag Ba (Aa 3) (eC (.int 1))]))
  (kW 1 (Ag Ba (Aa 3) (eC (.int 1))) (Ds #v[2,Ag Ba (Aa 3) (eC (.int 0))])))
def xA:FS:=
  (Af (Al 1 [] fN)
  (Af (Db [0] (Ej (Aa 0)) (jh 2 3) Kk)
  (Cb 1)))
def sE:List D->R W:=An 4 xA
def Mv:FE:=
  (Ds #v[2,Cg "places" 1 [("Living",iV)] (Aa 0) #v[2]])
def Mu:FT:=
  (Aj (Ag Ck (Aa 2) (Aa 1)))
def p_4:FS:=
  (Au [0,1] (Bj 1 sE #v[Ct 1 (lx (Dm ["Living"] "by_key" (Aa 0))) (gC 2) Mu Mv]))
def qd:List D->R W:=An 2 p_4
def ZP:FS:=
  (Af (Al 2 [0,1] (Cg "places" 1 [("Living",iV)] (Aa 0) #v[1]))
  (Af (Al 3 [0,1,2] (Bj 2 tP #v[Ag Ba (Aa 2) (eC (.int 1)),Cg "ways_without" 1 [("Living",qd)] (Aa 0) #v[1]]))
  (Af (Bu [2,3] (Aj (Ag (Ew true) (Ag Ba (Aa 2) (eC (.int 0))) (Aa 3)))
   (Au [] (eC .aK))
   Az)
  (Au [2,3] (Bj 2 Mf #v[Ag Ba (Aa 2) (eC (.int 0)),3])))))
def ub:List D->R W:=An 4 ZP
def aaj:FS:=
  (Af (Al 5 [0,2] (Cg "ring" 1 [("Living",ub)] (Aa 0) #v[2]))
  (Af (Bu [1,2,4,5] (Fy (Aj (Ag (gX false) (Aa 5) (eC .aK))) (Bx (Bb (Bj 4 Mc #v[5,1,2,4]))))
   (Au [] (eC (.bl false)))
   Az)
  (Au [1,3,4,5] (Ag Ck (Bj 3 LO #v[5,1,Ag Ba (Aa 4) (eC (.int 2))]) (Aa 3)))))
def Me:List D->R W:=An 6 aaj
def ND:FT:=
  (Aj (Ag Ck (Aa 7) (Ag Ba (Aa 1) (Aa 6))))
def aat:FS:=
  (Af (Al 5 [0,1] (Ct 2 (om (Aa 0)) (zu 6 7) ND (Aa 6)))
  (Af (Bu [4,5] (Aj (Ag Ck (Av Dd #v[5]) (Aa 4)))
   (Au [] (eC (.bl false)))
   Az)
  (Au [2,3,4,5] (Fv (Ag Dj (Aa 4) (Av minD #v[Av Dd #v[2],Av Dd #v[3]])) (Ag vn (Aa 5) (Dq #v[Av ly #v[2],Av ly #v[3]]))))))
def BS:List D->R W:=An 6 aat
def Nv:FS:=
  (Af (eY 7 (Fg [0] (BY (Aj (Ag tN (Aa 5) (Dm ["Living"] "part" (Aa 0)))) (Aa 2) (Aa 3))))
  (Fx 4 (BY (Aj (Ag (Ew false) (Aa 5) (Aa 1))) (Bj 2 yJ #v[Ag Bv (Aa 6) (Aa 7),Dm ["Living"] "modulus" (Aa 0)]) (Aa 6))))
def Ld:FS:=
  (Af (Al 4 [] (Dq Ad))
  (Af (nW (Fg [0] (Dm ["Living"] "listed" (Aa 0))) (jh 5 6) Nv)
  (nZ 0 ["Living"] "listed" [4] (Aa 4))))
def yT:Tn->List D->RR:=fM 8 Ld
def KR:FS:=
  (Af (Al 4 [1,3] (Bj 2 tP #v[Ag Ba (Aa 1) (eC (.int 0)),3]))
  (Af (Al 5 [1,3] (Bj 2 tP #v[Ag Ba (Aa 1) (eC (.int 1)),3]))
  (Af (Bu [1,4] (Aj (Ag (Ew false) (Ag Ba (Aa 1) (eC (.int 1))) (Aa 4)))
   (rO "Stuck")
   Az)
  (Af (Bu [4,5] (Aj (Ag tO (Av fJ #v[4]) (Av fJ #v[5])))
   (Af (jA (fD [2,4] (Fh 0 3 "shift" "Living" yT (Fb (Aa 4) (Fb (Aa 2) (Fb (vt (Aa 2)) fH))))))
  (eX (gw [4] (Av fJ #v[4]))))
   Az)
  (Af (jA (fD [2,5] (Fh 0 3 "shift" "Living" yT (Fb (Aa 5) (Fb (vt (Aa 2)) (Fb (Aa 2) fH))))))
  (eX (gw [5] (Av fJ #v[5]))))))))
def yS:Tn->List D->RR:=fM 6 KR
def KC:FS:=
  (Af (eY 3 (Fg [0] (Cg "places" 1 [("Living",iV)] (Aa 0) #v[1])))
  (Af (Bu [0,2] (Bx (Bb (Bj 2 qu #v[2,Dm ["Living"] "modulus" (Aa 0)])))
   (lH "NoValue" "at" [] (eC (.int 0)))
   Az)
  (Af (eY 4 (Fg [0] (Ag En (Aa 2) (Cg "value" 1 [("Living",mM)] (Aa 0) #v[1]))))
  (Af (Al 5 [] (eC (.int 0)))
  (Af (Bu [4] (Aj (Ag Ck (Aa 4) (eC (.int 0))))
   (eY 5 (fD [1,3,4] (Fh 0 3 "mend" "Living" yS (Fb (Aa 3) (Fb (Aa 4) (og [0] (Cg "ways_without" 1 [("Living",qd)] (Aa 0) #v[1]) fH))))))
   Az)
  (Af (lq 0 ["Living"] "by_key" (Aa 1) (Aa 2))
  (eX (gw [5] (Aa 5)))))))))
def AO:Tn->List D->RR:=fM 6 KC
def YN:FS:=
  (eY 3 (fD [1,2] (Fh 0 2 "put" "Living" AO (Fb (Aa 1) (Fb (Aa 2) fH)))))
def YM:FS:=
  (Al 3 [] (eC (.str "stuck")))
noncomputable abbrev Pb:List (Str×Bool):=[("NoKey",false),("NoSuch",false),("NoValue",false),("Stuck",true)]
def IZ:FS:=
  (Af (jv YN [⟨none, Pb,YM⟩])
  (eX (gw [3] (Aa 3))))
def zG:Tn->List D->RR:=fM 4 IZ
def aai:FS:=
  (eY 5 (Fg [0] (Cg "table" 0 [("Living",gN)] (Aa 0) Ad)))
def Ny:FS:=
  (Fu (gP 11 12) [2,4] (Bj 2 mL #v[2,4]))
def aah:FS:=
  (eY 6 (Fg [1] (Bj 4 yH #v[1,11,2,4])))
def aag:FS:=
  (eY 7 (Fg [1] (Bj 4 yH #v[1,12,2,4])))
def Nw:FS:=
  (Al 8 [3,4,5,11,12] (Ag Ck (Ag Bz (Ag Bv (Ag Ba (Aa 5) (Aa 11)) (Ag Ba (Aa 5) (Aa 12))) (Ag Ba (Aa 4) (eC (.int 2)))) (Aa 3)))
def aaf:FS:=
  (eY 9 (fD [2,3] (lG 0 2 zG (Fb (Aa 2) (Fb (Aa 3) fH)))))
def aae:FS:=
  (eY 10 (Fg [0] (Cg "table" 0 [("Living",gN)] (Aa 0) Ad)))
def aad:FS:=
  (Bu [6,8,12] (Dz (Aj (Ag (inD false) (Aa 12) (Aa 6))) (Bb (Aa 8)))
   (eX (Fg [0,1] (Fv (Ag Dj (Aa 9) (eC (.str "stuck"))) (Fv (Ag Dj (Aa 10) (Aa 5)) (Bj 5 Me #v[0,1,2,3,4])))))
   Az)
def x_6:FS:=
  (Bu [9] (Bx (Bb (Bj 1 uK #v[9])))
   (eX (gw [] (eC (.bl false))))
   Az)
def aas:FS:=
  (nP 1 (Aa 2) (Aa 3))
def aar:FS:=
  (Bu [8] (Bx (Bb (Aa 8)))
   (eX (gw [5,9,10] (Fv (Ag Dj (Aa 9) (eC (.int 0))) (Ag Dj (Aa 10) (Aa 5)))))
   Az)
def aaq:FS:=
  (eX (gw [5,6,7,9,10] (Bj 5 BS #v[5,10,6,7,9])))
def Np:FS:=
  (Af aai
  (Af Ny
  (Af aah
  (Af aag
  (Af Nw
  (Af aaf
  (Af aae
  (Af aad
  (Af x_6
  (Af aas
  (Af aar
  aaq)))))))))))
def AY:Tn->List (Ae×D)->List D->kb:=oz 13 Np
def KQ:FS:=
  (Af (iB [1] (Bj 1 kM #v[1]))
  (Af (Bu [0,1] (Aj (Ag (Ew true) (Aa 1) (Dm ["Living"] "by_key" (Aa 0))))
   (rO "NoSuch")
   Az)
  (oe 0 ["Living"] "by_key" (Aa 1))))
def yR:Tn->List D->RR:=fM 2 KQ
def BR:FS:=
  (Bu [0,7,8] (Aj (Ag Ck (Cg "value" 1 [("Living",mM)] (Aa 0) #v[7]) (Aa 8)))
   (eX (gw [] (eC (.bl false))))
   Az)
def Nu:FS:=
  (Af (Bu [1,2,3] (Fy (Aj (Ag Dj (Aa 2) (eC (.int 0)))) (Aj (Ag (Ew true) (Aa 3) (Aa 1))))
   (kX (la (lr (fD [3,4,5] (sW 0 1 3 AY (Fb (Aa 3) (Fb (Aa 4) (Fb (Aa 5) fH)))))))
   (eX (gw [] (eC (.bl false))))
   Az)
   (Af (eY 6 (Fg [0] (Cg "table" 0 [("Living",gN)] (Aa 0) Ad)))
  (Af (jA (fD [3] (Fh 0 1 "drop" "Living" yR (Fb (Aa 3) fH))))
  (Af (nN 1 (Aa 3))
  (Bu [0,6] (Aj (Ag Ck (Cg "table" 0 [("Living",gN)] (Aa 0) Ad) (Aa 6)))
   (eX (gw [] (eC (.bl false))))
   Az)))))
  (Af (rn 1 (jh 7 8) BR)
  (eX (gw [] (eC (.bl true))))))
def AZ:Tn->List (Ae×D)->List D->kb:=oz 9 Nu
def x_7:FS:=
  (Af (ij 0 ["Living"] "part" [1] (Aa 1))
  (Af (ij 0 ["Living"] "by_salt" [2] (Aa 2))
  (Af (ij 0 ["Living"] "modulus" [3] (Aa 3))
  (Af (ij 0 ["Living"] "listed" [1] (qP #v[eC (.int 0)] (Ag Dr (eC (.int 2)) (Aa 1))))
  (nY 0 ["Living"] "by_key" fN)))))
def yy:List D->R (List Str×List Tn):=Fp 4 "Living" x_7
def wy:FS:=
  (Af (nX (oh [5,6,7]) (Fg [3] (Bj 5 yI #v[0,eC (.int 3),4,3,1])))
  (kX (la (lr (fD [1,5,6,7] (sW 2 3 4 AZ (Fb (Aa 5) (Fb (Aa 6) (Fb (Aa 7) (Fb (Aa 1) fH))))))))
   (Au [] (eC (.bl false)))
   Az))
def GH:FS:=
  (Al 1 [0] (Bj 2 AK #v[0,eC (.int 10)]))
def GG:FS:=
  (Al 2 [1] (vA "Living" 3 yy #v[Ag Ba (Aa 1) (eC (.int 0)),Ag Ba (Aa 1) (eC (.int 1)),Ag Ba (Aa 1) (eC (.int 2))]))
def Tj:FS:=
  (Al 3 [] fN)
def Ti:FS:=
  (Db [0] (Gu gT #v[Bj 3 zR #v[0,eC (.int 3),eC (.int 60)]]) (gV 4) wy)
def GF:FS:=
  (Au [1,2,3] (Bj 4 LD #v[2,3,1,eC (.str "stranger")]))
def Qw:FS:=
  (Af GH
  (Af GG
  (Af Tj
  (Af Ti
  GF))))
def DF:List D->R W:=An 8 Qw
end My
namespace L3
open PySem L2
def Fq:Nat->D->Bool
 |_,.aK=>true
 |_,.bl _=>true
 |_,.int _=>true
 |_,.str x=>x.cps.all (· < 0x110000)
 |n + 1,.lst ds=>ds.all (Fq n)
 |n + 1,.tup ds=>ds.all (Fq n)
 |_,_=>false
def se:∀(n:Nat) (d:D),Fq n d=true->(Du d).canLay0=true/\(Du d).depth<=n/\(Du d).eqv (Du d)=true:=by
 intro n
 induction n with
 |zero=>
  intro d h;cases d with
  |aK=>exact⟨rfl,B6 _,rfl⟩
  |bl b=>exact⟨rfl,B6 _,by cases b <;> rfl⟩
  |int i=>exact⟨rfl,B6 _,by show(i ==i)=true;simp⟩
  |str x=>exact⟨h,B6 _,by show(x ==x)=true;simp⟩
  |_=>cases h
 |succ n ih=>
  have all:∀ds:List D,ds.all (Fq n)=true->PyData.canLayAll0 (jN ds)=true/\PyData.depthAll (jN ds)<=n/\PyData.eqvAll (jN ds) (jN ds)=true:=by
   intro ds
   induction ds with
   |nil=>intro _;exact⟨rfl,K5 _,rfl⟩
   |cons d ds ih2=>
    intro h;rw[P7,D5]at h;obtain⟨a1,a2,a3⟩:=ih d h.1;obtain⟨b1,b2,b3⟩:=ih2 h.2;refine⟨?_, ?_, ?_⟩
    ·show(PyData.canLay0 (Du d) && PyData.canLayAll0 (jN ds))=true;rw[a1,b1];rfl
    ·show max (PyData.depth (Du d)) (PyData.depthAll (jN ds))<=n;exact Nat.max_le.mpr ⟨a2,b2⟩
    ·show(PyData.eqv (Du d) (Du d) && PyData.eqvAll (jN ds) (jN ds))=true;rw[a3,b3];rfl
  intro d h;cases d with
  |aK=>exact⟨rfl,K5 _,rfl⟩
  |bl b=>exact⟨rfl,K5 _,by cases b <;> rfl⟩
  |int i=>exact⟨rfl,K5 _,by show(i ==i)=true;simp⟩
  |str x=>exact⟨h,K5 _,by show(x ==x)=true;simp⟩
  |lst ds=>
   obtain⟨b1,b2,b3⟩:=all ds h;exact⟨b1,OU b2,b3⟩
  |tup ds=>
   obtain⟨b1,b2,b3⟩:=all ds h;exact⟨b1,OU b2,b3⟩
  |_=>cases h
def HR{n:Nat}{d:D}(h:Fq n d=true)(hn:n<=60):Fo d d=true/\Ek d d=true:=by
 obtain⟨a1,a2,a3⟩:=se n d h;refine⟨?_,a3⟩;unfold Fo;rw[a1,C9 (D4 a2 hn)];rfl
def sd{d:D}(n:Nat)(h:Fq n d=true)(hn:n<=60:=by decide):Dj d d=.ok (.sh (.bl true)):=by
 obtain⟨h1,h2⟩:=HR h hn;unfold Dj
 split
 ·simp
 ·rw[if_pos h1,h2]
def HQ{d:D}(n:Nat)(h:Fq n d=true)(hn:n<=60:=by decide):Ck d d=.ok (.sh (.bl false)):=by
 obtain⟨h1,h2⟩:=HR h hn;unfold Ck
 split
 ·simp
 ·rw[if_pos h1,h2];rfl
def Th(n:Nat)(i:Int):Fq n (.int i)=true:=by cases n <;> rfl
def Vx(n:Nat){α:Type}(f:α->Int)(l:List α):(l.map λa=>D.int (f a)).all (Fq n)=true:=by
 rw[F8];intro d hd;obtain⟨a,_,rfl⟩:=E7.mp hd;exact Th n _
def xb{p q:D->Bool}{l:List D}(h:l.all p=true)(i:∀d,p d=true->q d=true):l.all q=true:=by
 rw[F8]at h⊢;exact λd hd=>i d (h d hd)
def Vw:∀{n:Nat} {d:D},Fq n d=true->Fq (n + 1) d=true:=by
 intro n
 induction n with
 |zero=>
  intro d h;cases d with
  |aK=>rfl
  |bl _=>rfl
  |int _=>rfl
  |str _=>exact h
  |_=>cases h
 |succ n ih=>
  intro d h;cases d with
  |aK=>rfl
  |bl _=>rfl
  |int _=>rfl
  |str _=>exact h
  |lst ds=>exact xb (p:=Fq n) (q:=Fq (n + 1)) h λd=>ih
  |tup ds=>exact xb (p:=Fq n) (q:=Fq (n + 1)) h λd=>ih
  |_=>cases h
theorem sD{α:Type}(f:α->Int):∀l:List α,kE (l.map λa=>D.int (f a))=some (l.map f)
 | []=>rfl
 |a::l=>by
  show(kE (l.map λa=>D.int (f a))).map (f a:: ·)=_;rw[sD f l];rfl
def Rm{α:Type}(f:α->Int)(l:List α):nI [.lst (l.map λa=>D.int (f a))]=.ok (.sh (.int (l.map f).sum)):=by
 unfold nI;simp only[sD]
def Qv{n i:Nat}(h:i < n):tQ n (i:Int)=some i:=by
 unfold tQ;rw[if_pos (),if_pos ()];simp
def DD{α:Type}{xs:List α}{i:Nat}{x:α}(h:xs[i]? =some x):dM xs (i:Int)=some x:=by
 unfold dM;rw[Qv (B5.mp h).1];exact h
end L3
namespace My
open PySem L2 L3
noncomputable def gW(c k:Int):Int:=((c + 1) * (48271 + 118 * k) % 2147483629 / 977 * 16807 + (c + 1) * (48271 + 118 * k) % 2147483629 * (k * k + 7) + k) % 2147483587
def lF(c k:Int)(h1: -1000<=k)(h2:k<=1000):mK [.int c,.int k]=.ok (.sh (.int (gW c k))):=by
 have hk: -18446744073709551616 < k * k + 7/\k * k + 7 < 18446744073709551616:=by
  have:k * k<=1000 * 1000:=by
   rcases OE 0 k with h|h
   ·exact Int.mul_le_mul h2 h2 h ⋯
   ·have:(-k) * (-k)<=1000 * 1000:=Int.mul_le_mul () () () ⋯
    rwa[Int.neg_mul_neg]at this
  have:0<=k * k:=by
   rcases OE 0 k with h|h
   ·exact Int.mul_nonneg h h
   ·have:=Int.mul_nonneg (a:= -k) (b:= -k) () ()
    rwa[Int.neg_mul_neg]at this
  lia
 have m1:Es 118 k=true:=jd ⋯ ⋯;have m2:Es (c + 1) (48271 + 118 * k)=true:=rq () ();have m3:∀z:Int,Es z 16807=true:=λz=>rq ⋯ ⋯;have m4:Es k k=true:=jd () ();have m5:∀z:Int,Es z (k * k + 7)=true:=λz=>rq hk.1 hk.2
 simp![mK,Ja,Ak,fE m1,fE m2,fE (m3 _),fE m4,fE (m5 _),Fc,ip (show(0:Int) < 977 by decide) ⋯,Cw (show(0:Int) < 2147483629 by decide),Cw (show(0:Int) < 2147483587 by decide)]
 rfl
def DC(ns:List Int)(k:Int)(h:0<=k)(hk:k < (ns.length:Int)):dM (ns.map D.int) k=some (.int (ns.getD k.toNat 0)):=by
 apply vN h;rw[A9];have:k.toNat < ns.length:=by lia
 simp[List.getD,this]
def hW(ns:List Int)(k:Int):Int:=gW (if k < (ns.length:Int) then ns.getD k.toNat 0 % 2147483647 else 0) (k + 101)
def rL(ns:List Int)(k:Int)(h:0<=k)(h2:k<=500):qa [.lst (ns.map .int),.int k]=.ok (.sh (.int (hW ns k))):=by
 simp![qa,JN,Ak,jS,Gh,A3]
 unfold hW
 by_cases hk:k < (ns.length:Int)
 ·simp![hk,T4,if_true,iM (DC ns k h hk),Ak,Cw (show(0:Int) < 2147483647 by decide),Fc,lF _ (k + 101) () ()]
 ·simp![hk,Y4,P1,Ak,Fc,lF _ (k + 101) () ()]
def GB(c k:Int):0<=gW c k:=L4 _ ⋯
def GA(c k:Int):gW c k < 2147483587:=K3 _ ⋯
def Vv(ns:List Int)(k:Int):0<=hW ns k:=GB _ _
def Vu(ns:List Int)(k:Int):hW ns k < 2147483587:=GA _ _
def Rl(ns:List Int)(k:Int)(h:0<=k)(h2:k<=400):∃z,yF [.lst (ns.map .int),.int k]=.ok (.sh (.int z)):=by
 have fin:∀c:Int,∃z,Af (Bu [0] (Aj (Ag Dj (Ag Bz (Bj 2 qa #v[0,eC (.int 0)]) (eC (.int 2))) (eC (.int 0)))) (Cb 2) Az) (Au [1,2] (Bj 2 mK #v[Bj 2 mK #v[Ag Bz (Aa 2) (eC (.int 2147483647)),Ag Bv (Aa 1) (eC (.int 7))],1])) [.sh (.lst (ns.map .int)),.sh (.int k),.sh (.int c)]=.rt (.sh (.int z)):=λc=>by
  have ec:=rL ns 0 ⋯ ⋯
  by_cases hz:hW ns 0 % 2=0
  ·exact⟨c,by simp![Ak,ec,Cw (show(0:Int) < 2 by decide),iQ,hz,T4]⟩
  ·exact⟨gW (gW (c % 2147483647) (k + 7)) k,by simp![Ak,ec,Cw (show(0:Int) < 2 by decide),iQ,hz,Y4,Cw (show(0:Int) < 2147483647 by decide),Fc,lF _ (k + 7) () (),lF _ k () ()]⟩
 by_cases hk:k < (ns.length:Int)
 ·obtain⟨z,ez⟩:=fin (ns.getD k.toNat 0);refine⟨z, ?_⟩;unfold yF xC An;rw[iL (Δ':=[.sh (.lst (ns.map .int)),.sh (.int k),.sh (.int 0)]) (by simp![Ak]),iL (Δ':=[.sh (.lst (ns.map .int)),.sh (.int k),.sh (.int (ns.getD k.toNat 0))]) (by simp![Ak,jS,Gh,A3,hk,T4,iM (DC ns k h hk)]),ez]
 ·obtain⟨z,ez⟩:=fin 0;refine⟨z, ?_⟩;unfold yF xC An;rw[iL (Δ':=[.sh (.lst (ns.map .int)),.sh (.int k),.sh (.int 0)]) (by simp![Ak]),iL (Δ':=[.sh (.lst (ns.map .int)),.sh (.int k),.sh (.int 0)]) (by simp![Ak,jS,Gh,A3,hk,Y4]),ez]
def qT{ds:List D}{i:Int}(h0:0<=i)(h1:i < (ds.length:Int)):∃d,d∈ds/\dM ds i=some d:=by
 have hl:i.toNat < ds.length:=by lia
 exact⟨ds[i.toNat],OR hl,vN h0 (A8 hl)⟩
def Vt:kZ (.int 10) (.int 12)=.ok (.sh (.int 1000000000000)):=rfl
def Vs(ns:List Int):∃p s m:Int,AK [.lst (ns.map .int),.int 10]=.ok (.sh (.tup [.int p,.int s,.int m]))/\1<=p/\p<=10/\0<=s/\s < 1003000000000/\2<=m/\m<=1000000001:=by
 have ec:=rL ns 1 ⋯ ⋯;have c0:=Vv ns 1;have c1:=Vu ns 1;generalize hW ns 1=c at ec c0 c1;have em:=lF c 5 ⋯ ⋯;have o0:=GB c 5;have o1:=GA c 5;generalize gW c 5=o at em o0 o1;have i0:=L4 (c / 32) (show(4:Int)≠0 by decide);have i1:=K3 (c / 32) (show(0:Int) < 4 by decide);have j0:=L4 o (show(8:Int)≠0 by decide);have j1:=K3 o (show(0:Int) < 8 by decide);obtain⟨d1,m1,e1⟩:=qT (ds:=[.int 0,.int 1,.int (c / 64 % 1000),.int (1000000000000 + c)]) i0 i1;obtain⟨d2,m2,e2⟩:=qT (ds:=[.int 2,.int 3,.int (2 + o / 8 % 9),.int 10,.int 1000,.int 1000000000,.int (2 + o / 8 % 999999999),.int 7]) j0 j1;have q1:∃s,d1=.int s/\0<=s/\s < 1003000000000:=by
  simp only[C7,U2,or_false]at m1;rcases m1 with rfl|rfl|rfl|rfl
  ·exact⟨_,rfl,by decide,by decide⟩
  ·exact⟨_,rfl,by decide,by decide⟩
  ·exact⟨_,rfl,by lia,by lia⟩
  ·exact⟨_,rfl,by lia,by lia⟩
 have q2:∃s,d2=.int s/\2<=s/\s<=1000000001:=by
  simp only[C7,U2,or_false]at m2;rcases m2 with rfl|rfl|rfl|rfl|rfl|rfl|rfl|rfl <;> exact⟨_,rfl,by lia,by lia⟩
 obtain⟨s,rfl,s0,s1⟩:=q1;obtain⟨m,rfl,m0,m1'⟩:=q2;refine⟨1 + c % 10,s,m, ?_,by lia,by lia,s0,s1,m0,m1'⟩;have dv:∀x y:Int,0 < y->y < 18446744073709551616->Cv (.int x) (.int y)=.ok (.sh (.int (x / y))):=λx y h h'=>ip h ()
 simp![AK,Kq,Ak,ec,em,Fc,Cw (show(0:Int) < 8 by decide),Cw (show(0:Int) < 4 by decide),Cw (show(0:Int) < 10 by decide),Cw (show(0:Int) < 9 by decide),Cw (show(0:Int) < 1000 by decide),Cw (show(0:Int) < 999999999 by decide),dv _ 64 ⋯ ⋯,dv _ 32 ⋯ ⋯,dv _ 8 ⋯ ⋯,Vt,iM e1,iM e2]
noncomputable def wr:Nat->Int->List Nat->List Nat
 |0,_,zm=>zm
 |j + 1,r,zm=>wr j (r / 2) ((48 + (r % 2).toNat)::zm)
def Bt(l:List Nat):Str:=⟨l.toArray⟩
def mY(l:List Nat):(Bt l).cps.toList=l:=by simp[Bt]
def rK(l:List Nat):(Bt l).length=l.length:=by rw[Uk,mY]
def Tg(a b:List Nat):Bt a ++ Bt b=Bt (a ++ b):=GY (by rw[Uj,mY,mY,mY])
def Rk(x:Str):Bt x.cps.toList=x:=GY (mY _)
noncomputable def eF:List Nat:=[97,98,99,100,101,102,103,104,105,106,107,108,109,110,111,112,113,114,115,116,117,118,119,120,121,122,48,49,50,51,52,53,54,55,56,57,45,95,32]
def Tf:(Str.ofString "abcdefghijklmnopqrstuvwxyz0123456789-_ ").cps.toList=eF:=by decide +kernel
def Bl(d:D):Prop:=(∃n:Int,d=.int n/\0<=n/\n<=999999999999999999)\/(∃l:List Nat,d=.str (Bt l)/\l.length<=11/\∀c∈l,c∈eF)
def Qu(r:Int):∃c∈eF,Ba (.str "abcdefghijklmnopqrstuvwxyz0123456789-_ ") (.int (r % 39))=.ok (.sh (.str (Bt [c]))):=by
 have h0:=L4 r (show(39:Int)≠0 by decide);have h1:=K3 r (show(0:Int) < 39 by decide);have hl:(r % 39).toNat < eF.length:=by show(r % 39).toNat < 39;lia
 refine⟨eF[(r % 39).toNat],OR hl,Uh nofun ?_⟩;rw[Tf];exact vN h0 (A8 hl)
def Te(z:Int):∃l:List Nat,zQ [.int z]=.ok (.sh (.str (Bt l)))/\(l.length:Int)=z % 12/\l.length<=11/\∀c∈l,c∈eF:=by
 have b0:=L4 z (show(12:Int)≠0 by decide);have b1:=K3 z (show(0:Int) < 12 by decide);obtain⟨Δ',e,l,r,a5,rfl,hl,hc⟩:=Xh (gV 3) yc (λk Δ=>∃(l:List Nat) (r:Int) (a5:Sl),Δ= [.sh (.int z),.sh (.str (Bt l)),.sh (.int r),a5]/\l.length=k/\∀c∈l,c∈eF)
  (n:=(z % 12).toNat) (lo:=0) (Δ:=[.sh (.int z),.sh (.str ""),.sh (.int (z / 12)),.no]) ⟨[],z / 12,.no,rfl,rfl,λc hc=>absurd hc (by simp)⟩ (λk Δ hk hI=>by
  obtain⟨l,r,a5,rfl,hl,hc⟩:=hI;obtain⟨c,BH,ec⟩:=Qu r;have zj:(Bt l).length + (Bt [c]).length<=16777216:=by rw[rK,rK];simp;lia
  refine⟨_,rfl,[.sh (.int z),.sh (.str (Bt (l ++ [c]))),.sh (.int (r / 39)),.sh (.int (0 + (k:Int)))],.inl ?_,_,_,_,rfl,by simp[hl], ?_⟩
  ·simp![yc,gV,List.set_cons_succ,Z1,Ak,Cw (show(0:Int) < 39 by decide),ec,RA zj,Tg,ip (show(0:Int) < 39 by decide) ⋯]
  ·intro d hd;rcases F6.mp hd with hd|hd
   ·exact hc d hd
   ·have:d=c:=by simpa using hd
    rw[this];exact BH)
 refine⟨l, ?_,by lia,by lia,hc⟩
 simp![zQ,JL,Ak,ip (show(0:Int) < 12 by decide) ⋯,Cw (show(0:Int) < 12 by decide),Db,wC (show -4611686018427387903<=z % 12 by lia) (),e]
def Rj(z:Int):∃d,Bl d/\tK [.int z]=.ok (.sh d):=by
 have d4:=ip (i:=z) (show(0:Int) < 4 by decide) ⋯;have m4:=Cw (i:=z) (show(0:Int) < 4 by decide);have p18:=Rz (VT (i:=10) (j:=18) ⋯ ⋯ ⋯ ⋯);have e18:(10:Int) ^ (18:Int).toNat=1000000000000000000:=by decide
 rw[e18]at p18;have:z % 4=0\/z % 4=1\/z % 4=2\/z % 4=3:=by lia
 rcases this with h|h|h|h
 ·refine⟨.int (z / 4 % 1000000000000000000),.inl ⟨_,rfl,by lia,by lia⟩, ?_⟩
  simp![tK,zH,Ak,d4,m4,iQ,h,p18,Cw (show(0:Int) < 1000000000000000000 by decide)]
 ·obtain⟨l,e,_,h1,h2⟩:=Te (z / 4);refine⟨.str (Bt l),.inr ⟨l,rfl,h1,h2⟩, ?_⟩;have n0:¬(1:Int)=0:=by decide
  simp![tK,zH,Ak,d4,m4,iQ,h,n0,e]
 ·refine⟨.int (z / 4 % 50),.inl ⟨_,rfl,by lia,by lia⟩, ?_⟩;have n0:¬(2:Int)=0:=by decide
  have n1:¬(2:Int)=1:=by decide
  have e:dM [D.int 50,D.int 12] ((2:Int) - 2)=some (.int 50):=rfl
  simp![tK,zH,Ak,d4,m4,iQ,h,n0,n1,pN,iM e,Cw (show(0:Int) < 50 by decide)]
 ·refine⟨.int (z / 4 % 12),.inl ⟨_,rfl,by lia,by lia⟩, ?_⟩;have n0:¬(3:Int)=0:=by decide
  have n1:¬(3:Int)=1:=by decide
  have e:dM [D.int 50,D.int 12] ((3:Int) - 2)=some (.int 12):=rfl
  simp![tK,zH,Ak,d4,m4,iQ,h,n0,n1,pN,iM e,Cw (show(0:Int) < 12 by decide)]
def Gz{a b:D}(ha:Bl a)(hb:Bl b):eqF a b=true↔a=b:=by
 rcases ha with⟨n,rfl,_⟩|⟨l,rfl,_⟩ <;> rcases hb with⟨m,rfl,_⟩|⟨k,rfl,_⟩
 ·show(n ==m)=true↔_;rw[N7];exact⟨λh=>by rw[h],λh=>by injection h⟩
 ·show false=true↔_;exact⟨λh=>(by cases h),λh=>(by cases h)⟩
 ·show false=true↔_;exact⟨λh=>(by cases h),λh=>(by cases h)⟩
 ·show(Bt l ==Bt k)=true↔_;rw[N7];exact⟨λh=>by rw[h],λh=>by injection h⟩
def mem_iff{d:D}{ks:List D}(hd:Bl d)(hk:∀k∈ks,Bl k):Dv d ks=true↔d∈ks:=by
 unfold Dv;rw[X0];constructor
 ·rintro ⟨y,hy,h⟩
  rw[<-(Gz (hk y hy) hd).mp h];exact hy
 ·intro h;exact⟨d,h,(Gz hd hd).mpr rfl⟩
def lY{d:D}(h:Bl d):PyData.canLay0 (Du d)=true/\PyData.depth (Du d)=0:=by
 rcases h with⟨n,rfl,_⟩|⟨l,rfl,_,hc⟩
 ·exact⟨rfl,rfl⟩
 ·refine⟨?_,rfl⟩;show(Bt l).cps.all (· < 0x110000)=true;rw[<-Array.all_toList,mY,F8];intro c h;have:c∈eF:=hc c h;have:∀c∈eF,c < 0x110000:=by decide
  exact C9 (this c (hc c h))
def Gy{a b:D}(ha:Bl a)(hb:Bl b):PyData.eqv (Du a) (Du b)=true↔a=b:=by
 rcases ha with⟨n,rfl,_⟩|⟨l,rfl,_⟩ <;> rcases hb with⟨m,rfl,_⟩|⟨k,rfl,_⟩
 ·show(n ==m)=true↔_;rw[N7];exact⟨λh=>by rw[h],λh=>by injection h⟩
 ·show false=true↔_;exact⟨λh=>(by cases h),λh=>(by cases h)⟩
 ·show false=true↔_;exact⟨λh=>(by cases h),λh=>(by cases h)⟩
 ·show(Bt l ==Bt k)=true↔_;rw[N7];exact⟨λh=>by rw[h],λh=>by injection h⟩
def jO(c:Nat):Nat:=eF.idxOf c
def EB:∀c∈eF,Builtin.Str.occurrences "abcdefghijklmnopqrstuvwxyz0123456789-_ " ⟨#[c]⟩ 0 (Str.length "abcdefghijklmnopqrstuvwxyz0123456789-_ ") 1= [jO c]:=by decide +kernel
def vL:∀c∈eF,jO c < 39:=by decide +kernel
def Ez(l:List Nat):Int:=l.foldl (λa c=>40 * a + (jO c:Int) + 1) 0
def Kj(l:List Nat)(k c:Nat)(h:l[k]? =some c):Ez (l.take (k + 1))=40 * Ez (l.take k) + (jO c:Int) + 1:=by
 unfold Ez;rw[V7,h,List.foldl_append];rfl
def By:D->Int
 | .int n=>2 * n
 | .str x=>2 * Ez x.cps.toList + 1
 |_=>0
def Vr:∀c∈eF,Txt.find "abcdefghijklmnopqrstuvwxyz0123456789-_ " ⟨#[c]⟩=((jO c:Nat):Int):=by decide +kernel
def Td{c:Nat}(h:c∈eF):oo (.str "abcdefghijklmnopqrstuvwxyz0123456789-_ ") [.str ⟨#[c]⟩]=.ok (.sh (.int (jO c:Int))):=by
 show R.ok (W.sh (D.int (Txt.find "abcdefghijklmnopqrstuvwxyz0123456789-_ " ⟨#[c]⟩)))=_;rw[Vr c h]
def Vq{c:Nat}(h:c∈eF):lL (.str "abcdefghijklmnopqrstuvwxyz0123456789-_ ") [.str ⟨#[c]⟩]=.ok (.sh (.int (jO c:Int))):=by
 show(match Builtin.Str.occurrences "abcdefghijklmnopqrstuvwxyz0123456789-_ " ⟨#[c]⟩ 0 (Str.length "abcdefghijklmnopqrstuvwxyz0123456789-_ ") 1 with
  |i::_=>R.ok (W.sh (D.int (i:Nat)))
  | []=>R.no)=_
 rw[EB c h]
def Qt{c:Nat}(h:c∈eF):inD false (.str ⟨#[c]⟩) (.str "abcdefghijklmnopqrstuvwxyz0123456789-_ ")=.ok (.sh (.bl true)):=by
 show R.ok (W.sh (D.bl (!(Builtin.Str.occurrences "abcdefghijklmnopqrstuvwxyz0123456789-_ " ⟨#[c]⟩ 0 (Str.length "abcdefghijklmnopqrstuvwxyz0123456789-_ ") 1).isEmpty)))=_;rw[EB c h];rfl
def tj(l:List Nat):jM (Bt l)=l.map λc=> .str ⟨#[c]⟩:=by unfold jM;rw[mY]
def Vp(l:List Nat)(hl:l.length<=11)(hc:∀c∈l,c∈eF):oM [.str (Bt l)]=.ok (.sh (.int (Ez l))):=by
 obtain⟨Δ',e,a2,rfl⟩:=uE (gV 2) xB (λk Δ=>∃a2,Δ= [.sh (.str (Bt l)),.sh (.int (Ez (l.take k))),a2]) (ds:=jM (Bt l)) (Δ:=[.sh (.str (Bt l)),.sh (.int 0),.no]) ⟨.no,rfl⟩ (λk d Δ hk hI=>by
  obtain⟨a2,rfl⟩:=hI;rw[tj,A9]at hk;cases q:l[k]? with
  |none=>rw[q]at hk;cases hk
  |some c=>
   rw[q]at hk;cases hk;refine⟨_,rfl,[.sh (.str (Bt l)),.sh (.int (Ez (l.take (k + 1)))),.sh (.str ⟨#[c]⟩)],.inl ?_,_,rfl⟩;rw[Kj l k c q]
   simp![xB,Ak,fE (jd (show(-18446744073709551616:Int) < 40 by decide) ⋯),M4,Td (hc c (J8 q)),Fc])
 rw[tj,A3,U1]at e
 simp![oM,GJ,Ak,Db,tj,e]
def WW{d:D}(h:Bl d):yz [d]=.ok (.sh (.bl true)):=by
 rcases h with⟨n,rfl,h0,h1⟩|⟨l,rfl,hl,hc⟩
 ·simp![yz,xf,Ak,mR,hX,h0,h1]
 ·have hx:(Bt l).length<=16777216:=by rw[rK];lia
  have ec:=VR (fg:=gC 1) (f:=Ma) (δ:=[some (.str (Bt l)),none]) (λ_=> .bl true) (jM (Bt l)) (λd hd=>by
   rw[tj]at hd;obtain⟨c,yX,rfl⟩:=E7.mp hd;exact⟨_,.sh (.bl true),rfl,by simp![Ma,Ak,Qt (hc c yX)],rfl⟩)
  have zy:=ng (m:=1) (fi:=Ej (Aa 0)) (fg:=gC 1) (p:=λ_=> .ok true) (f:=Ma) (δ:=[some (.str (Bt l))]) (by simp![Ak]) (by rw[tj,A3];lia) ec;have ha:oO [.lst ((jM (Bt l)).map λ_=>D.bl true)]=.ok (.sh (.bl true)):=by
   have hb:∀l:List D,lM (l.map λ_=>D.bl true)=some (l.map λ_=>true):=by
    intro l
    induction l with
    |nil=>rfl
    |cons a l ih=>show(lM (l.map λ_=>D.bl true)).map (true:: ·)=_;rw[ih];rfl
   unfold oO;simp only[hb]
   congr 3
   rw[F8];intro b cO;obtain⟨_,_,rfl⟩:=E7.mp cO;rfl
  have dh:((Bt l).length:Int)<=11:=by rw[rK];lia
  have et:AV [.str (Bt l)]=.ok (.sh (.bl true)):=by
   simp![AV,KU,Ak,VS hx,hX,dh,zy,ha]
  simp![yz,xf,Ak,et]
def wZ{d:D}(h:Bl d):kM [d]=.ok (.sh (.int (By d))):=by
 have hk:=WW h;have m2:=λj:Int=>fE (jd (j:=j) (show(-18446744073709551616:Int) < 2 by decide) ⋯);rcases h with⟨n,rfl,h0,h1⟩|⟨l,rfl,hl,hc⟩
 ·simp![kM,wz,Ak,hk,m2,By]
 ·simp![kM,wz,Ak,hk,Vp l hl hc,m2,Fc,By,mY]
noncomputable def mO(n s z:Int):Int:=
 (((1 + (1103515245 * s + 12345) % (2305843009213693951 - 1)) * n + (69069 * s * s + 7 * s) % 2305843009213693951) % 2305843009213693951 + ((1 + (1103515245 * s + 12345) % (2305843009213693951 - 1)) * n + (69069 * s * s + 7 * s) % 2305843009213693951) % 2305843009213693951 / 2147483648) % z
def wY(n s z:Int)(h1: -18446744073709551616 < s)(h2:s < 18446744073709551616)(hz:0 < z):oK [.int n,.int s,.int z]=.ok (.sh (.int (mO n s z)))/\yK [.int n,.int s,.int z]=.ok (.sh (.int (mO n s z))):=by
 have n0:¬z=0:=by lia
 have f0:=L4 (1103515245 * s + 12345) (show(2305843009213693951 - 1:Int)≠0 by decide);have f1:=K3 (1103515245 * s + 12345) (show(0:Int) < 2305843009213693951 - 1 by decide);have a1:=fE (jd (i:=1103515245) (j:=s) ⋯ ⋯);have a2:=fE (jd (i:=69069) (j:=s) ⋯ ⋯);have a3:=fE (rq (i:=69069 * s) (j:=s) h1 h2);have a4:=fE (jd (i:=7) (j:=s) ⋯ ⋯);have a5:=fE (jd (i:=1 + (1103515245 * s + 12345) % (2305843009213693951 - 1)) (j:=n) () ());have c1:=λi:Int=>Cw (i:=i) (show(0:Int) < 2305843009213693951 - 1 by decide);have c2:=λi:Int=>Cw (i:=i) (show(0:Int) < 2305843009213693951 by decide);have c3:=λi:Int=>Cw (i:=i) hz;have c4:=λi:Int=>ip (i:=i) (show(0:Int) < 2147483648 by decide) ⋯;refine⟨?_, ?_⟩
 ·simp![oK,GI,Ak,iQ,n0,pN,Fc,a1,a2,a3,a4,c1,c2,a5,c4,c3]
  rfl
 ·simp![yK,Ko,Ak,pN,Fc,a1,a2,a3,a4,c1,c2,a5,c4,c3]
  rfl
end My
namespace L3
open PySem L2
theorem HP:∀{ds:List D} {k i:Nat} {d:D},ds[i]? =some d->(gy k ds)[i]? =some (.tup [.int ((k + i:Nat):Int),d])
 | [],_,_,_,h=>by simp at h
 |x::ds,k,0,d,h=>by simp at h;subst h;rfl
 |x::ds,k,i + 1,d,h=>by
  have:=HP (ds:=ds) (k:=k + 1) (i:=i) (d:=d) (by simpa using h);show(gy (k + 1) ds)[i]? =_;rw[this,show k + 1 + i=k + (i + 1) by lia]
end L3
namespace My
open PySem L2 L3
def Bd:D->Ae
 | .int i=> .inl i
 | .str x=> .inr x
 |_=> .inl 0
def qo{d:D}(h:Bl d):Ea d=some (Bd d):=by
 rcases h with⟨n,rfl,_⟩|⟨l,rfl,_⟩ <;> rfl
def lX{a b:D}(ha:Bl a)(hb:Bl b)(e:Bd a=Bd b):a=b:=by
 rcases ha with⟨n,rfl,_⟩|⟨l,rfl,_⟩ <;> rcases hb with⟨m,rfl,_⟩|⟨k,rfl,_⟩
 ·injection e with e;rw[e]
 ·cases e
 ·cases e
 ·injection e with e;rw[e]
def pM(d:D)(salt ii:Int)(j:Int):Int:=j * ii + mO (By d) (4 * salt + j) ii
def wx(d:D)(salt ig ii:Int):List D:=(List.range ig.toNat).map λ(k:Nat)=>D.int (pM d salt ii (0 + (k:Int)))
def WV{d:D}(h:Bl d)(salt ig ii:Int)(s0:0<=salt)(s1:salt<=1003000000000)(hk:ig=2\/ig=3)(p0:0 < ii)(p1:ii<=2000):
  AJ [d,.int salt,.int ig,.int ii]=.ok (.sh (.tup (wx d salt ig ii)))/\True:=by
 have hr:=wC (j:=ig) () ();have hl:(iY 0 ig.toNat).length<=16777216:=by rw[Jk];lia
 have bo:∀k:Nat,k < ig.toNat->Es (0 + (k:Int)) ii=true/\Es 4 salt=true:=λk hk=>⟨jd () (),jd ⋯ ⋯⟩;refine⟨?_,trivial⟩
 ·have ec:=Xg (fg:=gC 5) (p:=λ_=> .ok true) (f:=LW) (δ:=[some d,some (.int salt),some (.int ig),some (.int ii),some (.int (By d)),none]) (F:=λi=> .int (pM d salt ii i)) ig.toNat 0 (λk mI=>by
   obtain⟨m1,m2⟩:=bo k mI;refine⟨[some d,some (.int salt),some (.int ig),some (.int ii),some (.int (By d)),some (.int (0 + (k:Int)))],.sh (.int (pM d salt ii (0 + (k:Int)))),rfl,rfl, ?_,rfl⟩
   simp![LW,Ak,fE m1,fE m2,Fc,(wY (By d) (4 * salt + (0 + (k:Int))) ii () () p0).1,pM])
  have zy:=ng (m:=1) (fi:=Gu gT #v[2]) (fg:=gC 5) (p:=λ_=> .ok true) (f:=LW) (δ:=[some d,some (.int salt),some (.int ig),some (.int ii),some (.int (By d))]) (by simp![Ak,hr]) hl ec
  simp![AJ,Kn,Ak,wZ h,zy,vH]
  rfl
noncomputable def zi(ps:List Nat):List D:=ps.map λ(p:Nat)=>D.int (p:Int)
def YL(p n:Nat):qu [.int (p:Int),.int (n:Int)]=.ok (.sh (.bl (decide (p < n)))):=by
 simp![qu,sL,Ak,mR,hX,Gh,show(0:Int)<=(p:Int) by lia]
 rw[show decide ((p:Int) < (n:Int))=decide (p < n) by simp]
def KA(z m:Int)(h:0 < m):yJ [.int z,.int m]=.ok (.sh (.int (z % m))):=by
 simp![yJ,Km,Ak,iQ,show¬m=0 by lia,Cw h]
noncomputable def Bm(ts:List Int)(p:Nat):Int:=ts.getD p 0
def Ey(ts:List Int)(ps:List Nat):Int:=(ps.map (Bm ts)).sum
def lE{ts:List Int}{p:Nat}(h:p < ts.length):dM (ts.map D.int) (p:Int)=some (.int (Bm ts p)):=by
 refine DD ?_;rw[A9];simp[Bm,List.getD,h]
def Tc(ts:List Int)(a1 a2 a3:Option D)(ps:List Nat)(h:∀p∈ps,p < ts.length):
  eZ (gC 4) zO zP [some (.lst (ts.map .int)),a1,a2,a3,none] (zi ps)=.ok ((ps.map λp=>D.int (Bm ts p))):=by
 have:=nq (fg:=gC 4) (p:=zO) (f:=zP) (δ:=[some (.lst (ts.map .int)),a1,a2,a3,none]) (λ_=>true) (λd=>match d with| .int i=> .int (Bm ts i.toNat)|d=>d) (zi ps) λd hd=>by
  obtain⟨p,hp,rfl⟩:=E7.mp hd;have hl:=h p hp;refine⟨[some (.lst (ts.map .int)),a1,a2,a3,some (.int (p:Int))],rfl, ?_,λ_=>⟨.sh (.int (Bm ts p)), ?_,by simp⟩⟩
  ·simp![zO,Ak,jS,A3,YL,hl]
  ·simp![zP,Ak,iM (lE hl)]
 rw[this,P5.mpr λ_ _=>rfl]
 congr 1
 unfold zi;rw[J7];refine Y2 λp _=> ?_;simp
def WU(ts:List Int)(ps:List Nat)(m:Int)(hm:0 < m)(h:∀p∈ps,p < ts.length)(hl:ps.length<=1000):pf [.lst (ts.map .int),.tup (zi ps),.int m]=.ok (.sh (.int (Ey ts ps % m))):=by
 have ec:=ng (m:=1) (fi:=Ej (Aa 1)) (fg:=gC 4) (p:=zO) (f:=zP) (δ:=[some (.lst (ts.map .int)),some (.tup (zi ps)),some (.int m),none]) (ds:=zi ps) (by simp![Ak]) (by unfold zi;rw[A3];lia) (Tc ts _ _ _ ps h)
 simp![pf,HS,Ak,ec,Rm,KA _ m hm]
 rfl
noncomputable def lN:List Str:=["part","by_salt","modulus","listed","by_key"]
def Ar(p s m:Int)(T:List Int)(aA:List (Ae×D)):Tn:=.obj "Living" lN [.sh (.int p),.sh (.int s),.sh (.int m),.sh (.lst (T.map .int)),Tn.of (.aE aA)]
def Bk(p s m:Int)(T:List Int)(aA:List (Ae×D)):D:=.obj "Living" lN [.int p,.int s,.int m,.lst (T.map .int),.aE aA]
section
variable{p s m:Int}{T:List Int}{aA:List (Ae×D)}{d:D}
def pL:(Ar p s m T aA).d=Bk p s m T aA:=by
 have h:=Tn.eI (.aE aA);show D.obj "Living" lN [.int p,.int s,.int m,.lst (T.map .int),(Tn.of (.aE aA)).d]=_;rw[h];rfl
theorem xy:∀aA:List (Ae×D),Tn.cL (aA.map λp=>(p.1,Tn.sh p.2))=true
 | []=>by simp only[O0,Tn.cL]
 |(k,d)::aA=>by simp only[B3,Tn.cL,Tn.aX,xy aA,L8]
def JK:(Ar p s m T aA).aX=true:=by
 have h:(Tn.of (.aE aA)).aX=true:=by
  show Tn.aX (.aE (aA.map λp=>(p.1,.sh p.2)))=true;simp only[Tn.aX,xy]
 simp only[Ar,Tn.aX,Tn.cK,h,L8]
def fld{f:Str}{v:D}{e:FE}{δ:DE}(he:e δ=.ok (.sh (Bk p s m T aA)))(h:(lN.zip [D.int p,.int s,.int m,.lst (T.map .int),.aE aA]).lookup f=some v):Dm ["Living"] f e δ=.ok (.sh v):=by
 unfold Dm;rw[he];simp only[R.aI,W.dQ,Bk];rw[h];rfl
def zF(h:Bl d)(s0:0<=s)(s1:s<=1003000000000)(p0:0 < p)(p1:p<=2000):iV [Bk p s m T aA,d]=.ok (.sh (.tup (wx d s 2 p))):=by
 have e1:Dm ["Living"] "by_salt" (Aa 0) [some (Bk p s m T aA),some d]=.ok (.sh (.int s)):=fld rfl rfl;have e2:Dm ["Living"] "part" (Aa 0) [some (Bk p s m T aA),some d]=.ok (.sh (.int p)):=fld rfl rfl;have:=(WV h s 2 p s0 s1 (.inl rfl) p0 p1).1
 simp![iV,Ll,Ak,e1,e2,this]
def rZ(hl:T.length<=1000):gN [Bk p s m T aA]=.ok (.ow (.lst (T.map .int))):=by
 have e1:Dm ["Living"] "listed" (Aa 0) [some (Bk p s m T aA)]=.ok (.sh (.lst (T.map .int))):=fld rfl rfl
 simp![gN,Lg,Ak,e1,vR]
end
theorem IY:∀(Δ:SE) (n:Nat),iX [0] (n + 1) Δ=At Δ
 | [],_=>rfl
 |s::Δ,n=>by
  have h:([0]:List Nat).contains (n + 1)=false:=by simp
  simp only[iX,h,L1,P1,IY Δ (n + 1)];rfl
def DB(t:Tn)(Δ:SE):Dt [0] (.lt t::Δ)=some t.d::At Δ:=by
 show(if([0]:List Nat).contains 0=true then(Sl.lt t).any else(Sl.lt t).bT)::iX [0] (0 + 1) Δ=_;rw[IY];rfl
section
variable{p s m:Int}{T:List Int}{aA:List (Ae×D)}{d:D}{Δ:SE}{f:FE}
def IX:mZ [0] (.lt (Ar p s m T aA)::Δ)=true:=by
 have h:=JK (p:=p) (s:=s) (m:=m) (T:=T) (aA:=aA);simp only[mZ,P7,OC,M0,Sl.own,h,L8]
def wu{w:W}(h:f (some (Bk p s m T aA)::At Δ)=.ok w)(hp:kH w=true):Fg [0] f (.lt (Ar p s m T aA)::Δ)=.ok w.d (.lt (Ar p s m T aA)::Δ):=by
 unfold Fg;rw[IX,if_pos rfl,DB,pL,h];simp only[hp,if_true]
def Fj{F:AF}{n:Str}{e a:FE}{δ:DE}{w:W}(he:e δ=.ok (.sh (Bk p s m T aA)))(ha:a δ=.ok w)(hn:lN.contains n=false):Cg n 1 [("Living",F)] e #v[a] δ=F [Bk p s m T aA,w.d]:=by
 unfold Cg;rw[he];simp only[R.aI,W.dQ,Bk,Ab,Ad,ha];rw[hn];rfl
def nK{F:AF}{n:Str}{e:FE}{δ:DE}(he:e δ=.ok (.sh (Bk p s m T aA)))(hn:lN.contains n=false):Cg n 0 [("Living",F)] e Ad δ=F [Bk p s m T aA]:=by
 unfold Cg;rw[he];simp only[R.aI,W.dQ,Bk,Ad];rw[hn];rfl
end
section
variable{p s m:Int}{T:List Int}{aA:List (Ae×D)}{d v:D}{w:Int}
def Gx{n:Nat}{mn:Str}{M:Tn->List D->RR}{ga:SE->R (List D)}{Δ:SE}{ds:List D}(hm:lN.contains mn=false)(hg:ga (.lt (Ar p s m T aA)::Δ)=.ok ds)(hl:ds.length=n):Fh 0 n mn "Living" M ga (.lt (Ar p s m T aA)::Δ)=BQ 0 true (.lt (Ar p s m T aA)::Δ) (M (Ar p s m T aA) ds):=by
 have hb:((Sl.lt (Ar p s m T aA)::Δ)[0]?).bind Sl.tree=some (Ar p s m T aA,true):=rfl;unfold Fh;rw[hb];unfold Ar at hg⊢;simp only[hm,zB,if_true,hg,hl]
end
def Gf:Fl->RR
 | .nx (.lt t'::_)=> .ok .aK t'
 | .rv d (.lt t'::_)=> .ok d t'
 | .ex x (.lt t'::_)=> .ex x t'
 |_=> .no
section
variable{g h:FS}{Δ Δ':SE}{r:Fl}{q:RR}{js:List Nat}{t:FT}{d:D}{x:Xn}{u:Tn}
def sq(e:g Δ=.nx Δ')(k:h Δ'=r):Af g h Δ=r:=(iL e).trans k
def gG(e:g Δ=.nx Δ')(k:Gf (h Δ')=q):Gf (Af g h Δ)=q:=by rw[iL e];exact k
def sqV(e:g Δ=.rv d Δ'):Af g h Δ=.rv d Δ':=by unfold Af;rw[e]
def sqX(e:g Δ=.ex x Δ'):Af g h Δ=.ex x Δ':=by unfold Af;rw[e]
def Pw(e:g Δ=.rv d (.lt u::Δ')):Gf (Af g h Δ)=.ok d u:=by rw[sqV e];rfl
def CN(e:g Δ=.ex x (.lt u::Δ')):Gf (Af g h Δ)=.ex x u:=by rw[sqX e];rfl
def jr{fg:FG}{e:D}{ds:List D}{Δ1:SE}(h:fg e Δ=.ok Δ1)(k:g Δ1=.nx Δ'):De fg g (e::ds) Δ=De fg g ds Δ':=by
 simp only[De,h,k]
def Nd{n:Nat}(e:t (Be Δ)=.ok true)(k:g Δ=.nx Δ'):gz js t g (n + 1) Δ=gz js t g n Δ':=by
 simp only[gz,e,k,if_true]
def wh0{n:Nat}(e:t (Be Δ)=.ok false):gz js t g (n + 1) Δ=.nx Δ:=by
 unfold gz;rw[e];rfl
def qt(e:t (Be Δ)=.ok true):Bu js t g h Δ=g Δ:=by unfold Bu;rw[e];rfl
def uL(e:t (Be Δ)=.ok false):Bu js t g h Δ=h Δ:=by unfold Bu;rw[e];rfl
def CQ{i:Nat}{f:FE}{d:D}(e:f (At Δ)=.ok (.ow d)):Al i js f Δ=.nx (Δ.set i (.ow d)):=by unfold Al;rw[e]
def Qs{c:AF}{f:FE}{δ:DE}{w:W}{a:R W}(e:f δ=.ok w)(k:c [w.d]=a):Av c #v[f] δ=a:=by
 unfold Av Ab Ad;rw[e];exact k
def Qr{c:D->D->R W}{f f':FE}{δ:DE}{w w':W}{b:Bool}(e:f δ=.ok w)(e':f' δ=.ok w')(k:c w.d w'.d=.ok (.sh (.bl b))):Aj (Ag c f f') δ=.ok b:=by
 unfold Aj Ag;rw[e,R.aI,e',R.aI,k];rfl
def Qf{fi:FI}{fg:FG}{ds:List D}(e:fi (At Δ)=.ok ds)(k:De fg g ds Δ=r):Db js fi fg g Δ=r:=by
 unfold Db;rw[e];exact k
def Qg{f:FE}{fg:FG}{ds:List D}(e:jP f (At Δ)=.ok ds)(k:De fg g ds Δ=.nx Δ'):nQ js f fg g Δ=.nx Δ':=by
 unfold nQ;rw[e];show lj (De fg g ds Δ)=_;rw[k];rfl
def PL{f:FE}{δ:DE}{d:D}{a:R W}(e:f δ=.ok (.ow d))(k:wF d=a):oU f δ=a:=by unfold oU;rw[e];exact k
def sqT{w:W}(e:g Δ=.rt w):Af g h Δ=.rt w:=by unfold Af;rw[e]
def Pl{hs:List Hd}(e:g Δ=.nx Δ'):jv g hs Δ=.nx Δ':=by unfold jv;rw[e]
def Pk{hs:List Hd}(e:g Δ=.ex x Δ')(k:jm hs x Δ'=r):jv g hs Δ=r:=by unfold jv;rw[e];exact k
def Qq{m:Nat}{fi:FI}{fg:gE}{f:FE}{δ:DE}{ds:List D}(F:D->D)(h:fi δ=.ok ds)(hl:ds.length<=16777216)(k:∀d∈ds,∃δ1 w,fg d (δ ++ List.replicate m none)=.ok δ1/\f δ1=.ok w/\w.d=F d):Ct m fi fg (λ_=> .ok true) f δ=.ok (.ow (.lst (ds.map F))):=by
 refine ng h hl ((nq (λ_=>true) F ds λd hd=> ?_).trans (by rw[P5.mpr λ_ _=>rfl]));obtain⟨δ1,w,a,b,c⟩:=k d hd;exact⟨δ1,a,rfl,λ_=>⟨w,b,c⟩⟩
end
section
variable{p s m:Int}{T:List Int}{aA:List (Ae×D)}{n i:Nat}{mn:Str}{M:Tn->List D->RR}{ga:SE->R (List D)}{Δ Δ0:SE}{ds:List D}{js:List Nat}{d:D}{x:Xn}{t:Tn}{f:FE}{w:W}
def va(h:f (some (Bk p s m T aA)::At Δ)=.ok w)(hp:kH w=true):eY i (Fg [0] f) (.lt (Ar p s m T aA)::Δ)=.nx ((.lt (Ar p s m T aA)::Δ).set i (.sh w.d)):=by
 unfold eY;rw[wu h hp]
def vy(h:f (some (Bk p s m T aA)::At Δ)=.ok w)(hp:kH w=true)(k:ga (.lt (Ar p s m T aA)::Δ)=.ok ds):og [0] f ga (.lt (Ar p s m T aA)::Δ)=.ok (w.d::ds):=by
 unfold og;rw[IX,if_pos rfl,DB,pL,h,k];simp only[hp,if_true]
def lg(h:f (At Δ)=.ok w)(k:ga Δ=.ok ds):Fb f ga Δ=.ok (w.d::ds):=by
 unfold Fb;rw[h,k]
def lW(h0:aD js Δ0=.lt (Ar p s m T aA)::Δ)(hm:lN.contains mn=false)(hg:ga (.lt (Ar p s m T aA)::Δ)=.ok ds)(hl:ds.length=n)(e:M (Ar p s m T aA) ds=.ok d t):fD js (Fh 0 n mn "Living" M ga) Δ0=.ok d (.lt t::Δ):=by
 unfold fD;rw[h0,Gx hm hg hl,e];rfl
def Gw(h0:aD js Δ0=.lt (Ar p s m T aA)::Δ)(hm:lN.contains mn=false)(hg:ga (.lt (Ar p s m T aA)::Δ)=.ok ds)(hl:ds.length=n)(e:M (Ar p s m T aA) ds=.ex x t):fD js (Fh 0 n mn "Living" M ga) Δ0=.ex x (.lt t::Δ):=by
 unfold fD;rw[h0,Gx hm hg hl,e];rfl
end
section
variable{g:SE->FM}{Δ Δ':SE}{d:D}{i:Nat}{x:Xn}
def Dy(e:g Δ=.ok d Δ'):eY i g Δ=.nx (Δ'.set i (.sh d)):=by unfold eY;rw[e]
def CP(e:g Δ=.ex x Δ'):eY i g Δ=.ex x Δ':=by unfold eY;rw[e]
def vp(e:g Δ=.ok d Δ'):jA g Δ=.nx Δ':=by unfold jA;rw[e]
end
def Vo(z n:Int):qu [.int z,.int n]=.ok (.sh (.bl (decide (0<=z/\z < n)))):=by
 by_cases h:0<=z
 ·simp![qu,sL,Ak,mR,hX,Gh,h,true_and]
 ·simp![qu,sL,Ak,mR,hX,Gh,h,false_and]
def yE(n s:Int){z:Int}(h:0 < z):0<=mO n s z:=by unfold mO;exact L4 _ ()
def IW(n s:Int){z:Int}(h:0 < z):mO n s z < z:=by unfold mO;exact K3 _ h
def pA(d:D)(s p:Int):Nat:=(mO (By d) (4 * s + 0) p).toNat
def pB(d:D)(s p:Int):Nat:=(p + mO (By d) (4 * s + 1) p).toNat
def zN(d:D)(s:Int){p:Int}(h:0 < p):wx d s 2 p=zi [pA d s p,pB d s p]:=by
 have a0:=yE (By d) (4 * s + 0) h;have b0:=yE (By d) (4 * s + 1) h;show [D.int (pM d s p (0 + ((0:Nat):Int))),D.int (pM d s p (0 + ((1:Nat):Int)))]= [D.int ((pA d s p:Nat):Int),D.int ((pB d s p:Nat):Int)];have e1:pM d s p (0 + ((0:Nat):Int))=((pA d s p:Nat):Int):=by
  unfold pM pA;rw[show(0:Int) + ((0:Nat):Int)=0 from rfl];lia
 have e2:pM d s p (0 + ((1:Nat):Int))=((pB d s p:Nat):Int):=by
  unfold pM pB;rw[show(0:Int) + ((1:Nat):Int)=1 from rfl];lia
 rw[e1,e2]
def iW(d:D)(s:Int){p:Int}(h:0 < p):(pA d s p:Int) < p:=by
 have a0:=yE (By d) (4 * s + 0) h;have a1:=IW (By d) (4 * s + 0) h;unfold pA;lia
def jL(d:D)(s:Int){p:Int}(h:0 < p):(pB d s p:Int) < 2 * p/\p<=(pB d s p:Int):=by
 have a0:=yE (By d) (4 * s + 1) h;have a1:=IW (By d) (4 * s + 1) h;unfold pB;lia
structure dC(p s m:Int)(T:List Int):Prop where
 p0:0 < p
 p1:p<=10
 s0:0<=s
 s1:s<=1003000000000
 m0:2<=m
 m1:m<=1000000001
 tl:(T.length:Int)=2 * p
section
variable{p s m:Int}{T:List Int}{aA:List (Ae×D)}{d:D}(z:dC p s m T)
include z
theorem wX(h:Bl d):mM [Bk p s m T aA,d]=.ok (.sh (.int (Ey T [pA d s p,pB d s p] % m))):=by
 have a:=iW d s z.p0;have b:=jL d s z.p0;have tl:=z.tl;have e1:Dm ["Living"] "listed" (Aa 0) [some (Bk p s m T aA),some d]=.ok (.sh (.lst (T.map .int))):=fld rfl rfl;have e3:Dm ["Living"] "modulus" (Aa 0) [some (Bk p s m T aA),some d]=.ok (.sh (.int m)):=fld rfl rfl;have hp:=zF (m:=m) (T:=T) (aA:=aA) h z.s0 z.s1 z.p0 (by have:=z.p1;lia);rw[zN d s z.p0]at hp;have e2:Cg "places" 1 [("Living",iV)] (Aa 0) #v[1] [some (Bk p s m T aA),some d]=.ok (.sh (.tup (zi [pA d s p,pB d s p]))):=(Fj (w:=.sh d) rfl rfl nofun).trans hp;have hs:=WU T [pA d s p,pB d s p] m (by have:=z.m0;lia) (λq hq=>by
  have:q=pA d s p\/q=pB d s p:=by simpa using hq
  lia) (by simp)
 simp![mM,Lf,Ak,e1,e2,e3,hs]
end
theorem jy:∀aA:List (Ae×D),Gg (aA.map λp=>(p.1,Tn.sh p.2))=some aA
 | []=>rfl
 |(k,d)::aA=>by
  have:=jy aA;simp only[B3,Gg,this,M3]
section
variable{p s m:Int}{T:List Int}{aA aa:List (Ae×D)}{d:D}
def oy:(["Living"]:List Str).contains ("Living" :Str)=true:=by decide +kernel
def DA:(lN.zip [Tn.sh (.int p),.sh (.int s),.sh (.int m),.sh (.lst (T.map .int)),Tn.of (.aE aA)]).lookup ("by_key" :Str)=some (Tn.aE (aA.map λp=>(p.1,Tn.sh p.2))):=rfl
def EA:cU lN [Tn.sh (.int p),.sh (.int s),.sh (.int m),.sh (.lst (T.map .int)),Tn.of (.aE aA)] "by_key" (Tn.of (.aE aa))= [Tn.sh (.int p),.sh (.int s),.sh (.int m),.sh (.lst (T.map .int)),Tn.of (.aE aa)]:=rfl
def Ri{T':List Int}:cU lN [Tn.sh (.int p),.sh (.int s),.sh (.int m),.sh (.lst (T.map .int)),Tn.of (.aE aA)] "listed" (.sh (.lst (T'.map .int)))= [Tn.sh (.int p),.sh (.int s),.sh (.int m),.sh (.lst (T'.map .int)),Tn.of (.aE aA)]:=rfl
def Qe{Δ:SE}{fk:FE}{k:Ae}{w:W}(hk:fk (none::At Δ)=.ok w)(hw:Ea w.d=some k)(hh:(Bc aA k).isSome=true):oe 0 ["Living"] "by_key" fk (.lt (Ar p s m T aA)::Δ)=.nx (.lt (Ar p s m T (Gd aA k))::Δ):=by
 have hb:((Sl.lt (Ar p s m T aA)::Δ)[0]?).bind Sl.tree=some (Ar p s m T aA,true):=rfl;have hv:At (Sl.lt (Ar p s m T aA)::Δ)=none::At Δ:=rfl;unfold oe;rw[hb,hv];unfold Ar;simp only[oy,DA,jy,hk,hw,hh,if_true,EA];rfl
def Qd{Δ:SE}{fk fe:FE}{k:Ae}{w v:W}(hk:fk (none::At Δ)=.ok w)(hw:Ea w.d=some k)(he:fe (none::At Δ)=.ok v)(hl:aA.length < 16777216):lq 0 ["Living"] "by_key" fk fe (.lt (Ar p s m T aA)::Δ)=.nx (.lt (Ar p s m T (Df aA k v.d))::Δ):=by
 have hb:((Sl.lt (Ar p s m T aA)::Δ)[0]?).bind Sl.tree=some (Ar p s m T aA,true):=rfl;have hv:At (Sl.lt (Ar p s m T aA)::Δ)=none::At Δ:=rfl;unfold lq;rw[hb,hv];unfold Ar;simp only[oy,DA,jy,hk,hw,he,hl,if_true,EA];rfl
end
section
variable{p s m:Int}{T:List Int}{aA:List (Ae×D)}{d v:D}
def WT(h:Bl d)(g1 g2:FS):Bu [0,1] (Aj (Ag (Ew true) (Aa 1) (Dm ["Living"] "by_key" (Aa 0)))) g1 g2 [.lt (Ar p s m T aA),.sh d]=if Do aA (Bd d)=true then g2 [.lt (Ar p s m T aA),.sh d] else g1 [.lt (Ar p s m T aA),.sh d]:=by
 have e1:Dm ["Living"] "by_key" (Aa 0) [some (Bk p s m T aA),some d]=.ok (.sh (.aE aA)):=fld rfl rfl;have hk:=qo h;cases hh:Do aA (Bd d) with
 |true=>simp![Ak,Sl.any,pL,e1,Ew,hk,hh,if_true,OH]
 |false=>simp![Ak,Sl.any,pL,e1,Ew,hk,hh,if_true,Z2]
def pj(h:Bl d):iB [1] (Bj 1 kM #v[1]) [.lt (Ar p s m T aA),.sh d]=.nx [.lt (Ar p s m T aA),.sh d]:=by
 simp![Ak,Sl.any,wZ h]
def Vn(h:Bl d)(hh:Do aA (Bd d)=true):yR (Ar p s m T aA) [d]=.ok .aK (Ar p s m T (Gd aA (Bd d))):=by
 unfold yR fM KQ;rw[show fR 2 (Ar p s m T aA) [d]= [.lt (Ar p s m T aA),.sh d] from rfl,iL (pj h)];have q2:=WT (p:=p) (s:=s) (m:=m) (T:=T) (aA:=aA) h (rO "NoSuch") Az;rw[hh,if_pos rfl]at q2;rw[iL (Δ':=[.lt (Ar p s m T aA),.sh d]) q2,Qe (k:=Bd d) (w:=.sh d) rfl (qo h) hh]
end
def Tb:∀c∈eF,∀d∈eF,jO c=jO d->c=d:=by decide +kernel
def sy(l:List Nat)(c:Nat):Ez (l ++ [c])=40 * Ez l + (jO c:Int) + 1:=by
 unfold Ez;rw[List.foldl_append];rfl
def xT(l:List Nat):l= []\/∃k c,l=k ++ [c]:=by
 by_cases h:l= []
 ·exact .inl h
 ·exact .inr ⟨l.dropLast,l.getLast h,(List.dropLast_concat_getLast h).symm⟩
def WS:∀(n:Nat) (l k:List Nat),l.length=n->(∀c∈l,c∈eF)->(∀c∈k,c∈eF)->Ez l=Ez k->l=k:=by
 intro n
 induction n with
 |zero=>
  intro l k hl hc hk e;have:l= []:=List.length_eq_zero_iff.mp hl;subst this;rcases xT k with rfl|⟨k',d,rfl⟩
  ·rfl
  ·have hd:=vL d (hk d (by simp));rw[sy]at e;have e0:Ez []=0:=rfl;rw[e0]at e;lia
 |succ n ih=>
  intro l k hl hc hk e;rcases xT l with rfl|⟨l',c,rfl⟩
  ·simp at hl
  ·have yX:=vL c (hc c (by simp));rcases xT k with rfl|⟨k',d,rfl⟩
   ·rw[sy]at e;have e0:Ez []=0:=rfl;rw[e0]at e;lia
   ·have hdl:=vL d (hk d (by simp));rw[sy,sy]at e;have e1:jO c=jO d:=by lia
    have e2:Ez l'=Ez k':=by lia
    have e3:=Tb c (hc c (by simp)) d (hk d (by simp)) e1;have e4:=ih l' k' (by simpa using hl) (λx hx=>hc x (by simp[hx])) (λx hx=>hk x (by simp[hx])) e2;rw[e3,e4]
def xx{a b:D}(ha:Bl a)(hb:Bl b)(e:By a=By b):a=b:=by
 rcases ha with⟨n,rfl,_⟩|⟨l,rfl,_,hc⟩ <;> rcases hb with⟨m,rfl,_⟩|⟨k,rfl,_,hk⟩
 ·have e:2 * n=2 * m:=e;rw[show n=m by lia]
 ·have e:2 * n=2 * Ez (Bt k).cps.toList + 1:=e;lia
 ·have e:2 * Ez (Bt l).cps.toList + 1=2 * m:=e;lia
 ·have e:2 * Ez (Bt l).cps.toList + 1=2 * Ez (Bt k).cps.toList + 1:=e;rw[mY,mY]at e;rw[WS l.length l k rfl hc hk ()]
def DZ{d:D}(h:Bl d):kD (Bd d)=d:=by rcases h with⟨n,rfl,_⟩|⟨l,rfl,_⟩ <;> rfl
structure bH(aA:List (Ae×D))(ks:List D):Prop where
 key:∀k∈ks,Bl k
 nd:ks.Nodup
 eq:aA.map (·.1)=ks.map Bd
 val:∀q∈aA,∃n:Int,q.2=.int n
 len:ks.length<=60
section
variable{aA:List (Ae×D)}{ks:List D}
def bH.ds(h:bH aA ks):(aA.map λp=>kD p.1)=ks:=by
 rw[show(aA.map λp=>kD p.1)=(aA.map (·.1)).map kD by rw[J7];rfl,h.eq,J7];have:∀{l:List D},(∀k∈l,Bl k)->l.map (kD ∘ Bd)=l:=λ{l}=>by
  induction l with
  |nil=>intro _;rfl
  |cons a l ih=>intro hl;rw[B3,ih λk hk=>hl k (.tail _ hk)];show kD (Bd a)::l=_;rw[DZ (hl a (.head _))]
 exact this h.key
theorem bH.length(h:bH aA ks):aA.length=ks.length:=by
 have:=K4 List.length h.eq
 rwa[A3,A3]at this
theorem Kz:∀{l:List D},(∀k∈l,Bl k)->fQ kM l=.ok (l.map λd=>(By d,d))
 | [],_=>rfl
 |d::l,h=>by
  unfold fQ;rw[wZ (h d (.head _))];simp only[R.aI,W.dQ,Kz λk hk=>h k (.tail _ hk)];rfl
theorem pC{α β:Type}{f:α->β}:∀{l:List α},(∀x∈l,∀y∈l,f x=f y->x=y)->l.Nodup->(l.map f).Nodup
 | [],_,_=> .nil
 |a::l,inj,nd=>by
  rw[K9]at nd;rw[B3,K9];refine⟨λhm=> ?_,pC (λx hx y hy=>inj x (.tail _ hx) y (.tail _ hy)) nd.2⟩;obtain⟨b,hb,e⟩:=E7.mp hm;exact nd.1 (inj b (.tail _ hb) a (.head _) e▸hb)
def kL(ks:List D):List D:=(kC (ks.map λd=>(By d,d))).map (·.2)
def LM(ks:List D):(kL ks).Perm ks:=by
 have h:=(sM (ks.map λd=>(By d,d))).map (·.2);rw[J7]at h;have e:(ks.map ((λx:Int×D=>x.2) ∘ λd=>(By d,d)))=ks:=by
  rw[show((λx:Int×D=>x.2) ∘ λd=>(By d,d))=id from rfl,List.map_id]
 rw[e]at h;exact h
def Vm(h:bH aA ks):ju kM (aA.map λp=>kD p.1)=.ok (.ow (.lst (kL ks))):=by
 unfold ju;rw[h.ds,Kz h.key];have nd:((ks.map λd=>(By d,d)).map (·.1)).Nodup:=by
  rw[J7];exact pC (λx hx y hy e=>xx (h.key x hx) (h.key y hy) e) h.nd
 have hl:=h.len;simp only[A3,show ks.length < 64 by lia,nd,zB,if_true];rfl
theorem wt:∀{aA:List (Ae×D)} {k:Ae},k∈aA.map (·.1)->∃v,Bc aA k=some v/\(k,v)∈aA
 | [],_,h=>by cases h
 |(a,v)::r,k,h=>by
  unfold Bc
  by_cases e:a=k
  ·subst e;exact⟨v,by rw[R4 (by simp)];rfl,.head _⟩
  ·rw[B3,C7]at h;rcases h with h|h
   ·exact absurd h.symm e
   ·obtain⟨w,e1,e2⟩:=wt h;unfold Bc at e1;exact⟨w,by rw[R5 (by simpa using e)];exact e1,.tail _ e2⟩
def bH.get(h:bH aA ks){d:D}(hd:d∈ks):∃n:Int,Bc aA (Bd d)=some (.int n):=by
 obtain⟨v,e,hm⟩:=wt (aA:=aA) (k:=Bd d) (by rw[h.eq];exact Y1 hd);obtain⟨n,en⟩:=h.val _ hm;exact⟨n,by rw[e];exact K4 some en⟩
end
def jq(aA:List (Ae×D))(ks:List D):List D:=(kL ks).map λd=> .tup [d,(Bc aA (Bd d)).getD .aK]
section
variable{p s m:Int}{T:List Int}{aA:List (Ae×D)}{ks:List D}{d:D}
def Ta(h:bH aA ks):ud [Bk p s m T aA]=.ok (.ow (.lst (jq aA ks))):=by
 have mem:∀d,d∈kL ks->d∈ks:=λd hd=>(LM ks).mem_iff.mp hd;have e1:Dm ["Living"] "by_key" (Aa 0) [some (Bk p s m T aA)]=.ok (.sh (.aE aA)):=fld rfl rfl;have es:Ej (oB kM (Dm ["Living"] "by_key" (Aa 0))) [some (Bk p s m T aA)]=.ok (kL ks):=by
  unfold Ej oB;rw[e1];simp only[R.aI,W.dQ,Vm h,W.vG];rfl
 have hl:(kL ks).length<=16777216:=by
  rw[(LM ks).length_eq];have:=h.len;lia
 have hc:=nq (fg:=gC 1) (p:=λ_=> .ok true) (f:=LZ) (δ:=[some (Bk p s m T aA),none]) (λ_=>true) (λd=> .tup [d,(Bc aA (Bd d)).getD .aK]) (kL ks) λd hd=>by
  obtain⟨n,en⟩:=h.get (mem d hd);have hk:=qo (h.key d (mem d hd));refine⟨[some (Bk p s m T aA),some d],rfl,rfl,λ_=>⟨.sh (.tup [d,.int n]), ?_,by rw[en];rfl⟩⟩;have e2:Dm ["Living"] "by_key" (Aa 0) [some (Bk p s m T aA),some d]=.ok (.sh (.aE aA)):=fld rfl rfl
  simp![LZ,Ak,e2,Eo,hk,en]
 rw[P5.mpr λ_ _=>rfl]at hc;have ec:=ng (m:=1) (fi:=Ej (oB kM (Dm ["Living"] "by_key" (Aa 0)))) (fg:=gC 1) (p:=λ_=> .ok true) (f:=LZ) (δ:=[some (Bk p s m T aA)]) es hl hc
 simp![ud,KS,Ak,ec]
 rfl
def pz(h:Bl d):Dc d=true:=by rcases h with⟨n,rfl,_⟩|⟨l,rfl,_⟩ <;> rfl
def Vl:∀c∈eF,c < 0x110000:=by decide +kernel
def Rh(n:Nat)(h:Bl d):Fq n d=true:=by
 rcases h with⟨i,rfl,_⟩|⟨l,rfl,_,hc⟩
 ·cases n <;> rfl
 ·have:(Bt l).cps.all (· < 0x110000)=true:=by
   rw[Array.all_eq_true_iff_forall_mem];intro c hm;have:c∈l:=by simpa[Bt] using hm
   simpa using Vl c (hc c this)
  cases n <;> exact this
def WR(h:bH aA ks):∀x∈jq aA ks,Dc x=true/\Fq 1 x=true:=λx hx=>by
 obtain⟨d,hd,rfl⟩:=E7.mp hx;have hm:=(LM ks).mem_iff.mp hd;obtain⟨n,en⟩:=h.get hm;have hk:=h.key d hm;rw[en];refine⟨?_, ?_⟩
 ·simp only[Q9,Dc,Ef,pz hk,L8]
 ·simp only[Q9,Fq,P7,OC,Rh 0 hk,L8]
theorem xS:∀{l:List D},(∀x∈l,Dc x=true)->Ef l=true
 | [],_=>by simp only[Ef]
 |d::l,h=>by simp only[Ef,h d (.head _),xS λx hx=>h x (.tail _ hx),L8]
theorem zM:∀T:List Int,Ef (T.map .int)=true
 | []=>by simp only[O0,Ef]
 |i::T=>by simp only[B3,Ef,Dc,zM T,L8]
end
section
variable{p s m:Int}{T:List Int}{aA:List (Ae×D)}{ks:List D}{d:D}
def Vk{n:Nat}{M:Tn->List D->RR}{ga:SE->R (List D)}{Δ:SE}{ds:List D}(hg:ga (.lt (Ar p s m T aA)::Δ)=.ok ds)(hl:ds.length=n):lG 0 n M ga (.lt (Ar p s m T aA)::Δ)=BQ 0 true (.lt (Ar p s m T aA)::Δ) (M (Ar p s m T aA) ds):=by
 have hb:((Sl.lt (Ar p s m T aA)::Δ)[0]?).bind Sl.tree=some (Ar p s m T aA,true):=rfl;unfold lG;rw[hb];unfold Ar at hg⊢;simp only[hg,hl,if_true]
theorem xR:∀{ds:List D},Ef ds=true->iP (ds.map .sh)=true
 | [],_=>by simp only[O0,iP]
 |d::ds,h=>by
  simp only[Ef,D5]at h;simp only[B3,iP,Dg,h.1,xR h.2,L8]
def pe{ds:List D}(h:Ef ds=true):kH (.ow (.lst ds))=true:=by
 show Dg (.lst (ds.map .sh))=true;simp only[Dg,xR h]
def SY{x:D}(h:Fq 3 x=true)(hs:∀y,x≠ .str y):Ck x x=.ok (.sh (.bl false)):=by
 have e:=sd 3 h;cases x with
 |str y=>exact absurd rfl (hs y)
 |_=>
  unfold Dj at e;unfold Ck;simp only at e⊢
  split at e
  ·rename_i hc;rw[if_pos hc];injection e with e
   injection e with e
   injection e with e
   rw[e];rfl
  ·cases e
end
def rJ{ns:List Str}{ts:List Tn}{f:Str}{js:List Nat}{fe:FE}{Δ:SE}{w:W}(hj:aD js (.lt (.obj "Living" ns ts)::Δ)=.lt (.obj "Living" ns ts)::Δ)(h1:ns.contains f=false)(h2:ns.length < 1000)(hf:fe (none::At Δ)=.ok w):ij 0 ["Living"] f js fe (.lt (.obj "Living" ns ts)::Δ)=.nx (.lt (.obj "Living" (ns ++ [f]) (ts ++ [.sh w.d]))::Δ):=by
 unfold ij;rw[hj,show At (.lt (.obj "Living" ns ts)::Δ)=none::At Δ from rfl,hf];simp only[M0,oy,h1,h2,zB,if_true,Z1]
abbrev L21:List Str:=["part","by_salt","modulus","listed"]
def SX{p s m:Int}(p0:0 < p)(p1:p<=10):yy [.int p,.int s,.int m]=.ok (lN,[.sh (.int p),.sh (.int s),.sh (.int m),.sh (.lst ((List.replicate (2 * p).toNat (0:Int)).map .int)),Tn.of (.aE [])]):=by
 have mm:Es 2 p=true:=jd ⋯ ⋯;have dz:qM [D.int 0] (.int (2 * p))=.ok (.ow (.lst ((List.replicate (2 * p).toNat (0:Int)).map .int))):=by
  unfold qM;simp only;rw[if_pos ⟨by lia,by simp;lia⟩];have:∀n:Nat,(List.replicate n [D.int 0]).flatten=(List.replicate n (0:Int)).map .int:=λn=>by
   induction n with
   |zero=>rfl
   |succ n ih=>rw[L9,P2,ih];rfl
  rw[this]
 have hr:qP #v[eC (.int 0)] (Ag Dr (eC (.int 2)) (Aa 1)) [none,some (.int p),some (.int s),some (.int m)]=.ok (.ow (.lst ((List.replicate (2 * p).toNat (0:Int)).map .int))):=by
  simp![qP,Ak,fE mm,dz]
 have a1:=rJ (ns:=[]) (ts:=[]) (f:= "part") (js:=[1]) (fe:=Aa 1) (Δ:=[.sh (.int p),.sh (.int s),.sh (.int m)]) (w:=.sh (.int p)) rfl rfl ⋯ rfl;have a2:=rJ (ns:=["part"]) (ts:=[.sh (.int p)]) (f:= "by_salt") (js:=[2]) (fe:=Aa 2) (Δ:=[.sh (.int p),.sh (.int s),.sh (.int m)]) (w:=.sh (.int s)) rfl nofun ⋯ rfl;have a3:=rJ (ns:=["part","by_salt"]) (ts:=[.sh (.int p),.sh (.int s)]) (f:= "modulus") (js:=[3]) (fe:=Aa 3) (Δ:=[.sh (.int p),.sh (.int s),.sh (.int m)]) (w:=.sh (.int m)) rfl nofun ⋯ rfl;have a4:=rJ (ns:=["part","by_salt","modulus"]) (ts:=[.sh (.int p),.sh (.int s),.sh (.int m)]) (f:= "listed") (js:=[1]) (Δ:=[.sh (.int p),.sh (.int s),.sh (.int m)]) rfl nofun ⋯ hr;have a5:nY 0 ["Living"] "by_key" fN [.lt (.obj "Living" L21 [.sh (.int p),.sh (.int s),.sh (.int m),.sh (.lst ((List.replicate (2 * p).toNat (0:Int)).map .int))]),.sh (.int p),.sh (.int s),.sh (.int m)]=.nx [.lt (.obj "Living" lN [.sh (.int p),.sh (.int s),.sh (.int m),.sh (.lst ((List.replicate (2 * p).toNat (0:Int)).map .int)),Tn.of (.aE [])]),.sh (.int p),.sh (.int s),.sh (.int m)]:=by
  have h1:(L21:List Str).contains ("by_key" :Str)=false:=by decide +kernel
  unfold nY;simp only[M0,oy,h1,B4,K2];rfl
 unfold yy Fp x_7;rw[show oC 4 "Living" [.int p,.int s,.int m]= [.lt (.obj "Living" [] []),.sh (.int p),.sh (.int s),.sh (.int m)] from rfl,iL a1];simp only[R8,W.dQ];rw[iL a2];simp only[Q7,R8,W.dQ];rw[iL a3];simp only[Q7,R8,W.dQ];rw[iL a4];simp only[Q7,R8,W.vG];rw[a5];simp only[if_true]
section
variable{α:Type}
def oZ(k:Ae):Bc ([]:List (Ae×α)) k=none:=rfl
def Eh(x:Ae)(v:α)(l:List (Ae×α))(k:Ae):Bc ((x,v)::l) k=if x=k then some v else Bc l k:=by
 unfold Bc;rw[Q1]
 by_cases h:x=k
 ·rw[if_pos h,C9 h];rfl
 ·rw[if_neg h,C5 h]
def rY(l r:List (Ae×α))(k:Ae):Bc (l ++ r) k=(Bc l k).or (Bc r k):=by
 induction l with
 |nil=>rfl
 |cons q l ih=>
  obtain⟨x,v⟩:=q;rw[Q7,Eh,Eh,ih]
  split <;> rfl
theorem HN(v:α)(k k':Ae):∀l:List (Ae×α),Bc (Di l k v) k'=if k'=k then(Bc l k).map (λ_=>v) else Bc l k'
 | []=>by unfold Di;simp[oZ]
 |(x,u)::l=>by
  unfold Di
  by_cases h:x=k
  ·rw[if_pos h,Eh,Eh,if_pos h]
   by_cases h':k'=k
   ·rw[if_pos h',if_pos (h.trans h'.symm)];rfl
   ·rw[if_neg h',if_neg (λe=>h' (e.symm.trans h)),Eh,if_neg (λe=>h' (e.symm.trans h))]
  ·rw[if_neg h,Eh,HN v k k' l,Eh,if_neg h]
   by_cases h':k'=k
   ·rw[if_pos h',if_pos h',if_neg (λe=>h (e.trans h'))]
   ·rw[if_neg h',if_neg h',Eh]
def IV{l:List (Ae×α)}{k:Ae}{v:α}(h:Bc l k=some v):(k,v)∈l:=by
 induction l with
 |nil=>cases h
 |cons q l ih=>
  obtain⟨x,u⟩:=q;rw[Eh]at h
  split at h
  ·rename_i e;cases h;subst e;exact C8
  ·exact B9 _ (ih h)
theorem Gv{v:α}{k:Ae}{q:Ae×α}:∀{l:List (Ae×α)},q∈Di l k v->q∈l\/q.2=v
 | [],h=>by unfold Di at h;cases h
 |(x,u)::l,h=>by
  unfold Di at h
  split at h
  ·rcases C7.mp h with e|e
   ·subst e;exact .inr rfl
   ·exact .inl (B9 _ e)
  ·rcases C7.mp h with e|e
   ·subst e;exact .inl C8
   ·rcases Gv e with e|e
    ·exact .inl (B9 _ e)
    ·exact .inr e
def SW(v:α)(k:Ae)(l:List (Ae×α)):(Di l k v).length=l.length:=by
 have:=K4 List.length (xI l k v);simpa using this
end
theorem FZ(k:Ae):∀zk:List (Ae×Tn),Bc (Tn.ks zk) k=(Bc zk k).map Tn.d
 | []=>rfl
 |(x,t)::zk=>by
  unfold Tn.ks;rw[Eh,Eh,FZ k zk]
  split <;> rfl
abbrev Nb:=List (D×Nat)
noncomputable def mD(l:Nb):List D:=l.map λx=> .tup [x.1,.int (x.2:Int)]
abbrev Ed:=D×Nat×Nat
noncomputable def Bq(E:List Ed)(q:Nat):Nb:=E.flatMap λe=>(if e.2.1=q then [(e.1,e.2.2)] else []) ++ (if e.2.2=q then [(e.1,e.2.1)] else [])
noncomputable def jX(e:Ed):D:=.tup [e.1,.tup [.int (e.2.1:Int),.int (e.2.2:Int)]]
structure WK(zk:List (Ae×Tn))(N:Nat->Nb):Prop where
 at_:∀q:Nat,(Bc zk (.inl (q:Int))).getD (.lst [])=.lst ((mD (N q)).map .sh)
 li:∀q∈zk,∃l:Nb,q.2=.lst ((mD l).map .sh)/\∀x∈l,Bl x.1
def WK.plain{zk:List (Ae×Tn)}{N:Nat->Nb}(h:WK zk N):Dg (.aE zk)=true:=by
 have:∀l:Nb,(∀x∈l,Bl x.1)->iP ((mD l).map .sh)=true:=λl hl=>xR (xS λx hx=>by
  obtain⟨y,hy,rfl⟩:=E7.mp hx;have:=pz (hl y hy);simp only[Dc,Ef,this,L8])
 have all:∀ks:List (Ae×Tn),(∀q∈ks,q∈zk)->pR ks=true:=by
  intro ks
  induction ks with
  |nil=>intro _;rfl
  |cons q ks ih=>
   intro hq;obtain⟨x,t⟩:=q;obtain⟨l,e,hl⟩:=h.li _ (hq _ C8);simp only at e;subst e;unfold pR Dg;rw[this l hl,ih λq eO=>hq q (B9 _ eO)];rfl
 unfold Dg;exact all zk λ_ h=>h
noncomputable def mf(N:Nat->Nb)(a:Nat)(k:D)(b:Nat):Nat->Nb:=λq=>if q=a then N q ++ [(k,b)] else N q
def FY(zk:List (Ae×Tn))(k k':Ae):Bc (ml zk k) k'=if k'=k then some ((Bc zk k).getD (.lst [])) else Bc zk k':=by
 unfold ml;cases h:Bc zk k with
 |some v=>
  by_cases e:k'=k
  ·rw[if_pos e,e];exact h
  ·rw[if_neg e]
 |none=>
  simp only;rw[rY,Eh,oZ]
  by_cases e:k'=k
  ·rw[if_pos e,e,h,if_pos rfl];rfl
  ·rw[if_neg e,if_neg (λz=>e z.symm)];cases Bc zk k' <;> rfl
def DY{i:Nat}{f1 f2:FE}{Δ:SE}{zk:List (Ae×Tn)}{N:Nat->Nb}{a b:Nat}{k:D}(w:WK zk N)(hk:Bl k)(ht:(Δ[i]?).bind Sl.tree=some (.aE zk,false))(h1:f1 (Be Δ)=.ok (.sh (.int (a:Int))))(h2:f2 (At Δ)=.ok (.sh (.tup [k,.int (b:Int)])))(hl:zk.length < 10000)(hn:(N a).length < 10000):
  ∃vk,kW i f1 f2 Δ=.nx (Δ.set i (.tr (.aE vk)))/\WK vk (mf N a k b)/\vk.length<=zk.length + 1:=by
 have hv:=FY zk (.inl (a:Int)) (.inl (a:Int));rw[if_pos rfl,w.at_ a]at hv;refine⟨Di (ml zk (.inl (a:Int))) (.inl (a:Int)) (.lst ((mD (N a)).map .sh ++ [.sh (.tup [k,.int (b:Int)])])), ?_,⟨λq=> ?_,λq hq=> ?_⟩, ?_⟩
 ·unfold kW;rw[ht];simp only[h1,W.dQ,Ea];rw[if_pos (),hv];simp only;rw[if_pos (by simp[mD];lia),h2];rfl
 ·rw[HN,hv];unfold mf
  by_cases e:q=a
  ·subst e;rw[if_pos rfl,if_pos rfl];simp only[M3,Q9,mD,F4];rfl
  ·have e':(Sum.inl (q:Int):Ae)≠ .inl (a:Int):=λz=>e (by injection z with z;lia);rw[if_neg e',if_neg e,FY,if_neg e'];exact w.at_ q
 ·have hsd:∀q∈ml zk (.inl (a:Int)),∃l:Nb,q.2=.lst ((mD l).map .sh)/\∀x∈l,Bl x.1:=λq hq=>by
   unfold ml at hq
   split at hq
   ·exact w.li q hq
   ·rcases F6.mp hq with h|h
    ·exact w.li q h
    ·rw[D7.mp h];exact⟨[],rfl,λ_ h=>by cases h⟩
  rcases Gv hq with h|h
  ·exact hsd q h
  ·obtain⟨l,e,pY⟩:=hsd _ (IV hv);refine⟨l ++ [(k,b)], ?_,λx hx=> ?_⟩
   ·rw[h];simp only at e;injection e with e
    rw[e];simp only[mD,F4];rfl
   ·rcases F6.mp hx with h|h
    ·exact pY x h
    ·rw[D7.mp h];exact hk
 ·rw[SW];unfold ml
  split
  ·lia
  ·simp
def DX{a b:D}(ha:Bl a)(hb:Bl b):Ck a b=.ok (.sh (.bl (!decide (Bd a=Bd b)))):=by
 have hc:Fo a b=true:=by unfold Fo;rw[(lY ha).1,(lY hb).1,(lY ha).2];rfl
 have he:Ek a b=decide (Bd a=Bd b):=by
  have q:=Gy ha hb
  by_cases e:a=b
  ·rw[show Ek a b=true from q.mpr e,e];simp
  ·have:Ek a b=false:=by
    cases h:Ek a b with
    |false=>rfl
    |true=>exact absurd (q.mp h) e
   rw[this,C5 λz=>e (lX ha hb z)]
 rcases ha with⟨n,rfl,_⟩|⟨l,rfl,_⟩ <;> rcases hb with⟨n',rfl,_⟩|⟨l',rfl,_⟩
 ·show(if Fo (.int n) (.int n')=true then R.ok (W.sh (.bl (!Ek (.int n) (.int n')))) else .no)=_;rw[if_pos hc,he]
 ·show(if Fo (.int n) (.str (Bt l'))=true then R.ok (W.sh (.bl (!Ek (.int n) (.str (Bt l'))))) else .no)=_;rw[if_pos hc,he]
 ·show(if Fo (.str (Bt l)) (.int n')=true then R.ok (W.sh (.bl (!Ek (.str (Bt l)) (.int n')))) else .no)=_;rw[if_pos hc,he]
 ·rw[Ui]
  by_cases e:Bt l=Bt l'
  ·rw[e];simp
  ·rw[C5 e,C5 λz=>e (by injection z)]
def WD(wk:List (Ae×D))(N:Nat->Nb):Prop:=∀q:Nat,(Bc wk (.inl (q:Int))).getD (.lst [])=.lst (mD (N q))
theorem WK.d{zk:List (Ae×Tn)}{N:Nat->Nb}(h:WK zk N):WD (Tn.ks zk) N:=λq=>by
 have:=h.at_ q;rw[FZ];cases e:Bc zk (.inl (q:Int)) with
 |some t=>
  rw[e]at this;simp only[Q9]at this;rw[this];simp only[M3,Q9,Tn.d,Tn.kj]
 |none=>
  rw[e]at this;simp only[Option.getD_none]at this;injection this with this
  have:mD (N q)= []:=List.map_eq_nil_iff.mp this.symm;rw[this];rfl
def Vj{E:List Ed}{i:Nat}{e:Ed}(h:E[i]? =some e):Bq (E.take (i + 1))=λq=>Bq (E.take i) q ++ ((if e.2.1=q then [(e.1,e.2.2)] else []) ++ (if e.2.2=q then [(e.1,e.2.1)] else [])):=by
 funext q
 unfold Bq;rw[V7,h,List.flatMap_append];simp
def wq(E:List Ed)(q:Nat):(Bq E q).length<=2 * E.length:=by
 induction E with
 |nil=>simp[Bq]
 |cons e E ih=>
  unfold Bq at ih⊢;rw[List.flatMap_cons,B8,B8,B4];have a1:(if e.2.1=q then [(e.1,e.2.2)] else []).length<=1:=by split <;> simp
  have a2:(if e.2.2=q then [(e.1,e.2.1)] else []).length<=1:=by split <;> simp
  lia
def Yf(E:List Ed)(hl:E.length<=100)(hk:∀e∈E,Bl e.1/\e.2.1≠e.2.2):∃w wk,sE [.lst (E.map jX)]=.ok w/\kH w=true/\w.d=.aE wk/\WD wk (Bq E):=by
 let I:Nat->SE->Prop:=λi Δ=>∃(sl a2 a3:Sl) (zk:List (Ae×Tn)),Δ= [.sh (.lst (E.map jX)),sl,a2,a3]/\((sl=.ow (.aE [])/\zk= [])\/sl=.tr (.aE zk))/\WK zk (Bq (E.take i))/\zk.length<=2 * i
 obtain⟨Δ',e,sl,a2,a3,zk,rfl,hs,hw,_⟩:=uE (jh 2 3) Kk I (ds:=E.map jX) (Δ:=[.sh (.lst (E.map jX)),.ow (.aE []),.no,.no])
  ⟨_,_,_,[],rfl,.inl ⟨rfl,rfl⟩,⟨λq=>rfl,λq h=>by cases h⟩,B6 _⟩
  (λi d Δ hd ⟨sl,a2,a3,zk,e,hs,hw,hn⟩=>by
   subst e;rw[A9]at hd;cases he:E[i]? with
   |none=>rw[he]at hd;cases hd
   |some ed=>
    rw[he]at hd;cases hd;obtain⟨k,a,b⟩:=ed;obtain⟨yV,tY⟩:=hk _ (J8 he);simp only at yV tY;have hi:i < E.length:=(B5.mp he).1;have tr:sl.tree=some (.aE zk,false):=by
     rcases hs with⟨rfl,rfl⟩|rfl <;> rfl
    have nl:∀q,(Bq (E.take i) q).length<=200:=λq=>by
     have:=wq (E.take i) q;rw[W6]at this;lia
    have ia0:Ba (.tup [.int (a:Int),.int (b:Int)]) (.int 0)=.ok (.sh (.int (a:Int))):=rfl;have ia1:Ba (.tup [.int (a:Int),.int (b:Int)]) (.int 1)=.ok (.sh (.int (b:Int))):=rfl;obtain⟨k1,g1,w1,l1⟩:=DY (i:=1) (Δ:=[.sh (.lst (E.map jX)),sl,.sh k,.sh (.tup [.int (a:Int),.int (b:Int)])]) (f1:=Ag Ba (Aa 3) (eC (.int 0))) (f2:=Ds #v[2,Ag Ba (Aa 3) (eC (.int 1))]) (a:=a) (b:=b) (k:=k) hw yV (by simpa using tr)
     (by simp![Ak,ia0,Be,B3,Sl.any]) (by simp![Ak,ia1,At,B3,Sl.bT]) () (by have:=nl a;lia)
    obtain⟨k2,g2,w2,l2⟩:=DY (i:=1) (Δ:=[.sh (.lst (E.map jX)),.tr (.aE k1),.sh k,.sh (.tup [.int (a:Int),.int (b:Int)])]) (f1:=Ag Ba (Aa 3) (eC (.int 1))) (f2:=Ds #v[2,Ag Ba (Aa 3) (eC (.int 0))]) (a:=b) (b:=a) (k:=k) w1 yV rfl
     (by simp![Ak,ia1,Be,B3,Sl.any]) (by simp![Ak,ia0,At,B3,Sl.bT]) () (by
      have:=nl b;unfold mf
      split
      ·rw[B8];simp only[B4,K2];lia
      ·lia)
    refine⟨_,rfl,_,.inl ((iL g1).trans g2),_,_,_,k2,rfl,.inr rfl, ?_,by lia⟩;rw[Vj he];have:mf (mf (Bq (E.take i)) a k b) b k a=λq=>Bq (E.take i) q ++ ((if a=q then [(k,b)] else []) ++ (if b=q then [(k,a)] else [])):=by
     funext q
     unfold mf
     by_cases h1:a=q
     ·subst h1;rw[if_neg tY,if_pos rfl,if_pos rfl,if_neg λz=>tY z.symm,E4]
     ·by_cases h2:b=q
      ·subst h2;rw[if_pos rfl,if_neg (λz=>tY z.symm),if_neg tY,if_pos rfl];rfl
      ·rw[if_neg λz=>h2 z.symm,if_neg λz=>h1 z.symm,if_neg h1,if_neg h2,E4,E4]
    rw[<-this];exact w2)
 rw[A3,U1]at hw;have q:xA (Br 4 [.lst (E.map jX)])=Cb 1 [.sh (.lst (E.map jX)),sl,a2,a3]:=by
  unfold xA;rw[show Br 4 [D.lst (E.map jX)]= [.sh (.lst (E.map jX)),.no,.no,.no] from rfl];refine(iL (Δ':=[.sh (.lst (E.map jX)),.ow (.aE []),.no,.no]) rfl).trans ?_;refine iL ?_;exact e
 rcases hs with⟨rfl,rfl⟩|rfl
 ·exact⟨.ow (.aE []),[],jR q,rfl,rfl,hw.d⟩
 ·exact⟨.tr (.aE zk),Tn.ks zk,jR q,hw.plain,rfl,hw.d⟩
section
variable{p s m:Int}{T:List Int}{aA:List (Ae×D)}{ks:List D}{d:D}
def Cd(ks:List D)(d:D)(s p:Int):List Ed:=(ks.filter λx=> !decide (Bd x=Bd d)).map λx=>(x,pA x s p,pB x s p)
def JJ(z:dC p s m T)(h:bH aA ks)(hd:Bl d):∃w wk,qd [Bk p s m T aA,d]=.ok w/\kH w=true/\w.d=.aE wk/\WD wk (Bq (Cd ks d s p)):=by
 have zj:=h.len;obtain⟨w,wk,e,pw,dw,hw⟩:=Yf (Cd ks d s p) (by unfold Cd;rw[A3];exact D4 (M6 _ _) ()) (λx hx=>by
  obtain⟨y,hy,rfl⟩:=E7.mp hx;have a:=iW y s z.p0;have b:=jL y s z.p0;exact⟨h.key y ((P4.mp hy).1),by simp only;lia⟩)
 refine⟨w,wk, ?_,pw,dw,hw⟩;have ec:=nq (fg:=gC 2) (p:=Mu) (f:=Mv) (δ:=[some (Bk p s m T aA),some d,none]) (λx=> !decide (Bd x=Bd d)) (λx=>jX (x,pA x s p,pB x s p)) ks (λx hx=>by
  refine⟨[some (Bk p s m T aA),some d,some x],rfl, ?_,λ_=> ?_⟩
  ·simp![Mu,Ak,DX (h.key x hx) hd]
  ·have hp:=zF (m:=m) (T:=T) (aA:=aA) (h.key x hx) z.s0 z.s1 z.p0 (by have:=z.p1;lia);rw[zN x s z.p0]at hp;have e2:Cg "places" 1 [("Living",iV)] (Aa 0) #v[2] [some (Bk p s m T aA),some d,some x]=.ok (.sh (.tup (zi [pA x s p,pB x s p]))):=(Fj (w:=.sh x) rfl rfl nofun).trans hp;exact⟨.sh (.tup [x,.tup (zi [pA x s p,pB x s p])]),by simp![Mv,Ak,e2],rfl⟩)
 have ei:lx (Dm ["Living"] "by_key" (Aa 0)) [some (Bk p s m T aA),some d]=.ok ks:=by
  have e1:Dm ["Living"] "by_key" (Aa 0) [some (Bk p s m T aA),some d]=.ok (.sh (.aE aA)):=fld rfl rfl;unfold lx;rw[e1];show R.ok (aA.map λp=>kD p.1)=_;rw[h.ds]
 have e3:=ng (m:=1) (fg:=gC 2) (p:=Mu) (f:=Mv) ei () ec;have ee:((ks.filter λx=> !decide (Bd x=Bd d)).map λx=>jX (x,pA x s p,pB x s p))=(Cd ks d s p).map jX:=by
  unfold Cd;rw[J7];rfl
 rw[ee]at e3
 simp![qd,p_4,Ak,e3,e]
end
theorem jx:∀(M:Nat) (l:List Nat),l.Nodup->(∀x∈l,x < M)->l.length<=M
 |0,l,_,h=>by
  cases l with
  |nil=>exact B6 _
  |cons a l=>exact absurd (h a C8) (ON _)
 |M + 1,l,nd,h=>by
  have h1:=jx M (l.erase M) (nd.erase M) λx hx=>by
   have:=nd.mem_erase_iff.mp hx;have:=h x this.2;lia
  have h2:=List.length_erase (a:=M) (l:=l)
  split at h2 <;> lia
abbrev Bs:=List (Nat×Option (D×Nat))
noncomputable def bV:Option (D×Nat)->D
 |none=> .aK
 |some (k,q)=> .tup [k,.int (q:Int)]
def bD(B:Bs):List (Ae×D):=B.map λe=>(.inl (e.1:Int),bV e.2)
abbrev bK(B:Bs):List Nat:=B.map (·.1)
def IU{α:Type}(x:Ae)(v:α)(l:List (Ae×α))(k:Ae):Do ((x,v)::l) k=(decide (x=k) || Do l k):=by
 unfold Do;rw[Eh]
 by_cases h:x=k
 ·rw[if_pos h,C9 h];rfl
 ·rw[if_neg h,C5 h];rfl
def lD(B:Bs)(o:Nat):Do (bD B) (.inl (o:Int))=decide (o∈bK B):=by
 induction B with
 |nil=>rfl
 |cons e B ih=>
  show Do ((.inl (e.1:Int),bV e.2)::bD B) _=_;rw[IU,ih];have:(Sum.inl (e.1:Int):Ae)=.inl (o:Int)↔o=e.1:=⟨λz=>by injection z with z;lia,λz=>by rw[z]⟩;rw[X1.mpr this];rw[<-Bool.decide_or];exact X1.mpr C7.symm
def wo{α:Type}(l:List (Ae×α))(k:Ae):(l.any λkv=>decide (kv.1=k))=Do l k:=by
 induction l with
 |nil=>rfl
 |cons q l ih=>
  obtain⟨x,v⟩:=q;rw[IU,P0,ih]
def wW{α:Type}{l:List (Ae×α)}{k:Ae}{v:α}(h:Do l k=false):Df l k v=l ++ [(k,v)]:=by
 unfold Df;rw[wo,h,if_neg A7]
inductive aW(N:Nat->Nb)(s:Nat):Bs->Prop
 |base:aW N s [(s,none)]
 |more {B:Bs} {q:Nat} {x:D×Nat}:aW N s B->q∈bK B->x∈N q->x.2∉bK B->aW N s (B ++ [(x.2,some (x.1,q))])
section
variable{N:Nat->Nb}{s:Nat}{B:Bs}
def fC(B C:Bs):bK (B ++ C)=bK B ++ bK C:=F4
def aW.start(g:aW N s B):s∈bK B:=by
 induction g with
 |base=>exact D7.mpr rfl
 |more _ _ _ _ ih=>rw[fC];exact F2 _ ih
def aW.nd(g:aW N s B):(bK B).Nodup:=by
 induction g with
 |base=>simp[bK]
 |more _ _ _ h ih=>
  rw[fC];refine List.nodup_append.mpr ⟨ih,by simp[bK],λa ha b hb e=> ?_⟩;have:b=_:=D7.mp hb;subst e;subst this;exact h ha
def aW.all(g:aW N s B)(P:Nat->Prop)(h0:P s)(h:∀q,P q->∀x∈N q,P x.2):∀q∈bK B,P q:=by
 induction g with
 |base=>intro q hq;rw[D7.mp hq];exact h0
 |more _ hq hx _ ih=>
  intro q' eO;rw[fC]at eO;rcases F6.mp eO with e|e
  ·exact ih q' e
  ·rw[D7.mp e];exact h _ (ih _ hq) _ hx
abbrev sS(st:Nat)(wk:List (Ae×D))(B:Bs)(Q:List Nat)(a4 a5 a6:Sl):SE:=[.sh (.int (st:Int)),.sh (.aE wk),.ow (.aE (bD B)),.ow (.lst (zi Q)),a4,a5,a6]
theorem wV{wk:List (Ae×D)}{st q:Nat}:∀(l:Nb) (B:Bs) (Q:List Nat) (a5 a6:Sl),(∀x∈l,x∈N q)->aW N s B->q∈bK B->B.length + l.length<=10000->Q.length<=B.length->
  ∃C qG qF,De (jh 5 6) KG (mD l) (sS st wk B Q (.sh (.int (q:Int))) a5 a6)=.nx (sS st wk (B ++ C) (Q ++ bK C) (.sh (.int (q:Int))) qG qF)/\aW N s (B ++ C)/\∀x∈l,x.2∈bK (B ++ C)
 | [],B,Q,a5,a6,_,g,_,_,_=>⟨[],a5,a6,by rw[E4,show bK []= [] from rfl,E4];rfl,by rw[E4];exact g,λx h=>by cases h⟩
 |x::l,B,Q,a5,a6,hl,g,hq,hn,hQ=>by
  have hx:=hl x C8;have pY:∀y∈l,y∈N q:=λy hy=>hl y (B9 _ hy);rw[B4]at hn;have hb:=lD B x.2
  by_cases hm:x.2∈bK B
  ·rw[C9 hm]at hb;obtain⟨C,qG,qF,e,g',h'⟩:=wV l B Q (.sh x.1) (.sh (.int (x.2:Int))) pY g hq () hQ;refine⟨C,qG,qF,(jr rfl (uL (by simp![Ak,Sl.any,Ew,Ea,hb,if_true,OH]))).trans e,g',λy hy=> ?_⟩;rcases C7.mp hy with rfl|hy
   ·rw[fC];exact F2 _ hm
   ·exact h' y hy
  ·rw[C5 hm]at hb;have hz:(bD B).length < 16777216:=by unfold bD;rw[A3];lia
   have hy:(zi Q).length < 16777216:=by unfold zi;rw[A3];lia
   have e0:bD (B ++ [(x.2,some (x.1,q))])=Df (bD B) (.inl (x.2:Int)) (.tup [x.1,.int (q:Int)]):=by
    rw[wW hb];unfold bD;rw[F4];rfl
   have e1:zi (Q ++ [x.2])=zi Q ++ [.int (x.2:Int)]:=F4;obtain⟨C,qG,qF,e,g',h'⟩:=wV l (B ++ [(x.2,some (x.1,q))]) (Q ++ [x.2]) (.sh x.1) (.sh (.int (x.2:Int))) pY (g.more hq hx hm) (by rw[fC];exact F2 _ hq) (by rw[B8];simp only[B4,K2];lia) (by rw[B8,B8];simp only[B4,K2];lia);refine⟨(x.2,some (x.1,q))::C,qG,qF,Eq.trans (jr rfl ((qt (by simp![Ak,Sl.any,Ew,Ea,hb,if_true,Z2])).trans (sq (by simp![qZ,Ak,Ea,hz,if_true];rfl) (by simp![Fx,Ak,hy,if_true];rfl)))) (Eq.trans ?_ (e.trans ?_)), ?_,λy hy=> ?_⟩
   ·unfold sS;rw[e0,e1];rfl
   ·rw[K6,K6];rfl
   ·rw[K6]at g';exact g'
   ·rw[K6]at h';rcases C7.mp hy with rfl|hy
    ·rw[fC];exact B7 _ C8
    ·exact h' y hy
end
section
variable{N:Nat->Nb}{s:Nat}{wk:List (Ae×D)}
def Vi(wd:WD wk N)(q:Nat)(a0 a2 a3 a5 a6:Option D):Ej (oj (Aa 1) (Aa 4) (Dq Ad)) [a0,some (.aE wk),a2,a3,some (.int (q:Int)),a5,a6]=.ok (mD (N q)):=by
 have h:=wd q;cases e:Bc wk (.inl (q:Int)) with
 |some v=>
  rw[e]at h;simp only[Q9]at h;subst h
  simp![Ak,oj,qY,Ea,e]
 |none=>
  rw[e]at h;simp only[Option.getD_none]at h;injection h with h
  simp![Ak,oj,qY,Ea,e,<-h]
def WQ(wd:WD wk N){M:Nat}(hM:M<=1000)(hN:∀q,∀x∈N q,x.2 < M)(hn:∀q,(N q).length<=1000)(hs:s < M):∀(n:Nat) (P Q:List Nat) (B:Bs) (a4 a5 a6:Sl),bK B=P ++ Q->aW N s B->(∀q∈P,∀x∈N q,x.2∈bK B)->M < n + P.length->
  ∃B' a4' qG qF,gz [3] LN KD n (sS s wk B Q a4 a5 a6)=.nx (sS s wk B' [] a4' qG qF)/\aW N s B'/\∀q∈bK B',∀x∈N q,x.2∈bK B':=by
 intro n;have small:∀B,aW N s B->B.length<=M:=λB g=>by
  have:=jx M (bK B) g.nd (g.all (· < M) hs λq _ x hx=>hN q x hx)
  rwa[A3]at this
 induction n with
 |zero=>
  intro P Q B a4 a5 a6 hb g _ hm;have:=small B g;have:=K4 List.length hb;rw[A3,B8]at this;lia
 |succ n ih=>
  intro P Q B a4 a5 a6 hb g hc hm;have h1:=small B g;have h2:=K4 List.length hb;rw[A3,B8]at h2;have zl:∀Q,(zi Q).length=Q.length:=λQ=>A3 ..;cases Q with
  |nil=>
   refine⟨B,a4,a5,a6,wh0 (by simp![LN,Ak,jS,vC,zl];rfl),g, ?_⟩;rw[E4]at hb;rw[hb];rw[hb]at hc;exact hc
  |cons q Q=>
   have hq:q∈bK B:=by rw[hb];simp
   rw[B4]at h2;have hnq:=hn q;obtain⟨C,qG,qF,e,g',h'⟩:=wV (wk:=wk) (st:=s) (q:=q) (N q) B Q a5 a6 (λ_ h=>h) g hq () ();obtain⟨B',b4,b5,b6,e2,g2⟩:=ih (P ++ [q]) (Q ++ bK C) (B ++ C) (.sh (.int (q:Int))) qG qF (by rw[fC,hb];simp) g' (λy hy x hx=>by
    rcases F6.mp hy with h|h
    ·rw[fC];exact F2 _ (hc y h x hx)
    ·rw[D7.mp h]at hx;exact h' x hx) (by rw[B8];simp only[B4,K2];lia)
   refine⟨B',b4,b5,b6,(Nd ?_ (sq (?_:_=Fl.nx (sS s wk B Q (.sh (.int (q:Int))) a5 a6)) ?_)).trans e2,g2⟩
   ·simp![LN,Ak,jS,vC,zl,B4,show(0:Int) < ((Q.length + 1:Nat):Int) by lia]
   ·show nR 4 3 (eC (.int 0)) [_,_,_,.ow (.lst (.int (q:Int)::zi Q)),a4,a5,a6]=_;unfold nR
    simp![Ak]
    rw[if_pos ⟨by decide,by rw[zl];lia,by rw[zl];lia⟩];rfl
   ·unfold Db;rw[show At (sS s wk B Q (.sh (.int (q:Int))) a5 a6)= [some (.int (s:Int)),some (.aE wk),none,none,some (.int (q:Int)),a5.bT,a6.bT] from rfl,Vi wd];exact e
def wU(wd:WD wk N){M:Nat}(hM:M<=1000)(hN:∀q,∀x∈N q,x.2 < M)(hn:∀q,(N q).length<=1000)(hs:s < M):
  ∃B,tP [.int (s:Int),.aE wk]=.ok (.ow (.aE (bD B)))/\aW N s B/\(∀q∈bK B,∀x∈N q,x.2∈bK B)/\B.length<=M:=by
 obtain⟨B,a4,a5,a6,e,g,h⟩:=WQ (s:=s) wd hM hN hn hs 3000 [] [s] [(s,none)] .no .no .no rfl .base (λq hq=>by cases hq) (by simp only[K2];lia);refine⟨B,jR (sq rfl (sq rfl (sq e rfl))),g,h, ?_⟩;have:=jx M (bK B) g.nd (g.all (· < M) hs λq _ x hx=>hN q x hx)
 rwa[A3]at this
end
noncomputable def iK(T:List Int)(S:List Nat)(p m l1 l2:Int):List Int:=T.mapIdx λi n=>if i∈S then(n + if(i:Int) < p then l1 else l2) % m else n
def tJ(T:List Int)(S:List Nat)(p m l1 l2:Int):(iK T S p m l1 l2).length=T.length:=by
 unfold iK;rw[List.length_mapIdx]
def xw(T:List Int)(S:List Nat)(p m l1 l2:Int)(i:Nat):(iK T S p m l1 l2)[i]? =(T[i]?).map λn=>if i∈S then(n + if(i:Int) < p then l1 else l2) % m else n:=by
 unfold iK;rw[List.getElem?_mapIdx]
section
variable{p s m l1 l2:Int}{T:List Int}{aA:List (Ae×D)}{B:Bs}
def WO{L:List Int}{i:Nat}{n:Int}(hm:0 < m)(hL:L.length<=1000)(a7:Sl):Nv [.lt (Ar p s m T aA),.sh (.aE (bD B)),.sh (.int l1),.sh (.int l2),.ow (.lst (L.map .int)),.sh (.int (i:Int)),.sh (.int n),a7]=.nx [.lt (Ar p s m T aA),.sh (.aE (bD B)),.sh (.int l1),.sh (.int l2),.ow (.lst ((L ++ [if i∈bK B then(n + if(i:Int) < p then l1 else l2) % m else n]).map .int)),.sh (.int (i:Int)),.sh (.int n),.sh (.int (if(i:Int) < p then l1 else l2))]:=by
 have e1:∀δ,Dm ["Living"] "part" (Aa 0) (some (Bk p s m T aA)::δ)=.ok (.sh (.int p)):=λ δ=>fld rfl rfl;have e2:∀δ,Dm ["Living"] "modulus" (Aa 0) (some (Bk p s m T aA)::δ)=.ok (.sh (.int m)):=λ δ=>fld rfl rfl;refine sq (va (w:=.sh (.int (if(i:Int) < p then l1 else l2))) (by by_cases h:(i:Int) < p <;> simp![Ak,e1,Gh,h]) rfl) ?_;generalize (if(i:Int) < p then l1 else l2)=w;have hb:=lD B i;have hl:(L.map D.int).length < 16777216:=by rw[A3];lia
 have e0:∀δ,Dm ["Living"] "modulus" (Aa 0) (none::δ)=.no:=λ_=>rfl;unfold Fx
 by_cases h:i∈bK B
 ·rw[C9 h]at hb
  simp![Ak,Sl.any,Sl.bT,pL,Ew,Ea,hb,if_true,e0,e2,Fc,KA (n + w) m hm,if_pos h,if_pos hl,F4]
 ·rw[C5 h]at hb
  simp![Ak,Sl.any,Sl.bT,Ew,Ea,hb,if_true,if_neg h,if_pos hl,F4]
end
section
variable{p s m l1 l2:Int}{T:List Int}{aA:List (Ae×D)}{B:Bs}
def Ye{i:Nat}{n:Int}(h:T[i]? =some n):(iK T (bK B) p m l1 l2).take (i + 1)=(iK T (bK B) p m l1 l2).take i ++ [if i∈bK B then(n + if(i:Int) < p then l1 else l2) % m else n]:=by
 rw[V7,xw,h];rfl
def Qh{g:SE->FM}{fg:FG}{gb:FS}{d:D}{Δ Δ1:SE}{ds:List D}{r:Fl}(h:g Δ=.ok d Δ1)(h2:vP d=.ok ds)(k:De fg gb ds Δ1=r):nW g fg gb Δ=r:=by
 unfold nW;rw[h];simp only[h2,k]
def Qp{L:List Int}{Δ0 Δ:SE}(h0:aD [4] Δ0=.lt (Ar p s m T aA)::Δ)(hv:Aa 4 (At (.lt (Ar p s m T aA)::Δ))=.ok (.sh (.lst (L.map .int)))):nZ 0 ["Living"] "listed" [4] (Aa 4) Δ0=.nx (.lt (Ar p s m L aA)::Δ):=by
 have hc:lN.contains ("listed" :Str)=true:=by decide +kernel
 have hn:lN.length < 1000:=by decide
 have hb:((Sl.lt (Ar p s m T aA)::Δ)[0]?).bind Sl.tree=some (Ar p s m T aA,true):=rfl;unfold nZ;rw[h0,hb,hv];unfold Ar;simp only[oy,hc,hn,zB,if_true,W.dQ,Ri];rfl
def HM(hm:0 < m)(hT:T.length<=1000):yT (Ar p s m T aA) [.aE (bD B),.int l1,.int l2]=.ok .aK (Ar p s m (iK T (bK B) p m l1 l2) aA):=by
 obtain⟨Δ',e,a5,a6,a7,rfl⟩:=uE (jh 5 6) Nv (λi Δ=>∃a5 a6 a7:Sl,Δ= [.lt (Ar p s m T aA),.sh (.aE (bD B)),.sh (.int l1),.sh (.int l2),.ow (.lst (((iK T (bK B) p m l1 l2).take i).map .int)),a5,a6,a7]) (ds:=gy 0 (T.map .int)) ⟨.no,.no,.no,rfl⟩
  (λi d Δ hd ⟨a5,a6,a7,e⟩=>by
   subst e;obtain⟨d',h1,h2⟩:=sI hd;rw[A9]at h1;cases he:T[i]? with
   |none=>rw[he]at h1;cases h1
   |some n=>
    rw[he]at h1;cases h1;rw[P6]at h2;subst h2;refine⟨_,rfl,_,.inl (WO (n:=n) hm ?_ a7),.sh (.int (i:Int)),.sh (.int n),.sh (.int (if(i:Int) < p then l1 else l2)), ?_⟩
    ·rw[W6,tJ];exact D4 (Nat.min_le_right ..) hT
    ·rw[Ye he])
 rw[yG,A3,<-tJ T (bK B) p m l1 l2,U1]at e;show Gf (Ld (fR 8 _ _))=_;exact gG rfl (gG (Qh (wu (w:=.sh (.lst (T.map .int))) (fld rfl rfl) (by show Dc (.lst (T.map .int))=true;simp only[Dc,zM])) rfl e) (K4 Gf (Qp rfl rfl)))
end
def ou:Xn:=⟨"Stuck",[],[]⟩
def PM(B:Bs):(bD B).length=B.length:=by unfold bD;rw[A3]
section
variable{p s m l:Int}{T:List Int}{aA wk:List (Ae×D)}{N:Nat->Nb}{a b:Nat}
def qS(p s m l:Int)(T:List Int)(aA:List (Ae×D))(b:Nat)(B1 B2:Bs):RR:=
 if b∈bK B1 then .ex ou (Ar p s m T aA) else if B1.length<=B2.length then .ok (.int (B1.length:Int)) (Ar p s m (iK T (bK B1) p m l (-l)) aA) else .ok (.int (B2.length:Int)) (Ar p s m (iK T (bK B2) p m (-l) l) aA)
def SV{B1 B2:Bs}(z:dC p s m T)(f1:tP [.int (a:Int),.aE wk]=.ok (.ow (.aE (bD B1))))(f2:tP [.int (b:Int),.aE wk]=.ok (.ow (.aE (bD B2)))):yS (Ar p s m T aA) [.tup (zi [a,b]),.int l,.aE wk]=qS p s m l T aA b B1 B2:=by
 have hm:0 < m:=by have:=z.m0;lia
 have hT:T.length<=1000:=by have:=z.tl;have:=z.p1;lia
 have i0:Ba (.tup (zi [a,b])) (.int 0)=.ok (.sh (.int (a:Int))):=rfl;have i1:Ba (.tup (zi [a,b])) (.int 1)=.ok (.sh (.int (b:Int))):=rfl;have lk:∀B,fJ [.aE (bD B)]=.ok (.sh (.int (B.length:Int))):=λB=>by
  rw[<-PM B];rfl
 have hb:=lD B1 b;unfold qS;show Gf (KR (fR 6 _ _))=_;refine gG (by simp![fR,Ak,Sl.any,Sl.bT,Sl.give,i0,f1];rfl) (gG (by simp![Ak,Sl.any,Sl.bT,Sl.give,i1,f2];rfl) ?_)
 by_cases h:b∈bK B1
 ·rw[C9 h]at hb;rw[if_pos h];exact CN (by simp![Ak,Sl.any,i1,Ew,Ea,hb,if_true];rfl)
 ·rw[C5 h]at hb;rw[if_neg h];refine gG (by simp![Ak,Sl.any,i1,Ew,Ea,hb,if_true];rfl) ?_
  by_cases hl:B1.length<=B2.length
  ·rw[if_pos hl];exact Pw ((qt (by simp![Ak,Sl.any,lk,hX,show(B1.length:Int)<=(B2.length:Int) by lia])).trans (sq (vp (lW rfl nofun rfl rfl (HM hm hT))) (by simp![eX,gw,Ak,Sl.any,Sl.bT,lk];rfl)))
  ·rw[if_neg hl];refine gG ((uL (by simp![Ak,Sl.any,lk,hX,show¬(B1.length:Int)<=(B2.length:Int) by lia])).trans rfl) ?_;refine gG (vp (lW rfl nofun rfl rfl (HM hm hT))) ?_
   simp![eX,gw,Ak,Sl.any,Sl.bT,lk]
   rfl
end
structure cG(N:Nat->Nb)(s M:Nat)(B:Bs):Prop where
 g:aW N s B
 cl:∀q∈bK B,∀x∈N q,x.2∈bK B
 le:B.length<=M
section
variable{p s m:Int}{T:List Int}{aA:List (Ae×D)}{ks:List D}{d:D}{v:Int}
def Gq(T:List Int)(d:D)(s p m v:Int):Int:=v - Ey T [pA d s p,pB d s p] % m
def Dn(p s m v:Int)(T:List Int)(aA:List (Ae×D))(d:D)(B1 B2:Bs):RR:=
 if Gq T d s p m v=0 then .ok (.int 0) (Ar p s m T (Df aA (Bd d) (.int v)))
 else if pB d s p∈bK B1 then .ex ou (Ar p s m T aA)
 else if B1.length<=B2.length then .ok (.int (B1.length:Int)) (Ar p s m (iK T (bK B1) p m (Gq T d s p m v) (-Gq T d s p m v)) (Df aA (Bd d) (.int v)))
 else .ok (.int (B2.length:Int)) (Ar p s m (iK T (bK B2) p m (-Gq T d s p m v) (Gq T d s p m v)) (Df aA (Bd d) (.int v)))
def jC{E:List Ed}{q:Nat}{x:D×Nat}(h:x∈Bq E q):∃e∈E,(e.2.1=q/\x=(e.1,e.2.2))\/(e.2.2=q/\x=(e.1,e.2.1)):=by
 unfold Bq at h;obtain⟨e,he,hx⟩:=R0.mp h;refine⟨e,he, ?_⟩;rcases F6.mp hx with hx|hx
 ·split at hx
  ·rename_i hq;exact .inl ⟨hq,D7.mp hx⟩
  ·cases hx
 ·split at hx
  ·rename_i hq;exact .inr ⟨hq,D7.mp hx⟩
  ·cases hx
def Rg(z:dC p s m T)(h:bH aA ks)(hd:Bl d)(v0:0<=v)(v1:v < m):∃B1 B2,cG (Bq (Cd ks d s p)) (pA d s p) (2 * p).toNat B1/\cG (Bq (Cd ks d s p)) (pB d s p) (2 * p).toNat B2/\AO (Ar p s m T aA) [d,.int v]=Dn p s m v T aA d B1 B2:=by
 have p0:=z.p0;have p1:=z.p1;have a:=iW d s p0;have b:=jL d s p0;obtain⟨w,wk,ew,pw,dw,wd⟩:=JJ z h hd;have hN:∀q,∀x∈Bq (Cd ks d s p) q,x.2 < (2 * p).toNat:=λq x hx=>by
  obtain⟨e,he,hx⟩:=jC hx;obtain⟨y,hy,rfl⟩:=E7.mp he;have a:=iW y s p0;have b:=jL y s p0;rcases hx with⟨_,rfl⟩|⟨_,rfl⟩
  ·show pB y s p < _;lia
  ·show pA y s p < _;lia
 have hn:∀q,(Bq (Cd ks d s p) q).length<=1000:=λq=>by
  have h1:=wq (Cd ks d s p) q;have h2:(Cd ks d s p).length<=ks.length:=by unfold Cd;rw[A3];exact M6 _ _
  have:=h.len;lia
 obtain⟨B1,f1,g1,c1,l1⟩:=wU (s:=pA d s p) wd (M:=(2 * p).toNat) () hN hn ();obtain⟨B2,f2,g2,c2,l2⟩:=wU (s:=pB d s p) wd (M:=(2 * p).toNat) () hN hn ();refine⟨B1,B2,⟨g1,c1,l1⟩,⟨g2,c2,l2⟩, ?_⟩;have hp:=zF (m:=m) (T:=T) (aA:=aA) hd z.s0 z.s1 z.p0 (by have:=z.p1;lia);rw[zN d s p0]at hp;have e2:∀δ,Cg "places" 1 [("Living",iV)] (Aa 0) #v[1] (some (Bk p s m T aA)::some d::δ)=.ok (.sh (.tup (zi [pA d s p,pB d s p]))):=λ δ=>(Fj (w:=.sh d) rfl rfl nofun).trans hp;have e3:∀δ,Dm ["Living"] "modulus" (Aa 0) (some (Bk p s m T aA)::δ)=.ok (.sh (.int m)):=λ δ=>fld rfl rfl;have e4:∀δ,Cg "value" 1 [("Living",mM)] (Aa 0) #v[1] (some (Bk p s m T aA)::some d::δ)=.ok (.sh (.int (Ey T [pA d s p,pB d s p] % m))):=λ δ=>(Fj (w:=.sh d) rfl rfl nofun).trans (wX z hd);have e5:∀δ,Cg "ways_without" 1 [("Living",qd)] (Aa 0) #v[1] (some (Bk p s m T aA)::some d::δ)=.ok w:=λ δ=>(Fj (w:=.sh d) rfl rfl nofun).trans ew;have yb:0<=v/\v < m:=⟨v0,v1⟩;have fin:∀(T':List Int) (c:Int) (a3 a4:Sl),Gf (Af (lq 0 ["Living"] "by_key" (Aa 1) (Aa 2)) (eX (gw [5] (Aa 5))) [.lt (Ar p s m T' aA),.sh d,.sh (.int v),a3,a4,.sh (.int c)])=.ok (.int c) (Ar p s m T' (Df aA (Bd d) (.int v))):=λT' c a3 a4=>
  gG (Qd (k:=Bd d) (w:=.sh d) (v:=.sh (.int v)) rfl (qo hd) rfl (by rw[h.length];have:=h.len;lia)) rfl
 show Gf (KC (fR 6 _ _))=_;refine gG (va (e2 _) rfl) (gG (by simp![Ak,Sl.any,pL,e3,Vo,yb,Bx,lH,zB,T4];rfl) (gG (va (w:=.sh (.int (Gq T d s p m v))) (by simp![Ak,e4,pN,Gq]) rfl) (gG rfl ?_)));have ne:Ck (.int (Gq T d s p m v)) (.int 0)=.ok (.sh (.bl (!decide (Gq T d s p m v=0)))):=mW _ _;have k:∀l,yS (Ar p s m T aA) [.tup (zi [pA d s p,pB d s p]),.int l,w.d]=qS p s m l T aA (pB d s p) B1 B2:=λl=>by rw[dw];exact SV z f1 f2
 unfold Dn;generalize Gq T d s p m v=l at ne⊢;have k:=k l;unfold qS at k
 by_cases hz:l=0
 ·rw[if_pos hz];exact gG (uL (by subst hz;simp![Ak,Sl.any,ne])) (fin _ _ _ _)
 ·have ht:∀a b c e f,Aj (Ag Ck (Aa 4) (eC (.int 0))) (a::b::c::e::some (.int l)::f)=.ok true:=λ_ _ _ _ _=>by simp![Ak,ne,C5 hz]
  rw[if_neg hz]
  by_cases hb:pB d s p∈bK B1
  ·rw[if_pos hb]at k⊢;exact CN ((qt (ht _ _ _ _ _)).trans (CP (Gw rfl nofun (lg rfl (lg rfl (vy (e5 _) pw rfl))) rfl k)))
  ·rw[if_neg hb]at k⊢
   split at k <;> rename_i hl
   ·rw[if_pos hl];exact gG ((qt (ht _ _ _ _ _)).trans (Dy (lW rfl nofun (lg rfl (lg rfl (vy (e5 _) pw rfl))) rfl k))) (fin _ _ _ _)
   ·rw[if_neg hl];exact gG ((qt (ht _ _ _ _ _)).trans (Dy (lW rfl nofun (lg rfl (lg rfl (vy (e5 _) pw rfl))) rfl k))) (fin _ _ _ _)
end
section
variable{aA:List (Ae×D)}{ks:List D}{d:D}{v:Int}
def bH.has(h:bH aA ks)(hd:Bl d):Do aA (Bd d)=true↔d∈ks:=by
 constructor
 ·intro e;unfold Do at e;obtain⟨w,e⟩:=M7.mp e;have:Bd d∈aA.map (·.1):=E7.mpr ⟨_,IV e,rfl⟩;rw[h.eq]at this;obtain⟨x,hx,e⟩:=E7.mp this
  rwa[<-lX (h.key x hx) hd e]
 ·intro hm;obtain⟨w,e,_⟩:=wt (aA:=aA) (k:=Bd d) (by rw[h.eq];exact Y1 hm);unfold Do;rw[e];rfl
def Vh(k:Ae)(w:D)(hh:Do aA k=true):(Df aA k w).map (·.1)=aA.map (·.1):=by
 unfold Df;rw[wo,hh,if_pos rfl,J7];refine Y2 λq _=> ?_;show(if q.1=k then(q.1,w) else q).1=q.1
 split <;> rfl
def SU{k:Ae}{w:D}{q:Ae×D}(hq:q∈Df aA k w):q∈aA\/q.2=w:=by
 unfold Df at hq
 split at hq
 ·obtain⟨y,hy,e⟩:=E7.mp hq
  split at e
  ·subst e;exact .inr rfl
  ·subst e;exact .inl hy
 ·rcases F6.mp hq with h|h
  ·exact .inl h
  ·rw[D7.mp h];exact .inr rfl
def bH.put(h:bH aA ks)(hd:Bl d)(hl:ks.length < 60):bH (Df aA (Bd d) (.int v)) (if Do aA (Bd d)=true then ks else ks ++ [d]):=by
 have hv:∀q∈Df aA (Bd d) (.int v),∃n:Int,q.2=.int n:=λq hq=>by
  rcases SU hq with h'|h'
  ·exact h.val q h'
  ·exact⟨v,h'⟩
 cases hh:Do aA (Bd d) with
 |true=>
  rw[if_pos rfl];exact⟨h.key,h.nd,(Vh _ _ hh).trans h.eq,hv,h.len⟩
 |false=>
  rw[if_neg A7];have hn:d∉ks:=λhm=>by rw[(h.has hd).mpr hm]at hh;cases hh
  refine⟨λk hk=> ?_, ?_, ?_,hv,by rw[B8];simp only[B4,K2];lia⟩
  ·rcases F6.mp hk with h'|h'
   ·exact h.key k h'
   ·rw[D7.mp h'];exact hd
  ·refine List.nodup_append.mpr ⟨h.nd,by simp,λa ha b hb e=> ?_⟩;rw[D7.mp hb]at e;subst e;exact hn ha
  ·rw[wW hh,F4,F4,h.eq];rfl
def bH.drop(h:bH aA ks):bH (Gd aA (Bd d)) (ks.filter λx=>decide (Bd x≠Bd d)):=by
 refine⟨λk hk=>h.key k (P4.mp hk).1,h.nd.filter _, ?_,λq hq=>h.val q (P4.mp hq).1,D4 (M6 _ _) h.len⟩;have e:=K4 (List.filter λx=>decide (x≠Bd d)) h.eq;rw[OM,OM]at e;exact e
end
section
variable{p s m:Int}{T:List Int}{aA:List (Ae×D)}{ks:List D}{d:D}{v:Int}
def PF:RR->RR
 | .ex _ t=> .ok (.str "stuck") t
 |r=>r
def SS(B1 B2:Bs):(∃(c:Int) (T':List Int),T'.length=T.length/\Dn p s m v T aA d B1 B2=.ok (.int c) (Ar p s m T' (Df aA (Bd d) (.int v))))\/Dn p s m v T aA d B1 B2=.ex ou (Ar p s m T aA):=by
 unfold Dn
 split
 ·exact .inl ⟨_,_,rfl,rfl⟩
 ·split
  ·exact .inr rfl
  ·split
   ·exact .inl ⟨_,_,tJ _ _ _ _ _ _,rfl⟩
   ·exact .inl ⟨_,_,tJ _ _ _ _ _ _,rfl⟩
def Yd(z:dC p s m T)(h:bH aA ks)(hd:Bl d)(v0:0<=v)(v1:v < m):∃B1 B2,cG (Bq (Cd ks d s p)) (pA d s p) (2 * p).toNat B1/\cG (Bq (Cd ks d s p)) (pB d s p) (2 * p).toNat B2/\zG (Ar p s m T aA) [d,.int v]=PF (Dn p s m v T aA d B1 B2):=by
 obtain⟨B1,B2,s1,s2,e⟩:=Rg z h hd v0 v1;refine⟨B1,B2,s1,s2, ?_⟩;show Gf (IZ (fR 4 _ _))=_;rcases SS (p:=p) (s:=s) (m:=m) (T:=T) (aA:=aA) (d:=d) (v:=v) B1 B2 with⟨c,T',_,e'⟩|e' <;> rw[e']at e⊢
 ·exact gG (Pl (Dy (lW rfl nofun rfl rfl e))) rfl
 ·exact gG (Pk (CP (Gw rfl nofun rfl rfl e)) rfl) rfl
noncomputable abbrev dS(ns:List Int)(k:Int)(aA:List (Ae×D))(p s m c:Int)(a6 a7 a8 a9:Sl):SE:=[.sh (.lst (ns.map .int)),.sh (.int 3),.sh (.int k),.sh (.aE aA),.sh (.tup [.int p,.int s,.int m]),.sh (.int c),a6,a7,a8,a9]
def SR(ns:List Int)(k:Int)(Mo:0<=k)(Mn:k<=100)(hn:ns.length<=300)(h:bH aA ks)(m0:2<=m)(m1:m<=1000000001):∃(b:Int) (d:D) (v:Int),yI [.lst (ns.map .int),.int 3,.int k,.aE aA,.tup [.int p,.int s,.int m]]=.ok (.sh (.tup [.int b,d,.int v]))/\(b=0\/b=1)/\Bl d/\0<=v/\v < m:=by
 have mx:0 < max 1 ((ns.length:Int) - 3):=by lia
 have r0:=L4 k (show max 1 ((ns.length:Int) - 3)≠0 by lia);have r1:=K3 k mx;obtain⟨c0,er⟩:=Rl ns (3 + k % max 1 ((ns.length:Int) - 3)) () ();have ec:=rL ns 0 ⋯ ⋯;obtain⟨c,q2⟩:∃c:Int,Bu [0] (Aj (Ag Dj (Ag Bz (Bj 2 qa #v[0,eC (.int 0)]) (eC (.int 2))) (eC (.int 1)))) (Al 5 [2,5] (Bj 2 mK #v[Ag Bz (Aa 5) (eC (.int 2147483647)),2])) Az (dS ns k aA p s m c0 .no .no .no .no)=.nx (dS ns k aA p s m c .no .no .no .no):=by
  by_cases hz:hW ns 0 % 2=1
  ·exact⟨gW (c0 % 2147483647) k,by simp![Ak,ec,Cw (show(0:Int) < 2 by decide),iQ,hz,T4,Cw (show(0:Int) < 2147483647 by decide),lF _ k () ()]⟩
  ·exact⟨c0,by simp![Ak,ec,Cw (show(0:Int) < 2 by decide),iQ,hz,Y4]⟩
 have NF:Ba (.tup [.int p,.int s,.int m]) (.int 2)=.ok (.sh (.int m)):=rfl;have hm:0 < m:=by lia
 have dm:∀x:Int,Cv (.int x) (.int m)=.ok (.sh (.int (x / m))):=λx=>ip hm ();obtain⟨kd,tW,MA⟩:=Rj (c / 8 / m);have w0:=L4 c (show(8:Int)≠0 by decide);have w1:=K3 c (show(0:Int) < 8 by decide);obtain⟨b,hb,eb⟩:=qT (ds:=[.int 0,.int 0,.int 0,.int 0,.int 0,.int 0,.int 1,.int 1]) (i:=c % 8) w0 w1;have hb:b=.int 0\/b=.int 1:=by
  simp only[C7,U2,or_false]at hb;rcases hb with h|h|h|h|h|h|h|h <;> simp[h]
 obtain⟨k',mI,q6⟩:∃k',Bl k'/\Bu [3,6] (Dz (Aj (Ag yZ (Aa 6) (eC (.int 4)))) (Aj (Ag nU (Aa 3) fN))) (Al 9 [3,4,7] (Ag Ba (MB (Aa 3)) (Ag Bz (Ag Cv (Aa 7) (Ag Ba (Aa 4) (eC (.int 2)))) (Av fJ #v[3])))) Az (dS ns k aA p s m c (.sh (.int (c % 8))) (.sh (.int (c / 8))) (.sh (.int (c / 8 % m))) (.sh kd))=.nx (dS ns k aA p s m c (.sh (.int (c % 8))) (.sh (.int (c / 8))) (.sh (.int (c / 8 % m))) (.sh k')):=by
  have ht:Dz (Aj (Ag yZ (Aa 6) (eC (.int 4)))) (Aj (Ag nU (Aa 3) fN)) (Be (dS ns k aA p s m c (.sh (.int (c % 8))) (.sh (.int (c / 8))) (.sh (.int (c / 8 % m))) (.sh kd)))=.ok (decide (4 < c % 8) && !aA.isEmpty):=by
   have h1:nU (.aE aA) (.aE [])=.ok (.sh (.bl (!aA.isEmpty))):=rfl
   simp![Dz,Aj,Ag,Aa,eC,fN,Ak,h1,vC]
   cases decide (4 < c % 8) <;> rfl
  by_cases hc:(decide (4 < c % 8) && !aA.isEmpty)=true
  ·have NN:0 < aA.length:=by
    cases aA with
    |nil=>simp at hc
    |cons a b=>simp
   have zj:=h.length;obtain⟨k',qx,ek⟩:=qT (ds:=ks) (i:=c / 8 / m % (aA.length:Int)) (L4 _ ()) (by have:=K3 (c / 8 / m) (show(0:Int) < (aA.length:Int) by lia);lia);have Ml:∀a b c δ,MB (Aa 3) (a::b::c::some (.aE aA)::δ)=.ok (.ow (.lst ks)):=λ_ _ _ _=>by
    show R.ok (W.ow (.lst (aA.map λp=>kD p.1)))=_;rw[h.ds]
   rw[hc]at ht;refine⟨k',h.key k' qx,(qt ht).trans ?_⟩
   simp![Ak,Sl.bT,Ml,fJ,NF,dm,Cw (show(0:Int) < (aA.length:Int) by lia),iM ek]
  ·rw[eq_false_of_ne_true hc]at ht;exact⟨kd,tW,uL ht⟩
 have fin:∀bi:Int,b=.int bi->yI [.lst (ns.map .int),.int 3,.int k,.aE aA,.tup [.int p,.int s,.int m]]=.ok (.sh (.tup [.int bi,k',.int (c / 8 % m)])):=λbi e=>by
  subst e;exact jR (sq (by simp![Ak,jS,A3,pN,ES,Cw mx,Fc,er]) (sq q2 (sq (by simp![Ak,Cw (show(0:Int) < 8 by decide)];rfl) (sq (by simp![Ak,ip (i:=c) (show(0:Int) < 8 by decide) ⋯];rfl) (sq (by simp![Ak,NF,Cw hm];rfl) (sq (by simp![Ak,NF,dm,MA]) (sq q6 (by simp![Ak,iM eb]))))))))
 have v0:=L4 (c / 8) (show m≠0 by lia);have v1:=K3 (c / 8) hm;rcases hb with hb|hb
 ·exact⟨0,k',_,fin 0 hb,.inl rfl,mI,v0,v1⟩
 ·exact⟨1,k',_,fin 1 hb,.inr rfl,mI,v0,v1⟩
end
def Vg{α:Type}(l:List (Ae×α))(k k':Ae)(v:α):Bc (Df l k v) k'=if k'=k then some v else Bc l k':=by
 cases hh:Do l k with
 |false=>
  rw[wW hh,rY,Eh,oZ]
  by_cases e:k'=k
  ·subst e;rw[if_pos rfl,if_pos rfl];unfold Do at hh;cases h:Bc l k' with
   |none=>rfl
   |some x=>rw[h]at hh;cases hh
  ·rw[if_neg e,if_neg λz=>e z.symm];cases Bc l k' <;> rfl
 |true=>
  have e0:Df l k v=l.map λkv=>if kv.1=k then(kv.1,v) else kv:=by
   unfold Df;rw[wo,hh,if_pos rfl]
  rw[e0];clear e0;have gen:∀l:List (Ae×α),Bc (l.map λkv=>if kv.1=k then(kv.1,v) else kv) k'=if k'=k then(Bc l k).map (λ_=>v) else Bc l k':=λl=>by
   induction l with
   |nil=>
    rw[O0,oZ,oZ]
    split <;> rfl
   |cons q l ih=>
    obtain⟨x,u⟩:=q;rw[B3]
    by_cases hx:x=k
    ·rw[if_pos hx,Eh,Eh,Eh,if_pos hx,ih]
     by_cases e:k'=k
     ·rw[if_pos e,if_pos (hx.trans e.symm),if_pos e];rfl
     ·have nx:¬x=k':=λz=>e (z.symm.trans hx);simp only[nx,e,P1]
    ·rw[if_neg hx,Eh,Eh,Eh,if_neg hx,ih]
     by_cases e:k'=k
     ·have nx:¬x=k':=λz=>hx (z.trans e);simp only[nx,e,if_true,P1,hx]
     ·simp only[e,P1]
  rw[gen];unfold Do at hh;cases h:Bc l k with
  |none=>rw[h]at hh;cases hh
  |some x=>rfl
theorem IT{α:Type}(k k':Ae)(h:k'≠k):∀l:List (Ae×α),Bc (Gd l k) k'=Bc l k'
 | []=>rfl
 |(x,u)::l=>by
  have ih:=IT k k' h l;unfold Gd at ih⊢;rw[Q8]
  by_cases hx:x=k
  ·rw[if_neg (by simp[hx]),ih,Eh,if_neg λz=>h (z.symm.trans hx)]
  ·rw[if_pos (by simp[hx]),Eh,Eh,ih]
theorem Lc{α:Type}(k:Ae):∀l:List (Ae×α),Bc (Gd l k) k=none
 | []=>rfl
 |(x,u)::l=>by
  have ih:=Lc k l;unfold Gd at ih⊢;rw[Q8]
  by_cases hx:x=k
  ·rw[if_neg (by simp[hx]),ih]
  ·rw[if_pos (by simp[hx]),Eh,if_neg hx,ih]
section
variable{p s m:Int}{T:List Int}{aA:List (Ae×D)}{ks:List D}{d:D}{v:Int}
structure Told(p s m:Int)(T:List Int)(aA:List (Ae×D)):Prop where
 pO:∀t∈T,0<=t/\t < m
 val:∀d n,Bl d->Bc aA (Bd d)=some (.int n)->Ey T [pA d s p,pB d s p] % m=n
def wm{i:Nat}(h:i < T.length):T[i]? =some (Bm T i):=by
 unfold Bm;rw[K8,A8 h];rfl
def uC(S:List Nat)(l1 l2:Int){i:Nat}(h:i < T.length):Bm (iK T S p m l1 l2) i=if i∈S then(Bm T i + if(i:Int) < p then l1 else l2) % m else Bm T i:=by
 have e:=xw T S p m l1 l2 i;rw[wm h]at e;unfold Bm at e⊢;rw[K8,e];rfl
def IS(S:List Nat)(l1 l2:Int)(hm:0 < m)(h:∀t∈T,0<=t/\t < m):∀t∈iK T S p m l1 l2,0<=t/\t < m:=λt ht=>by
 obtain⟨i,hi⟩:=List.mem_iff_getElem?.mp ht;rw[xw]at hi;obtain⟨n,hn,e⟩:=E8.mp hi;subst e
 split
 ·exact⟨L4 _ (),K3 _ hm⟩
 ·exact h n (J8 hn)
def pP(a b:Nat):Ey T [a,b]=Bm T a + Bm T b:=by
 unfold Ey;simp
def wj{E:List Ed}{q:Nat}{x:D×Nat}(h:x∈Bq E q):(x.1,q)∈Bq E x.2:=by
 obtain⟨e,he,hx⟩:=jC h;unfold Bq;refine R0.mpr ⟨e,he,F6.mpr ?_⟩;rcases hx with⟨h1,rfl⟩|⟨h1,rfl⟩
 ·right;rw[if_pos rfl];exact D7.mpr (by rw[h1])
 ·left;rw[if_pos rfl];exact D7.mpr (by rw[h1])
def FX{x:D}(hx:x∈ks)(hd:Bl d)(h:bH aA ks)(hn:x≠d):(x,pB x s p)∈Bq (Cd ks d s p) (pA x s p)/\(x,pA x s p)∈Bq (Cd ks d s p) (pB x s p):=by
 have he:(x,pA x s p,pB x s p)∈Cd ks d s p:=by
  unfold Cd;refine E7.mpr ⟨x,P4.mpr ⟨hx, ?_⟩,rfl⟩;have:Bd x≠Bd d:=λz=>hn (lX (h.key x hx) hd z);simp[this]
 unfold Bq;refine⟨R0.mpr ⟨_,he,F6.mpr (.inl ?_)⟩,R0.mpr ⟨_,he,F6.mpr (.inr ?_)⟩⟩
 ·rw[if_pos rfl];exact D7.mpr rfl
 ·rw[if_pos rfl];exact D7.mpr rfl
def apart{N:Nat->Nb}(sym:∀q,∀x∈N q,(x.1,q)∈N x.2){a b M:Nat}{B1 B2:Bs}(s1:cG N a M B1)(s2:cG N b M B2)(hb:b∉bK B1):∀q∈bK B2,q∉bK B1:=
 s2.g.all (λq=>q∉bK B1) hb λq hq x hx h=>hq (s1.cl _ h _ (sym q x hx))
def HL(z:dC p s m T)(S:List Nat)(l:Int)(x:D)(tY:pA x s p∈S↔pB x s p∈S):Ey (iK T S p m l (-l)) [pA x s p,pB x s p] % m=Ey T [pA x s p,pB x s p] % m:=by
 have a:=iW x s z.p0;have b:=jL x s z.p0;have tl:=z.tl;rw[pP,pP,uC S _ _ (),uC S _ _ ()]
 by_cases h:pA x s p∈S
 ·rw[if_pos h,if_pos (tY.mp h),if_pos a,if_neg (),<-Int.add_emod]
  congr 1
  lia
 ·rw[if_neg h,if_neg λz=>h (tY.mpr z)]
def Vf(z:dC p s m T)(h:bH aA ks)(hd:Bl d)(v0:0<=v)(v1:v < m)(t:Told p s m T aA){B1 B2:Bs}(s1:cG (Bq (Cd ks d s p)) (pA d s p) (2 * p).toNat B1)(s2:cG (Bq (Cd ks d s p)) (pB d s p) (2 * p).toNat B2):
  (∃(c:Int) (T':List Int),T'.length=T.length/\Told p s m T' (Df aA (Bd d) (.int v))/\Dn p s m v T aA d B1 B2=.ok (.int c) (Ar p s m T' (Df aA (Bd d) (.int v))))\/Dn p s m v T aA d B1 B2=.ex ou (Ar p s m T aA):=by
 have hm:0 < m:=by have:=z.m0;lia
 have a:=iW d s z.p0;have b:=jL d s z.p0;have tl:=z.tl;have sv:v % m=v:=W0 v0 v1;have tB:∀T',(∀t∈T',0<=t/\t < m)->(∀x∈ks,x≠d->Ey T' [pA x s p,pB x s p] % m=Ey T [pA x s p,pB x s p] % m)->Ey T' [pA d s p,pB d s p] % m=v->Told p s m T' (Df aA (Bd d) (.int v)):=λT' hr hs hv=>by
  refine⟨hr,λx n hx e=> ?_⟩;rw[Vg]at e
  by_cases ex:x=d
  ·subst ex;rw[if_pos rfl]at e;cases e;exact hv
  ·have ne:Bd x≠Bd d:=λq=>ex (lX hx hd q);rw[if_neg ne]at e;have mem:x∈ks:=(h.has hx).mp (by unfold Do;rw[e];rfl);rw[hs x mem ex];exact t.val x n hx e
 unfold Dn;generalize hl:Gq T d s p m v=l;unfold Gq at hl
 split
 ·rename_i h0;refine .inl ⟨_,_,rfl,tB T t.pO (λ_ _ _=>rfl) ?_,rfl⟩;lia
 ·split
  ·exact .inr rfl
  ·rename_i hb;have em:=Int.emod_add_mul_ediv (Ey T [pA d s p,pB d s p]) m
   split
   ·refine .inl ⟨_,_,tJ _ _ _ _ _ _,tB _ (IS _ _ _ hm t.pO) (λx hx hn=> ?_) ?_,rfl⟩
    ·have e:=FX (s:=s) (p:=p) hx hd h hn;exact HL z _ l x ⟨λq=>s1.cl _ q _ e.1,λq=>s1.cl _ q _ e.2⟩
    ·rw[pP,uC _ _ _ (),uC _ _ _ (),if_pos s1.g.start,if_neg hb,if_pos a,Int.emod_add_emod];rw[pP]at hl em;rw[show Bm T (pA d s p) + l + Bm T (pB d s p)=v + m * ((Bm T (pA d s p) + Bm T (pB d s p)) / m) by lia,O5,sv]
   ·have ap:=apart (λq x hx=>wj hx) s1 s2 hb;have na:pA d s p∉bK B2:=λq=>ap _ q s1.g.start;refine .inl ⟨_,_,tJ _ _ _ _ _ _,tB _ (IS _ _ _ hm t.pO) (λx hx hn=> ?_) ?_,rfl⟩
    ·have e:=FX (s:=s) (p:=p) hx hd h hn;have:=HL z (bK B2) (-l) x ⟨λq=>s2.cl _ q _ e.1,λq=>s2.cl _ q _ e.2⟩
     rwa[Int.neg_neg]at this
    ·rw[pP,uC _ _ _ (),uC _ _ _ (),if_neg na,if_pos s2.g.start,if_neg (),Int.add_emod_emod];rw[pP]at hl em;rw[show Bm T (pA d s p) + (Bm T (pB d s p) + l)=v + m * ((Bm T (pA d s p) + Bm T (pB d s p)) / m) by lia,O5,sv]
def IQ(t:Told p s m T aA):Told p s m T (Gd aA (Bd d)):=⟨t.pO,λx n hx e=>by
 by_cases ex:Bd x=Bd d
 ·rw[ex,Lc]at e;cases e
 ·rw[IT _ _ ex]at e;exact t.val x n hx e⟩
end
def xZ{d:D}(h:Bl d):tT [d]=.ok (.sh (.int (By d))):=by
 have m2:=λj:Int=>fE (jd (j:=j) (show(-18446744073709551616:Int) < 2 by decide) ⋯);rcases h with⟨n,rfl,h0,h1⟩|⟨l,rfl,hl,hc⟩
 ·simp![tT,xW,Ak,m2,By]
 ·obtain⟨Δ',e,a2,rfl⟩:=uE (gV 2) Na (λk Δ=>∃a2,Δ= [.sh (.str (Bt l)),.sh (.int (Ez (l.take k))),a2]) (ds:=jM (Bt l)) (Δ:=[.sh (.str (Bt l)),.sh (.int 0),.no]) ⟨.no,rfl⟩ (λk d Δ hk hI=>by
   obtain⟨a2,rfl⟩:=hI;rw[tj,A9]at hk;cases q:l[k]? with
   |none=>rw[q]at hk;cases hk
   |some c=>
    rw[q]at hk;cases hk;refine⟨_,rfl,[.sh (.str (Bt l)),.sh (.int (Ez (l.take (k + 1)))),.sh (.str ⟨#[c]⟩)],.inl ?_,_,rfl⟩;rw[Kj l k c q,show 40 * Ez (l.take k) + (jO c:Int) + 1=40 * Ez (l.take k) + 1 + (jO c:Int) by lia]
    simp![Na,Ak,fE (jd (show(-18446744073709551616:Int) < 40 by decide) ⋯),M4,Vq (hc c (J8 q)),Fc])
  rw[tj,A3,U1]at e
  simp![tT,xW,Ak,Db,tj,e,m2,Fc,By,mY]
def wR(n:Int):uK [.int n]=.ok (.sh (.bl true)):=by
 simp![uK,Kp,Ak]
section
variable{p s m:Int}{T:List Int}{aA:List (Ae×D)}{ks:List D}{d:D}
abbrev Cj(p s m:Int):D:=.tup [.int p,.int s,.int m]
def AU(z:dC p s m T)(h:Bl d):mL [d,Cj p s m]=.ok (.sh (.tup (zi [pA d s p,pB d s p]))):=by
 have p0:=z.p0;have s0:=z.s0;have s1:=z.s1;have m1:=fE (jd (i:=4) (j:=s) ⋯ ⋯);have e1:=(wY (By d) (4 * s) p () () p0).2;have e2:=(wY (By d) (4 * s + 1) p () () p0).2;have a0:=yE (By d) (4 * s + 0) p0;have b0:=yE (By d) (4 * s + 1) p0;have ea:mO (By d) (4 * s) p=((pA d s p:Nat):Int):=by unfold pA;rw[Int.add_zero]at a0⊢;lia
 have eb:p + mO (By d) (4 * s + 1) p=((pB d s p:Nat):Int):=by unfold pB;lia
 rw[ea]at e1
 simp![mL,KL,Ak,Cj,Fu,oh,zr,xZ h,m1,Fc,e1,e2,eb,zi]
def K'(z:dC p s m T)(t:Told p s m T aA):BO [Bk p s m T aA,Cj p s m]=.ok (.sh (.bl true)):=by
 have tl:=z.tl;have p1:=z.p1;have e1:∀δ,Cg "table" 0 [("Living",gN)] (Aa 0) Ad (some (Bk p s m T aA)::δ)=.ok (.ow (.lst (T.map .int))):=λ δ=>(nK rfl nofun).trans (rZ ());have i0:Ba (Cj p s m) (.int 0)=.ok (.sh (.int p)):=rfl;have i2:Ba (Cj p s m) (.int 2)=.ok (.sh (.int m)):=rfl;have m2:=fE (jd (i:=2) (j:=p) ⋯ ⋯);have ne:Ck (.int ((T.map D.int).length:Int)) (.int (2 * p))=.ok (.sh (.bl false)):=by
  rw[mW,A3,C9 tl];rfl
 have ec:∀a,Ct 1 (Ej (Aa 2)) (gC 3) NC (Aa 3) [a,some (Cj p s m),some (.lst (T.map .int))]=.ok (.ow (.lst [])):=λa=>ng (ds:=T.map .int) (by simp![Ak]) (by rw[A3];lia) ((nq (λ_=>false) (λd=>d) _ λd hd=>by
  obtain⟨n,hn,rfl⟩:=E7.mp hd;obtain⟨n0,n1⟩:=t.pO n hn;exact⟨_,rfl,by simp![NC,Ak,wR,i2,mR,hX,Gh,n0,n1],λq=>by cases q⟩).trans (by rw[List.filter_eq_nil_iff.mpr λ_ _=>A7];rfl))
 have q0:Dj (.lst []) (.lst [])=.ok (.sh (.bl true)):=sd 3 rfl
 simp![BO,x_4,Ak,e1,jS,i0,m2,ne,ec,q0]
def HK(z:dC p s m T)(h:Bl d):uJ [Bk p s m T aA,Cj p s m,d,.lst (T.map .int)]=.ok (.sh (.int (Ey T [pA d s p,pB d s p] % m))):=by
 have a:=iW d s z.p0;have b:=jL d s z.p0;have tl:=z.tl;have hm:0 < m:=by have:=z.m0;lia
 have el:=AU z h;have hp:=zF (m:=m) (T:=T) (aA:=aA) h z.s0 z.s1 z.p0 (by have:=z.p1;lia);rw[zN d s z.p0]at hp;have e2:∀a δ,Cg "places" 1 [("Living",iV)] (Aa 0) #v[2] (some (Bk p s m T aA)::a::some d::δ)=.ok (.sh (.tup (zi [pA d s p,pB d s p]))):=λ_ _=>(Fj (w:=.sh d) rfl rfl nofun).trans hp;have e4:∀a δ,Cg "value" 1 [("Living",mM)] (Aa 0) #v[2] (some (Bk p s m T aA)::a::some d::δ)=.ok (.sh (.int (Ey T [pA d s p,pB d s p] % m))):=λ_ _=>(Fj (w:=.sh d) rfl rfl nofun).trans (wX z h);have nt:Ck (.tup (zi [pA d s p,pB d s p])) (.tup (zi [pA d s p,pB d s p]))=.ok (.sh (.bl false)):=HQ 3 (by simp[zi,Fq]);have nt2:Ck (.tup (zi [pA d s p,pB d s p])) (.tup [.int (pA d s p:Int),.int (pB d s p:Int)])=.ok (.sh (.bl false)):=nt;have i0:Ba (.tup (zi [pA d s p,pB d s p])) (.int 0)=.ok (.sh (.int (pA d s p:Int))):=rfl;have i2:Ba (Cj p s m) (.int 2)=.ok (.sh (.int m)):=rfl;have ia:Ba (.lst (T.map .int)) (.int (pA d s p:Int))=.ok (.sh (.int (Bm T (pA d s p)))):=iM (lE ());have ib:Ba (.lst (T.map .int)) (.int (pB d s p:Int))=.ok (.sh (.int (Bm T (pB d s p)))):=iM (lE ());have nv:Ck (.int (Ey T [pA d s p,pB d s p] % m)) (.int ((Bm T (pA d s p) + Bm T (pB d s p)) % m))=.ok (.sh (.bl false)):=by
  rw[mW,pP,C9 rfl];rfl
 have el':mL [d,Cj p s m]=.ok (.sh (.tup [.int (pA d s p:Int),.int (pB d s p:Int)])):=el
 simp![uJ,Kl,Ak,Fu,gP,el',e2,nt2,i0,e4,wR,ia,ib,i2,Fc,Cw hm,nv]
end
theorem JI{α:Type}:∀{l:List (Ae×α)} {k:Ae} {v:α},(l.map (·.1)).Nodup->(k,v)∈l->Bc l k=some v
 | [],_,_,_,h=>by cases h
 |(x,u)::l,k,v,nd,h=>by
  rw[B3,K9]at nd;rw[Eh];rcases C7.mp h with e|e
  ·cases e;rw[if_pos rfl]
  ·have:x≠k:=λz=>nd.1 (E7.mpr ⟨_,e,z.symm⟩);rw[if_neg this];exact JI nd.2 e
theorem FW(g:D->D)(p:Int×D):∀l:List (Int×D),Gi (p.1,g p.2) (l.map λq=>(q.1,g q.2))=(Gi p l).map λq=>(q.1,g q.2)
 | []=>rfl
 |q::l=>by
  rw[B3];unfold Gi
  by_cases h:p.1<=q.1
  ·rw[if_pos h,if_pos h];rfl
  ·rw[if_neg h,if_neg h,FW g p l];rfl
theorem HJ(g:D->D):∀l:List (Int×D),kC (l.map λq=>(q.1,g q.2))=(kC l).map λq=>(q.1,g q.2)
 | []=>rfl
 |q::l=>by
  rw[B3];unfold kC;rw[HJ g l];exact FW g q (kC l)
section
variable{p s m:Int}{T:List Int}{aA:List (Ae×D)}{ks:List D}{d x:D}
def hV(aA:List (Ae×D))(d:D):D:=(Bc aA (Bd d)).getD .aK
def bH.fst(h:bH aA ks):(aA.map (·.1)).Nodup:=by
 rw[h.eq];exact pC (λx hx y hy e=>lX (h.key x hx) (h.key y hy) e) h.nd
def bH.row(h:bH aA ks){q:Ae×D}(hq:q∈aA):∃d n,d∈ks/\Bl d/\kD q.1=d/\q.1=Bd d/\q.2=.int n/\Bc aA (Bd d)=some (.int n):=by
 have hm:q.1∈ks.map Bd:=by rw[<-h.eq];exact E7.mpr ⟨q,hq,rfl⟩
 obtain⟨d,hd,e⟩:=E7.mp hm;obtain⟨n,en⟩:=h.val q hq;refine⟨d,n,hd,h.key d hd,by rw[<-e,DZ (h.key d hd)],e.symm,en, ?_⟩;rw[e,<-en];exact JI h.fst hq
def bH.pairs(h:bH aA ks)(f:D->D->D):(aA.map λq=>f (kD q.1) q.2)=ks.map λd=>f d (hV aA d):=by
 have e:(aA.map λq=>f (kD q.1) q.2)=aA.map λq=>f (kD q.1) (hV aA (kD q.1)):=Y2 λq hq=>by
  obtain⟨d,n,_,_,e1,e2,e3,e4⟩:=h.row hq;unfold hV;rw[e1,e4,e3];rfl
 rw[e,show(aA.map λq=>f (kD q.1) (hV aA (kD q.1)))=(aA.map λq=>kD q.1).map λd=>f d (hV aA d) by rw[J7];rfl,h.ds]
def Dx(aA:List (Ae×D))(d:D):D:=.tup [.int (By d),d,hV aA d]
theorem Ki:∀ks:List D,pQ (ks.map (Dx aA))=some (ks.map By)
 | []=>rfl
 |d::ks=>by
  rw[B3,B3];show(pQ (ks.map (Dx aA))).map _=_;rw[Ki ks];rfl
def WN(h:bH aA ks):qU [.lst (ks.map (Dx aA))]=.ok (.ow (.lst ((kL ks).map (Dx aA)))):=by
 have nd:(ks.map By).Nodup:=pC (λx hx y hy e=>xx (h.key x hx) (h.key y hy) e) h.nd;have hl:=h.len;have hz:(ks.map By).zip (ks.map (Dx aA))=(ks.map λd=>(By d,d)).map λq=>(q.1,Dx aA q.2):=by
  rw[List.zip_map',J7];rfl
 show(match pQ (ks.map (Dx aA)) with
  |some kz=>if kz.length < 64/\kz.Nodup then R.ok (W.ow (.lst ((kC (kz.zip (ks.map (Dx aA)))).map λx:Int×D=>x.2))) else .no
  |none=> .no)=_
 rw[Ki];simp only[A3,Nat.lt_of_le_of_lt hl (show 60 < 64 by decide),nd,zB,if_true];rw[hz,HJ,J7];unfold kL;rw[J7];rfl
def WM(h:bH aA ks)(δ:DE)(hδ:δ.length=8)(h1:δ[1]? =some (some (.aE aA))):Ct 2 (jP (Aa 1)) (zu 8 9) (λ_=> .ok true) LV δ=.ok (.ow (.lst (ks.map (Dx aA)))):=by
 have ei:jP (Aa 1) δ=.ok (aA.map λq=> .tup [kD q.1,q.2]):=by
  have:Aa 1 δ=.ok (.sh (.aE aA)):=by unfold Aa;rw[h1]
  unfold jP;rw[this];rfl
 match δ,hδ,ei with
 | [a0,a1,a2,a3,a4,a5,a6,a7],_,ei=>
  have hc:=nq (fg:=zu 8 9) (p:=λ_=> .ok true) (f:=LV) (δ:=[a0,a1,a2,a3,a4,a5,a6,a7,none,none]) (λ_=>true) (λt=>match t with| .tup [k,v]=> .tup [.int (By k),k,v]|t=>t) (aA.map λq=> .tup [kD q.1,q.2]) λt ht=>by
   obtain⟨q,hq,rfl⟩:=E7.mp ht;obtain⟨d,n,hd,hk,e1,e2,e3,e4⟩:=h.row hq;rw[e1,e3];refine⟨[a0,a1,a2,a3,a4,a5,a6,a7,some d,some (.int n)],rfl,rfl,λ_=>⟨.sh (.tup [.int (By d),d,.int n]), ?_,rfl⟩⟩
   simp![LV,Ak,xZ hk]
  rw[P5.mpr λ_ _=>rfl,J7]at hc;have ee:(aA.map ((λt:D=>match t with| .tup [k,v]=>D.tup [.int (By k),k,v]|t=>t) ∘ λq:Ae×D=>D.tup [kD q.1,q.2]))=ks.map (Dx aA):=(h.pairs λk v=>D.tup [.int (By k),k,v]);rw[ee]at hc;exact ng (m:=2) ei (by rw[A3,h.length];exact D4 h.len ⋯) hc
def WL(h:bH aA ks)(δ:DE)(hδ:δ.length=8)(h5:δ[5]? =some (some (.lst ((kL ks).map (Dx aA))))):Ct 3 (Ej (Aa 5)) (Mt 8 9 10) (λ_=> .ok true) LU δ=.ok (.ow (.lst (jq aA ks))):=by
 have ei:Ej (Aa 5) δ=.ok ((kL ks).map (Dx aA)):=by
  have:Aa 5 δ=.ok (.sh (.lst ((kL ks).map (Dx aA)))):=by unfold Aa;rw[h5]
  unfold Ej;rw[this];rfl
 match δ,hδ,ei with
 | [a0,a1,a2,a3,a4,a5,a6,a7],_,ei=>
  have hc:=nq (fg:=Mt 8 9 10) (p:=λ_=> .ok true) (f:=LU) (δ:=[a0,a1,a2,a3,a4,a5,a6,a7,none,none,none]) (λ_=>true) (λt=>match t with| .tup [_,k,v]=> .tup [k,v]|t=>t) ((kL ks).map (Dx aA)) λt ht=>by
   obtain⟨d,hd,rfl⟩:=E7.mp ht;refine⟨[a0,a1,a2,a3,a4,a5,a6,a7,some (.int (By d)),some d,some (hV aA d)],rfl,rfl,λ_=>⟨.sh (.tup [d,hV aA d]), ?_,rfl⟩⟩
   simp![LU,Ak]
  rw[P5.mpr λ_ _=>rfl,J7]at hc;exact ng (m:=3) ei (by rw[A3,(LM ks).length_eq];exact D4 h.len ⋯) hc
end
section
variable{p s m:Int}{T:List Int}{aA:List (Ae×D)}{ks:List D}{x:D}
def Ve(z:dC p s m T)(h:bH aA ks)(t:Told p s m T aA)(hx:Bl x):LD [Bk p s m T aA,.aE aA,Cj p s m,x]=.ok (.sh (.bl true)):=by
 have tl:=z.tl;have p1:=z.p1;have er:=K' z t;have e1:∀δ,Cg "table" 0 [("Living",gN)] (Aa 0) Ad (some (Bk p s m T aA)::δ)=.ok (.ow (.lst (T.map .int))):=λ δ=>(nK rfl nofun).trans (rZ ());have e2:∀δ,Cg "kept" 0 [("Living",ud)] (Aa 0) Ad (some (Bk p s m T aA)::δ)=.ok (.ow (.lst (jq aA ks))):=λ δ=>(nK rfl nofun).trans (Ta h);have et:=HK (aA:=aA) z hx;have nk:Ck (.lst (jq aA ks)) (.lst (jq aA ks))=.ok (.sh (.bl false)):=by
  refine SY ?_ (λy q=>by cases q);show(jq aA ks).all (Fq 2)=true;exact xb (F8.mpr λx hx=>(WR h x hx).2) λd=>Vw
 have Oc:Dj (.lst (T.map .int)) (.lst (T.map .int))=.ok (.sh (.bl true)):=sd 2 (F8.mpr λx hx=>by obtain⟨i,_,rfl⟩:=E7.mp hx;rfl);have row:∀q∈aA,uJ [Bk p s m T aA,Cj p s m,kD q.1,.lst (T.map .int)]=.ok (.sh q.2)/\∃n,q.2=.int n:=λq hq=>by
  obtain⟨d,n,hd,hk,a1,a2,a3,a4⟩:=h.row hq;rw[a1,a3,HK z hk,t.val d n hk a4];exact⟨rfl,n,rfl⟩
 generalize hL:Bk p s m T aA=L at *
 obtain⟨Δ',el,a6,a7,rfl⟩:=uE (jh 6 7) MZ (λ_ Δ=>∃a6 a7:Sl,Δ= [.sh L,.sh (.aE aA),.sh (Cj p s m),.sh x,.ow (.lst (T.map .int)),.no,a6,a7]) (ds:=aA.map λq=> .tup [kD q.1,q.2]) ⟨.no,.no,rfl⟩ (λi d Δ hd ⟨a6,a7,e⟩=>by
  subst e;rw[A9]at hd;obtain⟨q,hq,rfl⟩:=E8.mp hd;obtain⟨e3,n,e4⟩:=row q (J8 hq);rw[e4]at e3⊢;refine⟨_,rfl,_,.inl ?_,.sh (kD q.1),.sh (.int n),rfl⟩;have ne:Ck (.int n) (.int n)=.ok (.sh (.bl false)):=by rw[mW,C9 rfl];rfl
  simp![MZ,Ak,Sl.any,e3,ne])
 exact jR (sq (by simp![Ak,er];rfl) (sq (by simp![Ak,e1]) (sq (Qg rfl el) (sq (CQ (Qs (WM h _ rfl rfl) (WN h))) (sq (uL (Qr (e2 _) (WL h _ rfl rfl) nk)) (by simp![Ak,Sl.any,et,e1,Oc]))))))
end
def rm(n:Nat)(l:List Nat):Dv (.int (n:Int)) (zi l)=decide (n∈l):=by
 unfold Dv zi;rw[List.any_map,O9,X0,V2];constructor
 ·rintro ⟨m,hm,h⟩
  have:((m:Nat):Int)=(n:Int):=by
   have h':((m:Int) ==(n:Int))=true:=h;exact eq_of_beq h'
  have:m=n:=by lia
  exact this▸hm
 ·intro h;exact⟨n,h,show((n:Int) ==(n:Int))=true from M4 _⟩
def FV(l:List Nat):(zi l).all Bh=true:=by
 unfold zi;rw[List.all_map,F8];intro x _;rfl
def rj(n:Nat)(l:List Nat):(Bh (.int (n:Int)) && (zi l).all Bh)=true:=by rw[FV];rfl
def DW(n:Nat)(l:List Nat):inD true (.int (n:Int)) (.lst (zi l))=.ok (.sh (.bl (!decide (n∈l)))):=by
 rw[<-rm];exact if_pos (rj n l)
def Qo(n:Nat)(l:List Nat):inD false (.int (n:Int)) (.lst (zi l))=.ok (.sh (.bl (decide (n∈l)))):=by
 rw[<-rm];exact if_pos (rj n l)
def Qn(n:Nat)(l:List Nat):inD false (.int (n:Int)) (.tup (zi l))=.ok (.sh (.bl (decide (n∈l)))):=by
 rw[<-rm];exact if_pos (rj n l)
def Rf(n:Nat)(l:List Nat):inD true (.int (n:Int)) (.tup (zi l))=.ok (.sh (.bl (!decide (n∈l)))):=by
 rw[<-rm];exact if_pos (rj n l)
def rX{N:Nat->Nb}{a M M':Nat}{B B':Bs}(s:cG N a M B)(s':cG N a M' B')(q:Nat):q∈bK B↔q∈bK B':=
 ⟨λh=>s.g.all (λq=>q∈bK B') s'.g.start (λq hq x hx=>s'.cl q hq x hx) q h,λh=>s'.g.all (λq=>q∈bK B) s.g.start (λq hq x hx=>s.cl q hq x hx) q h⟩
def Qm(R:List Nat){i:Nat}(h:i < R.length):Ba (.lst (zi R)) (.int (i:Int))=.ok (.sh (.int ((R.getD i 0:Nat):Int))):=by
 refine iM (DD ?_);unfold zi;rw[A9,A8 h,K8,A8 h];rfl
abbrev Cr(e:Ed):D:=.tup (zi [e.2.1,e.2.2])
abbrev tS(D0 D1 D2 D3:D)(R:List Nat)(s5:Sl)(i:Nat)(a7 a8:Sl):SE:=[.sh D0,.sh D1,.sh D2,.sh D3,.ow (.lst (zi R)),s5,.sh (.int (i:Int)),a7,a8]
section
variable{E:List Ed}{a:Nat}
def SQ{D0 D1 D2 D3:D}{s5:Sl}{at_ q:Nat}{R:List Nat}(hq:R[at_]? =some q)(hl:R.length<=10000)(e:Ed)(NN:e.2.1≠e.2.2)(a8:Sl):∃uZ:Sl,ya (tS D0 D1 D2 D3 R s5 at_ (.sh (Cr e)) a8)=.nx (tS D0 D1 D2 D3 (if q=e.2.1/\e.2.2∉R then R ++ [e.2.2] else if q=e.2.2/\e.2.1∉R then R ++ [e.2.1] else R) s5 at_ (.sh (Cr e)) uZ):=by
 obtain⟨k,x,y⟩:=e;simp only at NN⊢;have hi:at_ < R.length:=(B5.mp hq).1;have eg:R.getD at_ 0=q:=by rw[K8,hq];rfl
 have i0:Ba (Cr (k,x,y)) (.int 0)=.ok (.sh (.int (x:Int))):=rfl;have i1:Ba (Cr (k,x,y)) (.int 1)=.ok (.sh (.int (y:Int))):=rfl;have ia:=Qm R hi;rw[eg]at ia;have it:inD false (.int (q:Int)) (Cr (k,x,y))=.ok (.sh (.bl (decide (q∈ [x,y])))):=Qn q [x,y];have hz:(zi R).length < 16777216:=by unfold zi;rw[A3];lia
 have tst:∀(o:Nat) (h:q∈ [x,y]),(x:Int) + (y:Int) - (q:Int)=(o:Int)->Bu [4,6,7,8] (Dz (Aj (Ag (inD false) (Ag Ba (Aa 4) (Aa 6)) (Aa 7))) (Aj (Ag (inD true) (Aa 8) (Aa 4)))) (Fx 4 (Aa 8)) Az (tS D0 D1 D2 D3 R s5 at_ (.sh (Cr (k,x,y))) (.sh (.int ((x:Int) + (y:Int) - (q:Int)))))=.nx (tS D0 D1 D2 D3 (if o∉R then R ++ [o] else R) s5 at_ (.sh (Cr (k,x,y))) (.sh (.int ((x:Int) + (y:Int) - (q:Int))))):=λo h eo=>by
  rw[eo];rw[C9 h]at it;have ni:=DW o R
  by_cases ho:o∈R
  ·rw[C9 ho]at ni;rw[if_neg (λz=>z ho)]
   simp![Ak,Sl.any,ia,it,ni]
  ·rw[C5 ho]at ni;rw[if_pos ho];have eo:zi (R ++ [o])=zi R ++ [.int (o:Int)]:=F4;unfold Bu
   simp![Ak,Sl.any,ia,it,ni]
   unfold tS Fx;rw[eo]
   simp![Ak,if_pos hz]
 refine⟨.sh (.int ((x:Int) + (y:Int) - (q:Int))),sq (by simp![Ak,Sl.any,Sl.bT,i0,i1,ia,Fc,pN];rfl) ?_⟩
 by_cases h1:q=x
 ·have:=tst y (by simp[h1]) ();rw[this];subst h1
  by_cases hy:y∈R
  ·rw[if_neg (λz=>z hy),if_neg (λz=>z.2 hy),if_neg (λz=>NN z.1)]
  ·rw[if_pos hy,if_pos ⟨rfl,hy⟩]
 ·by_cases h2:q=y
  ·have:=tst x (by simp[h2]) ();rw[this];subst h2
   by_cases hx:x∈R
   ·rw[if_neg (λz=>z hx),if_neg (λz=>h1 z.1),if_neg (λz=>z.2 hx)]
   ·rw[if_pos hx,if_neg (λz=>h1 z.1),if_pos ⟨rfl,hx⟩]
  ·have hn:q∉ [x,y]:=by simp[h1,h2]
   rw[C5 hn]at it;rw[if_neg (λz=>h1 z.1),if_neg (λz=>h2 z.1)]
   simp![Ak,Sl.any,ia,it]
variable{D0 D1 D2 D3:D}{s5:Sl}
theorem rH{N:Nat->Nb}{at_ q:Nat}:∀(l:List Ed) (B:Bs) (a7 a8:Sl),(∀e∈l,(e.1,e.2.2)∈N e.2.1/\(e.1,e.2.1)∈N e.2.2/\e.2.1≠e.2.2)->aW N a B->(bK B)[at_]? =some q->B.length + l.length<=10000->
  ∃C a7' uZ,De (gV 7) ya (l.map Cr) (tS D0 D1 D2 D3 (bK B) s5 at_ a7 a8)=.nx (tS D0 D1 D2 D3 (bK (B ++ C)) s5 at_ a7' uZ)/\aW N a (B ++ C)/\(∀e∈l,(e.2.1=q->e.2.2∈bK (B ++ C))/\(e.2.2=q->e.2.1∈bK (B ++ C)))
 | [],B,a7,a8,_,g,_,_=>⟨[],a7,a8,by rw[E4];rfl,by rw[E4];exact g,λe h=>by cases h⟩
 |e::l,B,a7,a8,hl,g,hq,hn=>by
  obtain⟨n1,n2,ne⟩:=hl e C8;have pY:=λy hy=>hl y (B9 _ hy);rw[B4]at hn;have hB:(bK B).length=B.length:=A3 ..;obtain⟨uZ,e1⟩:=SQ (D0:=D0) (D1:=D1) (D2:=D2) (D3:=D3) (s5:=s5) hq () e ne a8;have qm:q∈bK B:=J8 hq;have grow:∀(o:Nat) (k:D),o∉bK B->(k,o)∈N q->((bK B) ++ [o]=bK (B ++ [(o,some (k,q))]))/\aW N a (B ++ [(o,some (k,q))])/\(bK (B ++ [(o,some (k,q))]))[at_]? =some q:=λo k ho hk=>by
   refine⟨by rw[fC];rfl,g.more qm hk ho, ?_⟩;rw[fC,E9 (B5.mp hq).1];exact hq
  by_cases c1:q=e.2.1/\e.2.2∉bK B
  ·obtain⟨Oi,c1b⟩:=c1;obtain⟨x1,x2,x3⟩:=grow e.2.2 e.1 c1b (by rw[Oi];exact n1);rw[if_pos ⟨Oi,c1b⟩,x1]at e1;obtain⟨C,b7,b8,e2,g2,h2⟩:=rH l _ (.sh (Cr e)) uZ pY x2 x3 (by rw[B8];simp only[B4,K2];lia);refine⟨(e.2.2,some (e.1,q))::C,b7,b8,(jr rfl e1).trans (e2.trans ?_), ?_,λy hy=> ?_⟩
   ·rw[K6];rfl
   ·rw[K6]at g2;exact g2
   ·rw[K6]at h2;rcases C7.mp hy with rfl|hy
    ·refine⟨λ_=>by rw[fC];exact B7 _ C8,λz=>absurd (Oi.symm.trans z.symm) ne⟩
    ·exact h2 y hy
  ·rw[if_neg c1]at e1
   by_cases c2:q=e.2.2/\e.2.1∉bK B
   ·obtain⟨Oh,c2b⟩:=c2;obtain⟨x1,x2,x3⟩:=grow e.2.1 e.1 c2b (by rw[Oh];exact n2);rw[if_pos ⟨Oh,c2b⟩,x1]at e1;obtain⟨C,b7,b8,e2,g2,h2⟩:=rH l _ (.sh (Cr e)) uZ pY x2 x3 (by rw[B8];simp only[B4,K2];lia);refine⟨(e.2.1,some (e.1,q))::C,b7,b8,(jr rfl e1).trans (e2.trans ?_), ?_,λy hy=> ?_⟩
    ·rw[K6];rfl
    ·rw[K6]at g2;exact g2
    ·rw[K6]at h2;rcases C7.mp hy with rfl|hy
     ·refine⟨λz=>absurd (z.trans Oh) ne,λ_=>by rw[fC];exact B7 _ C8⟩
     ·exact h2 y hy
   ·rw[if_neg c2]at e1;obtain⟨C,b7,b8,e2,g2,h2⟩:=rH l B (.sh (Cr e)) uZ pY g hq ();refine⟨C,b7,b8,(jr rfl e1).trans e2,g2,λy hy=> ?_⟩;rcases C7.mp hy with rfl|hy
    ·refine⟨λz=> ?_,λz=> ?_⟩
     ·rw[fC];refine F2 _ ?_
      by_cases h:y.2.2∈bK B
      ·exact h
      ·exact absurd ⟨z.symm,h⟩ c1
     ·rw[fC];refine F2 _ ?_
      by_cases h:y.2.1∈bK B
      ·exact h
      ·exact absurd ⟨z.symm,h⟩ c2
    ·exact h2 y hy
end
section
variable{E:List Ed}{a:Nat}{D0 D1 D2 D3:D}
def Vd{M:Nat}(hM:M<=1000)(hE:E.length<=100)(hN:∀e∈E,e.2.1 < M/\e.2.2 < M/\e.2.1≠e.2.2)(ha:a < M):∀(n at_:Nat) (B:Bs) (s5 a7 a8:Sl),(s5=.ow (.lst (E.map Cr))\/s5=.sh (.lst (E.map Cr)))->aW (Bq E) a B->at_<=B.length->(∀i q,i < at_->(bK B)[i]? =some q->∀x∈Bq E q,x.2∈bK B)->M < n + at_->
  ∃B' Δ',gz [4,6] LP KH n (tS D0 D1 D2 D3 (bK B) s5 at_ a7 a8)=.nx Δ'/\Δ'[4]? =some (.ow (.lst (zi (bK B'))))/\cG (Bq E) a M B':=by
 have nl:∀q,∀x∈Bq E q,x.2 < M:=λq x hx=>by
  obtain⟨e,he,hx⟩:=jC hx;obtain⟨h1,h2,_⟩:=hN e he;rcases hx with⟨_,rfl⟩|⟨_,rfl⟩
  ·exact h2
  ·exact h1
 have small:∀B,aW (Bq E) a B->B.length<=M:=λB g=>by
  have:=jx M (bK B) g.nd (g.all (· < M) ha λq _ x hx=>nl q x hx)
  rwa[A3]at this
 have ine:∀e∈E,(e.1,e.2.2)∈Bq E e.2.1/\(e.1,e.2.1)∈Bq E e.2.2/\e.2.1≠e.2.2:=λe he=>by
  unfold Bq;refine⟨R0.mpr ⟨e,he,F6.mpr (.inl ?_)⟩,R0.mpr ⟨e,he,F6.mpr (.inr ?_)⟩,(hN e he).2.2⟩
  ·rw[if_pos rfl];exact D7.mpr rfl
  ·rw[if_pos rfl];exact D7.mpr rfl
 intro n
 induction n with
 |zero=>
  intro at_ B s5 a7 a8 _ g kP _ hm;have:=small B g;lia
 |succ n ih=>
  intro at_ B s5 a7 a8 h5 g kP hc hm;have hB:=small B g;have zl:(zi (bK B)).length=B.length:=by unfold zi;rw[A3,A3]
  by_cases dF:at_ < B.length
  ·have hi:at_ < (bK B).length:=by rw[A3];exact dF
   have hq:(bK B)[at_]? =some (bK B)[at_]:=A8 hi;generalize (bK B)[at_]=q at hq;obtain⟨C,b7,b8,e,g',h'⟩:=rH (N:=Bq E) (a:=a) (D0:=D0) (D1:=D1) (D2:=D2) (D3:=D3) (s5:=.sh (.lst (E.map Cr))) (at_:=at_) (q:=q) E B a7 a8 ine g hq ();obtain⟨B',Δ',ew,r⟩:=ih (at_ + 1) (B ++ C) (.sh (.lst (E.map Cr))) b7 b8 (.inr rfl) g' (by rw[B8];lia) (λi q' hi' eO x hx=>by
    have hiB:i < (bK B).length:=by rw[A3];lia
    rw[fC,E9 hiB]at eO
    by_cases ei:i=at_
    ·subst ei;rw[hq]at eO;cases eO;obtain⟨e2,he2,hx⟩:=jC hx;rcases hx with⟨h1,rfl⟩|⟨h1,rfl⟩
     ·exact(h' e2 he2).1 h1
     ·exact(h' e2 he2).2 h1
    ·rw[fC];exact F2 _ (hc i q' () eO x hx)) ()
   exact⟨B',Δ',(Nd (by simp![LP,Ak,jS,Gh,zl,show(at_:Int) < (B.length:Int) by lia]) (sq (by rcases h5 with rfl|rfl <;> exact e) (by simp![Ak,Sl.bT,Fc];rfl))).trans ew,r⟩
  ·refine⟨B,_,wh0 (by simp![LP,Ak,jS,Gh,zl,show¬(at_:Int) < (B.length:Int) by lia]),rfl,g,λq hq x hx=> ?_,hB⟩;obtain⟨i,hi⟩:=List.mem_iff_getElem?.mp hq;have:i < (bK B).length:=(B5.mp hi).1;rw[A3]at this;exact hc i q () hi x hx
end
section
variable{p s m:Int}{T:List Int}{aA:List (Ae×D)}{ks:List D}{d:D}
def wg(z:dC p s m T)(h:bH aA ks)(hd:Bl d){a:Nat}(ha:(a:Int) < 2 * p):∃B,yH [.aE aA,.int (a:Int),d,Cj p s m]=.ok (.ow (.lst (zi (bK B))))/\cG (Bq (Cd ks d s p)) a (2 * p).toNat B:=by
 have p0:=z.p0;have p1:=z.p1;have zj:=h.len;have ee:((ks.filter λx=> !decide (Bd x=Bd d)).map λx=>Cr (x,pA x s p,pB x s p))=(Cd ks d s p).map Cr:=by
  unfold Cd;rw[J7];rfl
 obtain⟨B,Δ',ew,e4,sr⟩:=Vd (E:=Cd ks d s p) (a:=a) (D0:=.aE aA) (D1:=.int (a:Int)) (D2:=d) (D3:=Cj p s m) (M:=(2 * p).toNat) () (by unfold Cd;rw[A3];exact D4 (M6 _ _) ()) (λe he=>by
  obtain⟨y,hy,rfl⟩:=E7.mp he;have a:=iW y s p0;have b:=jL y s p0;exact⟨by simp only;lia,by simp only;lia,by simp only;lia⟩) () 3000 0 [(a,none)] (.ow (.lst ((Cd ks d s p).map Cr))) .no .no (.inl rfl) .base (K5 _) (λi q hi=>absurd hi (ON _)) ()
 refine⟨B,jR (sq rfl (sq (CQ (ee▸ng (ds:=ks) (by show R.ok (aA.map λq=>kD q.1)=_;rw[h.ds]) () (nq (λx=> !decide (Bd x=Bd d)) (λx=>Cr (x,pA x s p,pB x s p)) ks λx hx=>⟨_,rfl,by simp![KI,Ak,DX (h.key x hx) hd],λ_=>⟨_,by simp![KJ,Ak,AU z (h.key x hx)];rfl,rfl⟩⟩))) (sq rfl (sq ew ?_)))),sr⟩;unfold Cb;rw[e4]
end
inductive Way(N:Nat->Nb):Nat->List (D×Nat)->Nat->Prop
 |nil (q:Nat):Way N q [] q
 |cons {q r:Nat} {x:D×Nat} {l:List (D×Nat)}:x∈N q->Way N x.2 l r->Way N q (x::l) r
def ke(B:Bs):Nat->List (D×Nat)->Prop
 |o,[]=>Bc (bD B) (.inl (o:Int))=some .aK
 |o,x::w=>Bc (bD B) (.inl (o:Int))=some (.tup [x.1,.int (x.2:Int)])/\ke B x.2 w
def FU{B:Bs}{e:Nat×Option (D×Nat)}{o:Nat}(h:o∈bK B):Bc (bD (B ++ [e])) (.inl (o:Int))=Bc (bD B) (.inl (o:Int)):=by
 have hb:=lD B o;rw[C9 h]at hb;unfold Do at hb;have:bD (B ++ [e])=bD B ++ bD [e]:=by unfold bD;rw[F4]
 rw[this,rY];cases q:Bc (bD B) (.inl (o:Int)) with
 |none=>rw[q]at hb;cases hb
 |some v=>rfl
def SO{B:Bs}{o:Nat}{v:Option (D×Nat)}(h:o∉bK B):Bc (bD (B ++ [(o,v)])) (.inl (o:Int))=some (bV v):=by
 have hb:=lD B o;rw[C5 h]at hb;unfold Do at hb;have:bD (B ++ [(o,v)])=bD B ++ bD [(o,v)]:=by unfold bD;rw[F4]
 rw[this,rY];cases q:Bc (bD B) (.inl (o:Int)) with
 |some v=>rw[q]at hb;cases hb
 |none=>
  show Bc [((.inl (o:Int):Ae),bV v)] (.inl (o:Int))=_;rw[Eh,if_pos rfl]
theorem ke.old{B:Bs}{e:Nat×Option (D×Nat)}:∀{w:List (D×Nat)} {o:Nat},o∈bK B->(∀q∈w.map (·.2),q∈bK B)->ke B o w->ke (B ++ [e]) o w
 | [],o,h,_,l=>by unfold ke at l⊢;rw[FU h];exact l
 |x::w,o,h,hw,l=>by
  unfold ke at l⊢;rw[FU h];exact⟨l.1,ke.old (hw x.2 C8) (λq hq=>hw q (B9 _ hq)) l.2⟩
def aW.way{N:Nat->Nb}{s:Nat}{B:Bs}(sym:∀q,∀x∈N q,(x.1,q)∈N x.2)(g:aW N s B):∀o∈bK B,∃w,Way N o w s/\(o::w.map (·.2)).Nodup/\(∀q∈w.map (·.2),q∈bK B)/\ke B o w:=by
 induction g with
 |base=>
  intro o ho;have:o=s:=D7.mp ho;subst this;refine⟨[],.nil _,by simp,λq h=>(by cases h), ?_⟩;unfold ke;show Bc [((.inl (o:Int):Ae),D.aK)] (.inl (o:Int))=_;rw[Eh,if_pos rfl]
 |more g hq hx hn ih=>
  rename_i B q x;intro o ho;rw[fC]at ho;rcases F6.mp ho with h|h
  ·obtain⟨w,h1,h2,h3,h4⟩:=ih o h;exact⟨w,h1,h2,λr hr=>by rw[fC];exact F2 _ (h3 r hr),h4.old h h3⟩
  ·have:o=x.2:=D7.mp h;subst this;obtain⟨w,h1,h2,h3,h4⟩:=ih q hq;have all:∀r∈q::w.map (·.2),r∈bK B:=λr hr=>by
    rcases C7.mp hr with rfl|hr
    ·exact hq
    ·exact h3 r hr
   refine⟨(x.1,q)::w,.cons (sym q x hx) h1, ?_,λr hr=> ?_, ?_⟩
   ·rw[B3,K9];exact⟨λhm=>hn (all _ hm),h2⟩
   ·rw[fC];exact F2 _ (all r hr)
   ·unfold ke;exact⟨SO hn,h4.old hq h3⟩
theorem DV{B:Bs}{a0:D}:∀(w:List (D×Nat)) (n o:Nat) (F:List D) (v:D),w.length < n->F.length + w.length<=10000->ke B o w->Bc (bD B) (.inl (o:Int))=some v->
  gz [3] t_1 t_2 n [.sh a0,.sh (.aE (bD B)),.ow (.lst F),.sh v]=.nx [.sh a0,.sh (.aE (bD B)),.ow (.lst (F ++ w.map (·.1))),.sh .aK]
 | [],n + 1,o,F,v,_,_,l,hv=>by
  unfold ke at l;rw[l]at hv;cases hv;rw[O0,E4];rfl
 |x::w,n + 1,o,F,v,hn,hF,l,hv=>by
  unfold ke at l;rw[l.1]at hv;cases hv;rw[B4]at hn hF;have hz:F.length < 16777216:=by lia
  obtain⟨v2,mH⟩:∃v2,Bc (bD B) (.inl (x.2:Int))=some v2:=by
   cases w with
   |nil=>exact⟨_,l.2⟩
   |cons y w=>exact⟨_,l.2.1⟩
  have i0:Ba (.tup [x.1,.int (x.2:Int)]) (.int 0)=.ok (.sh x.1):=rfl;have i1:Ba (.tup [x.1,.int (x.2:Int)]) (.int 1)=.ok (.sh (.int (x.2:Int))):=rfl;exact(Nd rfl (sq (by unfold Fx;simp![Ak,i0,if_pos hz];rfl) (by simp![Ak,Sl.bT,i1,Eo,Ea,mH];rfl))).trans ((DV w n x.2 (F ++ [x.1]) v2 () (by rw[B8];simp only[B4,K2];lia) l.2 mH).trans (by rw[K6];rfl))
def Vc{B:Bs}{o:Nat}{w:List (D×Nat)}(hw:w.length < 2000)(l:ke B o w):Mf [.int (o:Int),.aE (bD B)]=.ok (.ow (.lst (w.map (·.1)))):=by
 obtain⟨v,hv⟩:∃v,Bc (bD B) (.inl (o:Int))=some v:=by
  cases w with
  |nil=>exact⟨_,l⟩
  |cons y w=>exact⟨_,l.1⟩
 have e:=DV (B:=B) (a0:=.int (o:Int)) w 3000 o [] v () (by simp only[K2];lia) l hv;refine jR (sq rfl (sq (by simp![Ak,Eo,Ea,hv];rfl) ?_));exact sq e rfl
section
variable{p s m:Int}{T:List Int}{aA:List (Ae×D)}{ks:List D}{d:D}
def SN(z:dC p s m T)(h:bH aA ks)(hd:Bl d):∃B2,cG (Bq (Cd ks d s p)) (pB d s p) (2 * p).toNat B2/\((pA d s p∉bK B2/\ub [Bk p s m T aA,d]=.ok (.sh .aK))\/(pA d s p∈bK B2/\∃w,Way (Bq (Cd ks d s p)) (pA d s p) w (pB d s p)/\(pA d s p::w.map (·.2)).Nodup/\w.length<=(2 * p).toNat/\ub [Bk p s m T aA,d]=.ok (.ow (.lst (w.map (·.1)))))):=by
 have p0:=z.p0;have p1:=z.p1;have b:=jL d s p0;have a:=iW d s p0;obtain⟨w,wk,ew,pw,dw,wd⟩:=JJ z h hd;have hN:∀q,∀x∈Bq (Cd ks d s p) q,x.2 < (2 * p).toNat:=λq x hx=>by
  obtain⟨e,he,hx⟩:=jC hx;obtain⟨y,hy,rfl⟩:=E7.mp he;have a:=iW y s p0;have b:=jL y s p0;rcases hx with⟨_,rfl⟩|⟨_,rfl⟩
  ·show pB y s p < _;lia
  ·show pA y s p < _;lia
 have hn:∀q,(Bq (Cd ks d s p) q).length<=1000:=λq=>by
  have h1:=wq (Cd ks d s p) q;have h2:(Cd ks d s p).length<=ks.length:=by unfold Cd;rw[A3];exact M6 _ _
  have:=h.len;lia
 obtain⟨B,f2,g2,c2,l2⟩:=wU (s:=pB d s p) wd (M:=(2 * p).toNat) () hN hn ();refine⟨B,⟨g2,c2,l2⟩, ?_⟩;have hp:=zF (m:=m) (T:=T) (aA:=aA) hd z.s0 z.s1 z.p0 ();rw[zN d s p0]at hp;have e2:∀δ,Cg "places" 1 [("Living",iV)] (Aa 0) #v[1] (some (Bk p s m T aA)::some d::δ)=.ok (.sh (.tup (zi [pA d s p,pB d s p]))):=λ_=>(Fj (w:=.sh d) rfl rfl nofun).trans hp;have e5:∀δ,Cg "ways_without" 1 [("Living",qd)] (Aa 0) #v[1] (some (Bk p s m T aA)::some d::δ)=.ok w:=λ_=>(Fj (w:=.sh d) rfl rfl nofun).trans ew;have i0:Ba (.tup (zi [pA d s p,pB d s p])) (.int 0)=.ok (.sh (.int (pA d s p:Int))):=rfl;have i1:Ba (.tup (zi [pA d s p,pB d s p])) (.int 1)=.ok (.sh (.int (pB d s p:Int))):=rfl;have hb:=lD B (pA d s p)
 by_cases iO:pA d s p∈bK B
 ·right;rw[C9 iO]at hb;obtain⟨w',h1,h2,h3,h4⟩:=g2.way (λq x hx=>wj hx) _ iO;have hl:w'.length<=(2 * p).toNat:=by
   have h5:=jx (2 * p).toNat (w'.map (·.2)) (K9.mp h2).2 λq hq=>g2.all (· < (2 * p).toNat) () (λq _ x hx=>hN q x hx) q (h3 q hq)
   rwa[A3]at h5
  have ek:=Vc (w:=w') () h4;exact⟨iO,w',h1,h2,hl,jR (sq (by simp![Ak,e2];rfl) (sq (by simp![Ak,i1,e5,dw,f2];rfl) (sq (by simp![Ak,Sl.any,i0,Ew,Ea,hb,if_true];rfl) (by simp![Ak,Sl.any,i0,ek]))))⟩
 ·left;rw[C5 iO]at hb;exact⟨iO,jR (sq (by simp![Ak,e2];rfl) (sq (by simp![Ak,i1,e5,dw,f2];rfl) (sqT (by simp![Ak,Sl.any,i0,Ew,Ea,hb,if_true]))))⟩
end
def SM{a b:D}(ha:Bl a)(hb:Bl b):Dj a b=.ok (.sh (.bl (decide (Bd a=Bd b)))):=by
 have hc:Fo a b=true:=by unfold Fo;rw[(lY ha).1,(lY hb).1,(lY ha).2];rfl
 have he:Ek a b=decide (Bd a=Bd b):=by
  have q:=Gy ha hb
  by_cases e:a=b
  ·rw[show Ek a b=true from q.mpr e,e];simp
  ·have:Ek a b=false:=by
    cases h:Ek a b with
    |false=>rfl
    |true=>exact absurd (q.mp h) e
   rw[this,C5 λz=>e (lX ha hb z)]
 rcases ha with⟨n,rfl,_⟩|⟨l,rfl,_⟩ <;> rcases hb with⟨n',rfl,_⟩|⟨l',rfl,_⟩
 iterate 3 (rw[<-he];exact if_pos (e:=R.no) hc)
 ·rw[GX]
  by_cases e:Bt l=Bt l'
  ·rw[e];simp
  ·rw[C5 e,C5 λz=>e (by injection z)]
theorem HI:∀(l σ:List Int),l.Nodup->(∀x∈l,x∉σ)->l.foldl PyProof.Rows.step_dedup σ=σ ++ l
 | [],σ,_,_=>by simp
 |a::l,σ,h,hd=>by
  rw[K9]at h;have ha:(σ.any (· ==a))=false:=by
   cases q:σ.any (· ==a) with
   |false=>rfl
   |true=>
    obtain⟨x,hx,e⟩:=X0.mp q;have:x=a:=by simpa using e
    subst this;exact absurd hx (hd x C8)
  rw[OP];have e1:PyProof.Rows.step_dedup σ a=σ ++ [a]:=by
   unfold PyProof.Rows.step_dedup;rw[ha];rfl
  rw[e1,HI l (σ ++ [a]) h.2 λx hx hs=> ?_]
  ·simp
  ·rcases F6.mp hs with hs|hs
   ·exact hd x (B9 _ hx) hs
   ·have:x=a:=by simpa using hs
    subst this;exact h.1 hx
def WJ{is:List Int}(h:is.Nodup):met is=is:=by
 unfold met PyProof.Rows.firstMet;have e:(List.range is.length).map (λi=>is.getD i 0)=is:=by
  refine S8 λi=> ?_;rw[A9]
  by_cases hi:i < is.length
  ·rw[U4 hi,A8 hi];simp[List.getD,hi]
  ·rw[K0 (by simp;lia),K0 ()];rfl
 rw[e,HI is [] h (λx _ hx=>absurd hx (by simp))];simp
section
variable{p s m:Int}{T:List Int}{aA:List (Ae×D)}{ks:List D}{d:D}
def jB{q:Nat}{x:D×Nat}(h:x∈Bq (Cd ks d s p) q):x.1∈ks/\Bd x.1≠Bd d/\((pA x.1 s p=q/\x.2=pB x.1 s p)\/(pB x.1 s p=q/\x.2=pA x.1 s p)):=by
 obtain⟨e,he,hx⟩:=jC h;obtain⟨y,hy,rfl⟩:=E7.mp he;obtain⟨hy1,hy2⟩:=P4.mp hy;have ne:Bd y≠Bd d:=by simpa using hy2
 rcases hx with⟨h1,rfl⟩|⟨h1,rfl⟩
 ·exact⟨hy1,ne,.inl ⟨h1,rfl⟩⟩
 ·exact⟨hy1,ne,.inr ⟨h1,rfl⟩⟩
def vK{N:Nat->Nb}{q r:Nat}{w:List (D×Nat)}(hw:Way N q w r):∀y∈w,∃q'∈q::w.map (·.2),y∈N q'/\y.2∈w.map (·.2):=by
 induction hw with
 |nil q=>intro y hy;cases hy
 |cons hx _ ih=>
  intro y hy;rcases C7.mp hy with rfl|hy
  ·exact⟨_,C8,hx,C8⟩
  ·obtain⟨q',h1,h2,h3⟩:=ih y hy;exact⟨q',B9 _ h1,h2,B9 _ h3⟩
def Vb{q r:Nat}{w:List (D×Nat)}(hw:Way (Bq (Cd ks d s p)) q w r)(nd:(q::w.map (·.2)).Nodup):(w.map (·.1)).Nodup:=by
 induction hw with
 |nil q=>exact List.nodup_nil
 |cons hx hr ih=>
  rename_i q r x l;rw[B3]at nd⊢;obtain⟨n1,n2⟩:=K9.mp nd;refine K9.mpr ⟨λhm=> ?_,ih n2⟩;obtain⟨y,hy,ey⟩:=E7.mp hm;obtain⟨q',h1,h2,h3⟩:=vK hr y hy;have ex:=(jB hx).2.2;have eyy:=(jB h2).2.2;rw[ey]at eyy;have hq:q=q'\/q=y.2:=by
   rcases ex with⟨a1,a2⟩|⟨a1,a2⟩ <;> rcases eyy with⟨b1,b2⟩|⟨b1,b2⟩
   ·exact .inl (a1.symm.trans b1)
   ·exact .inr (a1.symm.trans b2.symm)
   ·exact .inr (a1.symm.trans b2.symm)
   ·exact .inl (a1.symm.trans b1)
  rcases hq with e|e
  ·exact n1 (by rw[e];exact h1)
  ·exact n1 (by rw[e];exact B9 _ h3)
def SK(p0:0 < p){q r:Nat}{w:List (D×Nat)}(hw:Way (Bq (Cd ks d s p)) q w r):((q:Int) < p↔(r:Int) < p)↔w.length % 2=0:=by
 induction hw with
 |nil q=>simp
 |cons hx hr0 ih=>
  rename_i q r x l;have fl:(q:Int) < p↔¬(x.2:Int) < p:=by
   have a:=iW x.1 s p0;have b:=jL x.1 s p0;rcases(jB hx).2.2 with⟨a1,a2⟩|⟨a1,a2⟩
   ·rw[<-a1,a2];lia
   ·rw[<-a1,a2];lia
  rw[B4,fl];constructor
  ·intro h;have:¬(l.length % 2=0):=λz=>by
    have:=ih.mpr z
    by_cases qv:(x.2:Int) < p
    ·exact(h.mpr (this.mp qv)) qv
    ·exact qv (this.mpr (h.mp qv))
   lia
  ·intro h;have:¬((x.2:Int) < p↔(r:Int) < p):=λz=>by have:=ih.mp z;lia
   by_cases qv:(x.2:Int) < p
   ·exact⟨λz=>absurd qv z,λz=>absurd ⟨λ_=>z,λ_=>qv⟩ this⟩
   ·refine⟨λ_=> ?_,λ_=>qv⟩
    by_cases hr:(r:Int) < p
    ·exact hr
    ·exact absurd ⟨λz=>absurd z qv,λz=>absurd z hr⟩ this
theorem IP(z:dC p s m T)(h:bH aA ks)(hd:Bl d){ring f5 f7:D}{r:Nat}:∀(w:List (D×Nat)) (q:Nat) (a6 a8:Sl),Way (Bq (Cd ks d s p)) q w r->
  ∃b6 b8,De (gV 6) v_6 (w.map (·.1)) [.sh ring,.sh (.aE aA),.sh d,.sh (Cj p s m),.sh (.int (q:Int)),.sh f5,a6,.sh f7,a8]=.nx [.sh ring,.sh (.aE aA),.sh d,.sh (Cj p s m),.sh (.int (r:Int)),.sh f5,b6,.sh f7,b8]
 | [],q,a6,a8,hw=>by cases hw;exact⟨a6,a8,rfl⟩
 |x::w,q,a6,a8,hw=>by
  cases hw with
  |cons hx hr=>
   obtain⟨h1,h2,h3⟩:=jB hx;have hk:=h.key _ h1;have hh:=(h.has hk).mpr h1;have tW:=qo hk;have el:=AU z hk;have eq:=SM hk hd;rw[C5 h2]at eq;have i0:Ba (.tup (zi [pA x.1 s p,pB x.1 s p])) (.int 0)=.ok (.sh (.int (pA x.1 s p:Int))):=rfl;have i1:Ba (.tup (zi [pA x.1 s p,pB x.1 s p])) (.int 1)=.ok (.sh (.int (pB x.1 s p:Int))):=rfl;have ni:=Rf q [pA x.1 s p,pB x.1 s p];have hm:q∈ [pA x.1 s p,pB x.1 s p]:=by
    rcases h3 with⟨a1,_⟩|⟨a1,_⟩ <;> simp[a1]
   rw[C9 hm]at ni;have es:(pA x.1 s p:Int) + (pB x.1 s p:Int) - (q:Int)=(x.2:Int):=by
    rcases h3 with⟨a1,a2⟩|⟨a1,a2⟩ <;> lia
   obtain⟨b6,b8,e⟩:=IP z h hd (ring:=ring) (f5:=f5) (f7:=f7) w x.2 (.sh x.1) (.sh (.tup (zi [pA x.1 s p,pB x.1 s p]))) hr;exact⟨b6,b8,(jr rfl (sq (by simp![Ak,Sl.any,Ew,tW,hh,if_true,eq];rfl) (sq (by simp![Ak,Sl.bT,el];rfl) (sq (by simp![Ak,Sl.any,ni];rfl) (by simp![Ak,Sl.bT,i0,i1,Fc,pN,es]))))).trans e⟩
end
section
variable{p s m:Int}{T:List Int}{aA:List (Ae×D)}{ks:List D}{d:D}
def WI{N:Nat->Nb}(sym:∀q,∀x∈N q,(x.1,q)∈N x.2){a b M:Nat}{B1 B2:Bs}(s1:cG N a M B1)(s2:cG N b M B2):b∈bK B1↔a∈bK B2:=by
 constructor
 ·intro h
  by_cases h2:a∈bK B2
  ·exact h2
  ·exact absurd s2.g.start (apart sym s2 s1 h2 b h)
 ·intro h
  by_cases h2:b∈bK B1
  ·exact h2
  ·exact absurd s1.g.start (apart sym s1 s2 h2 a h)
def Ci(aA:List (Ae×D)):List D->Int
 | []=>0
 |d::l=>(match Bc aA (Bd d) with|some (.int n)=>n|_=>0) - Ci aA l
theorem Kh(h:bH aA ks){ring M:D}:∀(l:List D) (i:Nat) (t:Int) (a4 a5:Sl),(∀x∈l,x∈ks)->∃b4 b5,De (jh 4 5) Ng (gy i l) [.sh ring,.sh (.aE aA),.sh M,.sh (.int t),a4,a5]=.nx [.sh ring,.sh (.aE aA),.sh M,.sh (.int (if i % 2=0 then t + Ci aA l else t - Ci aA l)),b4,b5]
 | [],i,t,a4,a5,_=>⟨a4,a5,by
  have:(if i % 2=0 then t + Ci aA [] else t - Ci aA [])=t:=by unfold Ci;split <;> lia
  rw[this];rfl⟩
 |x::l,i,t,a4,a5,hl=>by
  have hx:=hl x C8;have hk:=h.key x hx;obtain⟨n,en⟩:=h.get hx;have tW:=qo hk;have gk:Eo (.aE aA) x=.ok (.sh (.int n)):=by
   unfold Eo;simp only[tW,en]
  obtain⟨v,ev,hv⟩:∃v:Int,dM [D.int n,D.int (0 - n)] ((i:Int) % 2)=some (.int v)/\v=if i % 2=0 then n else - n:=by
   rcases T6 i with e|e
   ·have e':(i:Int) % 2=0:=by lia
    exact⟨n,by rw[e'];rfl,by rw[if_pos e]⟩
   ·have e':(i:Int) % 2=1:=by lia
    exact⟨0 - n,by rw[e'];rfl,by rw[if_neg ()];lia⟩
  obtain⟨b4,b5,e⟩:=Kh h (ring:=ring) (M:=M) l (i + 1) (t + v) (.sh (.int (i:Int))) (.sh x) λy hy=>hl y (B9 _ hy);have ea:(if(i + 1) % 2=0 then t + v + Ci aA l else t + v - Ci aA l)=if i % 2=0 then t + Ci aA (x::l) else t - Ci aA (x::l):=by
   have:Ci aA (x::l)=n - Ci aA l:=by
    show(match Bc aA (Bd x) with|some (.int n)=>n|_=>0) - Ci aA l=_;rw[en]
   rw[this,hv];rcases T6 i with e|e
   ·rw[if_neg (),if_pos e,if_pos e];lia
   ·rw[if_pos (),if_neg (),if_neg ()];lia
  rw[ea]at e;exact⟨b4,b5,(jr rfl (by simp![Ng,Ak,gk,pN,Cw (show(0:Int) < 2 by decide),iM ev,Fc])).trans e⟩
def WH(h:bH aA ks)(hm:0 < m)(l:List D)(hl:∀x∈l,x∈ks):LO [.lst l,.aE aA,.int m]=.ok (.sh (.int (Ci aA l % m))):=by
 obtain⟨b4,b5,e⟩:=Kh h (ring:=.lst l) (M:=.int m) l 0 0 .no .no hl;rw[if_pos rfl,Int.zero_add]at e;exact jR (sq rfl (sq e (by simp![Ak,Sl.any,Cw hm])))
def SJ(h:bH aA ks)(t:Told p s m T aA){q r:Nat}{w:List (D×Nat)}(hw:Way (Bq (Cd ks d s p)) q w r):∃k:Int,Ci aA (w.map (·.1))=Bm T q - (if w.length % 2=0 then Bm T r else - Bm T r) + m * k:=by
 induction hw with
 |nil q=>exact⟨0,by simp[Ci]⟩
 |cons hx hr ih=>
  rename_i q r x l;obtain⟨k,ek⟩:=ih;obtain⟨h1,h2,h3⟩:=jB hx;obtain⟨n,en⟩:=h.get h1;have tv:=t.val x.1 n (h.key _ h1) en;rw[pP]at tv;have em:=Int.emod_add_mul_ediv (Bm T (pA x.1 s p) + Bm T (pB x.1 s p)) m;refine⟨- k - (Bm T (pA x.1 s p) + Bm T (pB x.1 s p)) / m, ?_⟩;have ea:Ci aA ((x::l).map (·.1))=n - Ci aA (l.map (·.1)):=by
   show(match Bc aA (Bd x.1) with|some (.int n)=>n|_=>0) - Ci aA (l.map (·.1))=_;rw[en]
  have es:Bm T (pA x.1 s p) + Bm T (pB x.1 s p)=Bm T q + Bm T x.2:=by
   rcases h3 with⟨a1,a2⟩|⟨a1,a2⟩
   ·rw[a1,<-a2]
   ·rw[a1,<-a2,Int.add_comm]
  rw[ea,ek,B4,Int.mul_sub,Int.mul_neg];rw[es]at tv em⊢;rcases T6 l.length with e|e
  ·rw[if_pos e,if_neg ()];lia
  ·rw[if_neg (),if_pos ()];lia
def Va(z:dC p s m T)(h:bH aA ks)(t:Told p s m T aA){w:List (D×Nat)}(hw:Way (Bq (Cd ks d s p)) (pA d s p) w (pB d s p)):w.length % 2=1/\Ci aA (w.map (·.1)) % m=Ey T [pA d s p,pB d s p] % m:=by
 have a:=iW d s z.p0;have b:=jL d s z.p0;have par:=SK z.p0 hw;have ho:w.length % 2=1:=by
  have:¬(w.length % 2=0):=λq=>by
   have:=par.mpr q;have:=this.mp a;lia
  lia
 obtain⟨k,ek⟩:=SJ h t hw;rw[if_neg ()]at ek;refine⟨ho, ?_⟩;rw[ek,pP,show Bm T (pA d s p) - - Bm T (pB d s p)=Bm T (pA d s p) + Bm T (pB d s p) by lia,O5]
def J'(z:dC p s m T)(h:bH aA ks)(hd:Bl d){B1:Bs}(s1:cG (Bq (Cd ks d s p)) (pA d s p) (2 * p).toNat B1)(hn:pB d s p∈bK B1){w:List (D×Nat)}(hw:Way (Bq (Cd ks d s p)) (pA d s p) w (pB d s p))(nd:(pA d s p::w.map (·.2)).Nodup)(hl:w.length<=(2 * p).toNat):Mc [.lst (w.map (·.1)),.aE aA,d,Cj p s m]=.ok (.sh (.bl true)):=by
 have a:=iW d s z.p0;have p1:=z.p1;obtain⟨B,et,sr⟩:=wg z h hd (a:=pA d s p) ();have ni:=DW (pB d s p) (bK B);rw[C9 ((rX sr s1 _).mpr hn)]at ni;have el:mL [d,Cj p s m]=.ok (.sh (.tup [.int (pA d s p:Int),.int (pB d s p:Int)])):=AU z hd;have kk:∀x∈w.map (·.1),x∈ks:=λx hx=>by
  obtain⟨y,hy,rfl⟩:=E7.mp hx;obtain⟨q',_,h2,_⟩:=vK hw y hy;exact(jB h2).1
 have kn:=Vb hw nd;have sn:((w.map (·.1)).map By).Nodup:=pC (λx hx y hy e=>xx (h.key x (kk x hx)) (h.key y (kk y hy)) e) kn;obtain⟨b6,b8,eL⟩:=IP z h hd (ring:=.lst (w.map (·.1))) (f5:=.int (pA d s p:Int)) (f7:=.int (pB d s p:Int)) w (pA d s p) .no .no hw;generalize hK:w.map (·.1)=kl at *
 have wl:kl.length=w.length:=by rw[<-hK,A3]
 have els:∀a b c e f g i j,oU (Ct 1 (Ej (Aa 0)) (gC 9) (λ_=> .ok true) NA) [some (.lst kl),a,b,c,e,f,g,i,j]=.ok (.sh (.int (kl.length:Int))):=λ_ _ _ _ _ _ _ _=>by
  refine PL (Qq (ds:=kl) (λx=> .int (By x)) (by simp![Ak]) () λx hx=>⟨_,_,rfl,by simp![NA,Ak,xZ (h.key x (kk x hx))];rfl,rfl⟩) ?_;show(match kE (kl.map λx=> .int (By x)) with
   |some is=>if is.length<=4000 then R.ok (W.sh (.int (met is).length)) else .no
   |none=> .no)=_
  rw[sD By kl];simp only[A3,show kl.length<=4000 by lia,if_true,WJ sn]
 have ne:Ck (.int (kl.length:Int)) (.int (kl.length:Int))=.ok (.sh (.bl false)):=by rw[mW,C9 rfl];rfl
 have eq:Dj (.int (pB d s p:Int)) (.int (pB d s p:Int))=.ok (.sh (.bl true)):=by rw[iQ];simp
 refine jR (sq (by simp![Fu,Ak,el,gP];rfl) (sq (by simp![Ak,et,ni];rfl) (sq (by simp![Ak,els,jS,ne];rfl) (sq rfl ?_))));exact sq eL (by simp![Ak,Sl.any,eq])
end
section
variable{p s m:Int}{T:List Int}{aA:List (Ae×D)}{ks:List D}{d:D}{v:Int}
theorem xQ(js:List Nat):∀(Δ:SE) (n:Nat),(∀j∈js,j < n)->iX js n Δ=At Δ
 | [],_,_=>rfl
 |x::Δ,n,h=>by
  have hc:js.contains n=false:=by
   cases q:js.contains n with
   |false=>rfl
   |true=>exact absurd (h n (S7.mp q)) (F3 _)
  simp only[iX,hc,L1,P1,xQ js Δ (n + 1) λj hj=>S9 (h j hj)];rfl
def xu:(Tn.of (.aE aA)).aX=true:=by
 show Tn.aX (.aE (aA.map λp=>(p.1,.sh p.2)))=true;simp only[Tn.aX,xy]
def qR{t:Tn}{Δ:SE}{f:FE}{w:W}(h:f (none::some (.aE aA)::At Δ)=.ok w)(hp:kH w=true):Fg [1] f (.lt t:: .lt (Tn.of (.aE aA))::Δ)=.ok w.d (.lt t:: .lt (Tn.of (.aE aA))::Δ):=by
 have hl:mZ [1] (.lt t:: .lt (Tn.of (.aE aA))::Δ)=true:=by
  show((Tn.of (.aE aA)).aX && true)=true;rw[xu];rfl
 have hv:Dt [1] (.lt t:: .lt (Tn.of (.aE aA))::Δ)=none::some (.aE aA)::At Δ:=by
  show none::some (Tn.of (.aE aA)).d::iX [1] 2 Δ=_;rw[Tn.eI,xQ [1] Δ 2 (by simp)]
 unfold Fg;rw[hl,if_pos rfl,hv,h];simp only[hp,if_true]
def Rc{Δ:SE}{f:FE}{w:W}(h:f (some (Bk p s m T aA)::some (.aE aA)::At Δ)=.ok w)(hp:kH w=true):Fg [0,1] f (.lt (Ar p s m T aA):: .lt (Tn.of (.aE aA))::Δ)=.ok w.d (.lt (Ar p s m T aA):: .lt (Tn.of (.aE aA))::Δ):=by
 have hl:mZ [0,1] (.lt (Ar p s m T aA):: .lt (Tn.of (.aE aA))::Δ)=true:=by
  show((Ar p s m T aA).aX && ((Tn.of (.aE aA)).aX && true))=true;rw[xu,JK];rfl
 have hv:Dt [0,1] (.lt (Ar p s m T aA):: .lt (Tn.of (.aE aA))::Δ)=some (Bk p s m T aA)::some (.aE aA)::At Δ:=by
  show some (Ar p s m T aA).d::some (Tn.of (.aE aA)).d::iX [0,1] 2 Δ=_;rw[Tn.eI,pL,xQ [0,1] Δ 2 (by simp)]
 unfold Fg;rw[hl,if_pos rfl,hv,h];simp only[hp,if_true]
end
def vx(l:List Nat):Fq 1 (.lst (zi l))=true:=by
 show(zi l).all (Fq 0)=true;unfold zi;exact Vx 0 (λ(p:Nat)=>(p:Int)) l
def FR{l r:List Nat}(hp:l.Perm r)(hr:r.Pairwise (· < ·))(hl:l.length < 64):ly [.lst (zi l)]=.ok (.ow (.lst (zi r))):=by
 have h1:kE (zi l)=some (l.map λ(p:Nat)=>(p:Int)):=sD (λ(p:Nat)=>(p:Int)) l;have h2:oi (l.map λ(p:Nat)=>(p:Int))=r.map λ(p:Nat)=>(p:Int):=by
  refine Ig (hp.map _).symm ?_;rw[List.pairwise_map];exact hr.imp λh=>by lia
 simp only[ly,h1,A3,hl,if_true,h2];unfold zi;rw[J7];rfl
noncomputable def Eu(S:List Nat)(M:Nat):List Nat:=(List.range M).filter λi=>decide (i∈S)
def FQ(S:List Nat)(M:Nat):(Eu S M).Pairwise (· < ·):=List.pairwise_lt_range.filter _
def xt{S:List Nat}{M:Nat}(nd:S.Nodup)(h:∀x∈S,x < M):S.Perm (Eu S M):=by
 refine(T7 nd (List.nodup_range.filter _)).mpr λx=> ?_;rw[P4,N5,V2];exact⟨λq=>⟨h x q,q⟩,λq=>q.2⟩
def IM{S S':List Nat}(M:Nat)(h:∀q,q∈S↔q∈S'):Eu S M=Eu S' M:=by
 unfold Eu
 congr 1
 funext i
 exact X1.mpr (h i)
def JH(T:List Int):gy 0 (T.map .int)=(List.range T.length).map λi=> .tup [.int (i:Int),.int (Bm T i)]:=by
 apply S8;intro i;rw[A9]
 by_cases h:i < T.length
 ·rw[HP (d:=.int (Bm T i)) (by rw[A9,wm h];rfl),U4 h,P6];rfl
 ·rw[K0 (by rw[yG,A3];lia),K0 (by rw[Q5];lia)];rfl
def SI{C A B:List Nat}(h:C=A\/C=B):vn (.lst (zi C)) (.lst [.lst (zi A),.lst (zi B)])=.ok (.sh (.bl true)):=by
 have ec:∀l l':List Nat,Fo (.lst (zi l)) (.lst (zi l'))=true:=λl l'=>by
  obtain⟨a1,a2,_⟩:=se 1 _ (vx l);obtain⟨b1,_,_⟩:=se 1 _ (vx l');unfold Fo;rw[a1,b1,C9 (show(Du (.lst (zi l))).depth<=60 by lia)];rfl
 have fl:∀l:List Nat,gY (.lst (zi l))=true:=λl=>FV l;have es:∀l:List Nat,Ek (.lst (zi l)) (.lst (zi l))=true:=λl=>(se 1 _ (vx l)).2.2;show(if([D.lst (zi A),D.lst (zi B)].all λy=>gY y && Fo y (.lst (zi C)))=true then R.ok (W.sh (.bl ([D.lst (zi A),D.lst (zi B)].any λy=>Ek y (.lst (zi C))))) else .no)=_;have h1:([D.lst (zi A),D.lst (zi B)].all λy=>gY y && Fo y (.lst (zi C)))=true:=by
  simp only[P7,OC,fl,ec,L8]
 have h2:([D.lst (zi A),D.lst (zi B)].any λy=>Ek y (.lst (zi C)))=true:=by
  rcases h with rfl|rfl
  ·simp only[P0,es,OG]
  ·simp only[P0,es,OG,MM]
 rw[if_pos h1,h2]
def BZ(S:List Nat):D->Bool
 | .tup [.int i,_]=>decide (i.toNat∈S)
 |_=>false
def chF:D->D
 | .tup [x,_]=>x
 |_=> .aK
def Ln{T T':List Int}{S A B:List Nat}(tl:T'.length=T.length)(hT:T.length < 64)(hc:∀i < T.length,(Bm T i≠Bm T' i↔i∈S))(nS:S.Nodup)(bS:∀x∈S,x < T.length)(nA:A.Nodup)(bA:∀x∈A,x < T.length)(nB:B.Nodup)(bB:∀x∈B,x < T.length)(hm:S.length=min A.length B.length)(hs:(∀q,q∈S↔q∈A)\/∀q,q∈S↔q∈B):BS [.lst (T.map .int),.lst (T'.map .int),.lst (zi A),.lst (zi B),.int (S.length:Int)]=.ok (.sh (.bl true)):=by
 have lA:=jx _ A nA bA;have lB:=jx _ B nB bB;have hf:((gy 0 (T.map .int)).filter (BZ S)).map chF=zi (Eu S T.length):=by
  rw[JH,OM,J7];unfold zi Eu;have:(BZ S ∘ λi:Nat=>D.tup [.int (i:Int),.int (Bm T i)])=λi=>decide (i∈S):=by
   funext i
   simp[BZ]
  rw[this];rfl
 have ec:∀a b c,Ct 2 (om (Aa 0)) (zu 6 7) ND (Aa 6) [some (.lst (T.map .int)),some (.lst (T'.map .int)),a,b,c,none]=.ok (.ow (.lst (zi (Eu S T.length)))):=λa b c=>ng (ds:=gy 0 (T.map .int)) rfl (by rw[yG,A3];lia) ((nq (BZ S) chF _ λd hd=>by
  rw[JH]at hd;obtain⟨i,hi,rfl⟩:=E7.mp hd;have hi:=N5.mp hi;refine⟨_,rfl, ?_,λ_=>⟨.sh (.int (i:Int)),rfl,rfl⟩⟩;have ix:Ba (.lst (T'.map .int)) (.int (i:Int))=.ok (.sh (.int (Bm T' i))):=iM (lE ());have e:(!decide (Bm T i=Bm T' i))=decide (i∈S):=by
   rw[O9,V2,<-hc i hi];simp
  simp![ND,Ak,ix,mW,e,BZ,Int.toNat_natCast]).trans (by rw[hf]))
 have pS:=xt nS bS;have pA:=xt nA bA;have pB:=xt nB bB;have sA:=FR pA (FQ A _) ();have sB:=FR pB (FQ B _) ();have lC:((zi (Eu S T.length)).length:Int)=(S.length:Int):=by
  unfold zi;rw[A3,<-pS.length_eq]
 have zl:∀l:List Nat,((zi l).length:Int)=(l.length:Int):=λl=>by unfold zi;rw[A3]
 have ne:Ck (.int (S.length:Int)) (.int (S.length:Int))=.ok (.sh (.bl false)):=by rw[mW,C9 rfl];rfl
 have eq:Dj (.int (S.length:Int)) (.int (min (A.length:Int) (B.length:Int)))=.ok (.sh (.bl true)):=by
  rw[iQ,C9 ()]
 have iq:=SI (C:=Eu S T.length) (A:=Eu A T.length) (B:=Eu B T.length) (hs.imp (IM _) (IM _));exact jR (sq (by simp![Ak,ec];rfl) (sq (by simp![Ak,Sl.any,jS,lC,ne];rfl) (by simp![Ak,Sl.any,jS,zl,ER,eq,sA,sB,iq])))
def CZ{t l m:Int}(t0:0<=t)(t1:t < m)(l0:l≠0)(a: -m < l)(b:l < m):t≠(t + l) % m:=by
 by_cases h1:t + l < 0
 ·rw[show t + l=(t + l + m) + m * (-1) by lia,O5,W0 () ()];lia
 ·by_cases h2:t + l < m
  ·rw[W0 () h2];lia
  ·rw[show t + l=(t + l - m) + m * 1 by lia,O5,W0 () ()];lia
section
variable{p s m:Int}{T:List Int}{aA:List (Ae×D)}{ks:List D}{d:D}{v:Int}
def D'(z:dC p s m T)(h:bH aA ks)(t:Told p s m T aA)(hd:Bl d){B1:Bs}(s1:cG (Bq (Cd ks d s p)) (pA d s p) (2 * p).toNat B1)(hb:pB d s p∈bK B1)(hv:¬Ey T [pA d s p,pB d s p] % m=v):Me [Bk p s m T aA,.aE aA,d,.int v,Cj p s m]=.ok (.sh (.bl true)):=by
 have hm:0 < m:=by have:=z.m0;lia
 obtain⟨B2,s2,hr⟩:=SN z h hd;have iff:=WI (λq x hx=>wj hx) s1 s2;have i2:Ba (Cj p s m) (.int 2)=.ok (.sh (.int m)):=rfl;rcases hr with⟨hn,_⟩|⟨hn,w,hw,nd,hl,e⟩
 ·exact absurd (iff.mp hb) hn
 ·have e1:∀a δ,Cg "ring" 1 [("Living",ub)] (Aa 0) #v[2] (some (Bk p s m T aA)::a::some d::δ)=_:=λ_ _=>(Fj (w:=.sh d) rfl rfl nofun).trans e;have e2:=J' z h hd s1 hb hw nd hl;obtain⟨ho,hs⟩:=Va z h t hw;have kk:∀x∈w.map (·.1),x∈ks:=λx hx=>by
   obtain⟨y,hy,rfl⟩:=E7.mp hx;obtain⟨q',_,h2,_⟩:=vK hw y hy;exact(jB h2).1
  have e3:=WH h hm (w.map (·.1)) kk;rw[hs]at e3;have n2:Ck (.int (Ey T [pA d s p,pB d s p] % m)) (.int v)=.ok (.sh (.bl true)):=by rw[mW,C5 hv];rfl
  generalize w.map (·.1)=kl at *
  generalize Bk p s m T aA=L at *
  exact jR (sq (by simp![Ak,e1];rfl) (sq (by simp![Ak,Sl.any,e2];rfl) (by simp![Ak,Sl.any,i2,e3,n2])))
def zL{Δ:SE}(tl:T.length<=1000):Fg [0] (Cg "table" 0 [("Living",gN)] (Aa 0) Ad) (.lt (Ar p s m T aA)::Δ)=.ok (.lst (T.map .int)) (.lt (Ar p s m T aA)::Δ):=
 wu (w:=.ow (.lst (T.map .int))) ((nK rfl nofun).trans (rZ tl)) (pe (zM T))
def rW(l:List Nat):Ef (zi l)=true:=xS λx hx=>by
 unfold zi at hx;obtain⟨i,_,rfl⟩:=E7.mp hx;rfl
def HH{T':List Int}{aa:List (Ae×D)}(e:Ar p s m T aA=Ar p s m T' aa):T=T':=by
 have e1:T.map D.int=T'.map D.int:=by
  unfold Ar at e;injection e with _ _ e
  injection e with _ e
  injection e with _ e
  injection e with _ e
  injection e with e _
  injection e with e
  injection e
 exact List.map_inj_right (λa b h=>by injection h) |>.mp e1
def rG{E:List Ed}{a M:Nat}{B:Bs}(s1:cG (Bq E) a M B){n:Nat}(ha:a < n)(hE:∀e∈E,e.2.1 < n/\e.2.2 < n):∀q∈bK B,q < n:=
 s1.g.all (· < n) ha λq _ x hx=>by
  obtain⟨e,he,hx⟩:=jC hx;rcases hx with⟨_,rfl⟩|⟨_,rfl⟩
  ·exact(hE e he).2
  ·exact(hE e he).1
def UZ(z:dC p s m T):∀e∈Cd ks d s p,e.2.1 < T.length/\e.2.2 < T.length:=λe he=>by
 unfold Cd at he;obtain⟨x,_,rfl⟩:=E7.mp he;have a:=iW x s z.p0;have b:=jL x s z.p0;have tl:=z.tl;exact⟨show pA x s p < T.length by lia,show pB x s p < T.length by lia⟩
end
section
variable{g h:FS}{f:SE->FM}{Δ Δ' Δ0:SE}{q:kb}{d:D}{t:Tn}{aA:List (Ae×D)}
def qO:iI (.rv d (.lt t:: .lt (Tn.of (.aE aA))::Δ))=.ok d t aA:=by
 show(match Gg (aA.map λp=>(p.1,Tn.sh p.2)) with|some k=>kb.ok d t k|none=> .no)=_;rw[jy]
def Gc(e:g Δ=.nx Δ')(k:iI (h Δ')=q):iI (Af g h Δ)=q:=by rw[iL e];exact k
def CO(e:g Δ=.rv d (.lt t:: .lt (Tn.of (.aE aA))::Δ')):iI (Af g h Δ)=.ok d t aA:=by rw[sqV e];exact qO
def vb(e:f Δ=.ok d Δ'):eX f Δ=.rv d Δ':=by unfold eX;rw[e]
end
section
variable{p s m:Int}{T:List Int}{aA:List (Ae×D)}{ks:List D}{d:D}{v:Int}
def HG{n:Nat}{M:Tn->List D->RR}{ga:SE->R (List D)}{js:List Nat}{Δ Δ0:SE}{ds:List D}{x:D}{t:Tn}(h0:aD js Δ0=.lt (Ar p s m T aA)::Δ)(hg:ga (.lt (Ar p s m T aA)::Δ)=.ok ds)(hl:ds.length=n)(e:M (Ar p s m T aA) ds=.ok x t):fD js (lG 0 n M ga) Δ0=.ok x (.lt t::Δ):=by
 unfold fD;rw[h0,Vk hg hl,e];rfl
def SH(hd:Bl d)(hl:aA.length < 16777216){t:Tn}{Δ:SE}:nP 1 (Aa 2) (Aa 3) (.lt t:: .lt (Tn.of (.aE aA)):: .sh d:: .sh (.int v)::Δ)=.nx (.lt t:: .lt (Tn.of (.aE (Df aA (Bd d) (.int v)))):: .sh d:: .sh (.int v)::Δ):=by
 have ax:Sl.qc (.lt (Tn.of (.aE aA)))=some (aA,true):=by
  show(Gg (aA.map λp=>(p.1,Tn.sh p.2))).map _=_;rw[jy];rfl
 unfold nP
 simp![N3,M0,OQ,ax,Ak,Sl.bT,qo hd,hl,if_true]
 rfl
def Zq(z:dC p s m T)(h:bH aA ks)(t:Told p s m T aA)(hd:Bl d)(v0:0<=v)(v1:v < m)(hl:ks.length < 60):∃(T':List Int) (aa:List (Ae×D)) (jQ:List D),AY (Ar p s m T aA) aA [d,.int v,Cj p s m]=.ok (.bl true) (Ar p s m T' aa) aa/\dC p s m T'/\bH aa jQ/\Told p s m T' aa/\jQ.length<=ks.length + 1:=by
 have hm:0 < m:=by have:=z.m0;lia
 have p0:=z.p0;have p1:=z.p1;have tl:=z.tl;have a:=iW d s z.p0;have b:=jL d s z.p0;have hA:pA d s p < T.length:=by lia
 have hB:pB d s p < T.length:=by lia
 obtain⟨B1,B2,s1,s2,ep⟩:=Yd z h hd v0 v1;obtain⟨A,eA,sA⟩:=wg z h hd (a:=pA d s p) ();obtain⟨C,eC',sC⟩:=wg z h hd (a:=pB d s p) ();have iz:=Qo (pB d s p) (bK A);have dd:decide (pB d s p∈bK A)=decide (pB d s p∈bK B1):=X1.mpr (rX sA s1 (pB d s p));rw[dd]at iz;have el:mL [d,Cj p s m]=.ok (.sh (.tup [.int (pA d s p:Int),.int (pB d s p:Int)])):=AU z hd;have hT:T.length<=1000:=by lia
 have zj:aA.length < 16777216:=by rw[h.length];exact C6 hl ⋯
 have ia:Ba (.lst (T.map .int)) (.int (pA d s p:Int))=.ok (.sh (.int (Bm T (pA d s p)))):=iM (lE hA);have ib:Ba (.lst (T.map .int)) (.int (pB d s p:Int))=.ok (.sh (.int (Bm T (pB d s p)))):=iM (lE hB);have i2:Ba (Cj p s m) (.int 2)=.ok (.sh (.int m)):=rfl;have su:=pP (T:=T) (pA d s p) (pB d s p);have eT:Dj (.lst (T.map .int)) (.lst (T.map .int))=.ok (.sh (.bl true)):=sd 2 (F8.mpr λx hx=>by obtain⟨i,_,rfl⟩:=E7.mp hx;rfl);have pt:=Vf z h hd v0 v1 t s1 s2
 by_cases cA:pB d s p∈bK B1/\¬Ey T [pA d s p,pB d s p] % m=v
 ·obtain⟨h1,h2⟩:=cA;have er:Dn p s m v T aA d B1 B2=.ex ou (Ar p s m T aA):=by
   unfold Dn;rw[if_neg (by unfold Gq;lia),if_pos h1]
  rw[er]at ep;rw[C9 h1]at iz;rw[su]at h2;have ee:Dj (.str "stuck") (.str "stuck")=.ok (.sh (.bl true)):=by rw[GX];simp
  have es:=D' z h t hd s1 h1 (su▸h2);refine⟨T,aA,ks, ?_,z,h,t,L7 _⟩;show iI (Np (oN 13 _ _ _))=_;refine Gc (Dy (zL hT)) (Gc (by simp![Ny,Fu,Ak,Sl.bT,el,gP];rfl) ?_);refine Gc (Dy (qR (w:=.ow (.lst (zi (bK A)))) (by simp![Ak,Sl.bT,eA]) (pe (rW _)))) ?_;refine Gc (Dy (qR (w:=.ow (.lst (zi (bK C)))) (by simp![Ak,Sl.bT,eC']) (pe (rW _)))) ?_;refine Gc (by simp![Nw,Ak,Sl.bT,ia,ib,i2,Fc,Cw hm,mW,C5 h2,Z2];rfl) (Gc (Dy (HG rfl rfl rfl ep)) (Gc (Dy (zL hT)) ?_));exact CO ((qt (by simp![Ak,Sl.any,iz])).trans (vb (Rc (w:=.sh (.bl true)) (by simp![Ak,Sl.bT,ee,eT,es]) rfl)))
 ·have nst:∃(c:Int) (T':List Int),T'.length=T.length/\Told p s m T' (Df aA (Bd d) (.int v))/\Dn p s m v T aA d B1 B2=.ok (.int c) (Ar p s m T' (Df aA (Bd d) (.int v))):=by
   rcases pt with q|q
   ·exact q
   ·exfalso;unfold Dn at q
    split at q
    ·cases q
    ·rename_i hz
     split at q
     ·rename_i hb;exact cA ⟨hb,λe=>hz (by unfold Gq;lia)⟩
     ·split at q <;> cases q
  obtain⟨c,T',LK,tt,er⟩:=nst;rw[er]at ep;have z':dC p s m T':=⟨z.p0,z.p1,z.s0,z.s1,z.m0,z.m1,by rw[LK];exact z.tl⟩;refine⟨T',Df aA (Bd d) (.int v),_, ?_,z',h.put (v:=v) hd hl,tt, ?_⟩
  ·show iI (Np (oN 13 _ _ _))=_;refine Gc (Dy (zL hT)) (Gc (by simp![Ny,Fu,Ak,Sl.bT,el,gP];rfl) ?_);refine Gc (Dy (qR (w:=.ow (.lst (zi (bK A)))) (by simp![Ak,Sl.bT,eA]) (pe (rW _)))) ?_;refine Gc (Dy (qR (w:=.ow (.lst (zi (bK C)))) (by simp![Ak,Sl.bT,eC']) (pe (rW _)))) ?_;refine Gc (by simp![Nw,Ak,Sl.bT,ia,ib,i2,Fc,Cw hm,mW];rfl) (Gc (Dy (HG rfl rfl rfl ep)) (Gc (Dy (zL ())) ?_));rw[<-su];refine Gc (uL ?_) (Gc (by simp![x_6,Ak,Sl.any,wR];rfl) (Gc (SH hd zj) ?_))
   ·by_cases hb:pB d s p∈bK B1
    ·have:Ey T [pA d s p,pB d s p] % m=v:=Classical.byContradiction λe=>cA ⟨hb,e⟩;rw[C9 hb]at iz
     simp![Ak,Sl.any,iz,this,T4]
    ·rw[C5 hb]at iz
     simp![Ak,Sl.any,iz]
   by_cases hz:Ey T [pA d s p,pB d s p] % m=v
   ·have e0:Dn p s m v T aA d B1 B2=.ok (.int 0) (Ar p s m T (Df aA (Bd d) (.int v))):=by
     unfold Dn;rw[if_pos (by unfold Gq;lia)]
    rw[e0]at er;injection er with ec et
    injection ec with ec
    have et:=HH et;subst ec et;have q0:Dj (.int 0) (.int 0)=.ok (.sh (.bl true)):=by rw[iQ];simp
    exact CO ((qt (by simp![Ak,Sl.any,hz,T4])).trans (vb (by simp![gw,Ak,Sl.any,Sl.bT,q0,eT];rfl)))
   ·have hb:pB d s p∉bK B1:=λq=>cA ⟨q,hz⟩;have lk:Gq T d s p m v≠0:=by unfold Gq;lia
    have em0:=L4 (Ey T [pA d s p,pB d s p]) (show m≠0 by lia);have em1:=K3 (Ey T [pA d s p,pB d s p]) hm;have lb: -m < Gq T d s p m v/\Gq T d s p m v < m:=by unfold Gq;lia
    have eL:=UZ (T:=T) (ks:=ks) (d:=d) z;have lt1:=rG s1 hA eL;have lt2:=rG s2 hB eL;have Mb:=rG sA hA eL;have ltC:=rG sC hB eL;have m1:=rX s1 sA;have m2:=rX s2 sC;have lnA:(bK A).length=(bK B1).length:=((T7 sA.g.nd s1.g.nd).mpr λq=>(m1 q).symm).length_eq;have lnC:(bK C).length=(bK B2).length:=((T7 sC.g.nd s2.g.nd).mpr λq=>(m2 q).symm).length_eq;have k1:(bK B1).length=B1.length:=A3 ..;have k2:(bK B2).length=B2.length:=A3 ..;have chg:∀(S:List Nat) (l1 l2:Int),l1≠0->l2≠0->(-m < l1/\l1 < m)->(-m < l2/\l2 < m)->∀i < T.length,(Bm T i≠Bm (iK T S p m l1 l2) i↔i∈S):=λS l1 l2 n1 n2 b1 b2 i hi=>by
     rw[uC S l1 l2 hi];have hr:=t.pO (Bm T i) (J8 (wm hi))
     by_cases hS:i∈S
     ·rw[if_pos hS];refine⟨λ_=>hS,λ_=> ?_⟩
      by_cases hp:(i:Int) < p
      ·rw[if_pos hp];exact CZ hr.1 hr.2 n1 b1.1 b1.2
      ·rw[if_neg hp];exact CZ hr.1 hr.2 n2 b2.1 b2.2
     ·rw[if_neg hS];exact⟨λq=>absurd rfl q,λq=>absurd q hS⟩
    have cr:BS [.lst (T.map .int),.lst (T'.map .int),.lst (zi (bK A)),.lst (zi (bK C)),.int c]=.ok (.sh (.bl true)):=by
     unfold Dn at er;rw[if_neg lk,if_neg hb]at er
     split at er <;> rename_i hle <;> injection er with ec et <;> injection ec with ec <;> have et:=HH et <;> subst ec et
     ·rw[<-k1];exact Ln (S:=bK B1) (tJ ..) () (chg _ _ _ lk () lb ()) s1.g.nd lt1 sA.g.nd Mb sC.g.nd ltC () (.inl m1)
     ·rw[<-k2];exact Ln (S:=bK B2) (tJ ..) () (chg _ _ _ () lk () lb) s2.g.nd lt2 sA.g.nd Mb sC.g.nd ltC () (.inr m2)
    rw[C5 hz];exact Gc rfl ((K4 iI (vb (by simp![gw,Ak,Sl.any,Sl.bT,cr];rfl))).trans qO)
  ·split
   ·lia
   ·rw[B8];simp only[B4,K2];lia
end
section
variable{p s m:Int}{T:List Int}{aA:List (Ae×D)}{ks:List D}{d:D}{v b:Int}
def Yc(h:bH aA ks):Dg (Ar p s m T aA)=true:=by
 have all:∀l:List (Ae×D),(∀q∈l,q∈aA)->pR (l.map λp=>(p.1,Tn.sh p.2))=true:=λl=>by
  induction l with
  |nil=>intro _;simp only[O0,pR]
  |cons q l ih=>
   intro hq;obtain⟨n,e⟩:=h.val q (hq q C8);simp only[B3,pR,Dg,e,Dc,ih λx hx=>hq x (B9 _ hx),L8]
 have e:Dg (Tn.of (.aE aA))=true:=by
  show Dg (.aE (aA.map λp=>(p.1,Tn.sh p.2)))=true;simp only[Dg,all aA λ_ h=>h]
 simp only[Ar,Dg,iP,Dc,zM,e,L8]
noncomputable abbrev uw(t:Tn)(K:Sl)(b:Int)(d:D)(v:Int)(sz:D)(a6 a7 a8:Sl):SE:=[.lt t,K,.sh (.int b),.sh d,.sh (.int v),.sh sz,a6,a7,a8]
abbrev Em(K:List (Ae×D)):Sl:=.lt (Tn.of (.aE K))
def DU:Sl.qc (Em aA)=some (aA,true):=by
 show(Gg (aA.map λp=>(p.1,Tn.sh p.2))).map _=_;rw[jy];rfl
def Kg(z:dC p s m T)(h:bH aA ks)(t:Told p s m T aA)(hd:Bl d){a6 a7 a8:Sl}(h6:kG a6=true)(h7:kG a7=true)(h8:kG a8=true):∃b7 b8,rn 1 (jh 7 8) BR (uw (Ar p s m T aA) (Em aA) b d v (Cj p s m) a6 a7 a8)=.nx (uw (Ar p s m T aA) (Em aA) b d v (Cj p s m) a6 b7 b8):=by
 have ld:=pL (p:=p) (s:=s) (m:=m) (T:=T) (aA:=aA);obtain⟨Δ',e,b7,b8,rfl,p7,p8⟩:=uE (jh 7 8) BR (λ_ Δ=>∃b7 b8:Sl,Δ=uw (Ar p s m T aA) (.lt (.sh (.aE aA))) b d v (Cj p s m) a6 b7 b8/\kG b7=true/\kG b8=true) (ds:=aA.map λq=> .tup [kD q.1,q.2]) ⟨a7,a8,rfl,h7,h8⟩ (λi x Δ hx ⟨b7,b8,e,_,_⟩=>by
  subst e;rw[A9]at hx;obtain⟨q,hq,rfl⟩:=E8.mp hx;obtain⟨y,n,hy,hk,a1,a2,a3,av⟩:=h.row (J8 hq);rw[a1,a3];refine⟨_,rfl,_,.inl ?_,.sh y,.sh (.int n),rfl,pz hk,rfl⟩;have em1:∀a1 a2 a3 a4 a5 a6 δ,Cg "value" 1 [("Living",mM)] (Aa 0) #v[7] (some (Bk p s m T aA)::a1::a2::a3::a4::a5::a6::some y::δ)=.ok (.sh (.int n)):=λ_ _ _ _ _ _ _=>(Fj (w:=.sh y) rfl rfl nofun).trans (by rw[W.dQ,wX z hk,t.val y n hk av]);have ne:Ck (.int n) (.int n)=.ok (.sh (.bl false)):=by rw[mW,C9 rfl];rfl
  simp![BR,Ak,Sl.any,ld,em1,ne])
 refine⟨b7,b8, ?_⟩;have ha:((uw (Ar p s m T aA) (.lt (.sh (.aE aA))) b d v (Cj p s m) a6 b7 b8).set 1 .no).all kG=true:=by
  show(Dg (Ar p s m T aA) && (true && (true && (Dc d && (true && (Dc (Cj p s m) && (kG a6 && (kG b7 && (kG b8 && true)))))))))=true;rw[Yc h,pz hd,h6,p7,p8];simp only[Cj,Dc,Ef,L8]
 show(match Gg (aA.map λp=>(p.1,Tn.sh p.2)) with
  |some k=>nM 1 k (De (jh 7 8) BR (k.map λp:Ae×D=> .tup [kD p.1,p.2]) (uw (Ar p s m T aA) (.lt (.sh (.aE k))) b d v (Cj p s m) a6 a7 a8))
  |none=> .no)=_
 rw[jy];simp only;rw[e];unfold nM jt;simp only[ha,if_true];rfl
def SG(hd:Bl d)(hh:Do aA (Bd d)=true){t:Tn}{x:Sl}{Δ:SE}:nN 1 (Aa 3) (.lt t::Em aA::x:: .sh d::Δ)=.nx (.lt t::Em (Gd aA (Bd d))::x:: .sh d::Δ):=by
 have hd1:=DU (aA:=aA);unfold Do at hh;unfold nN
 simp![N3,M0,OQ,hd1,Ak,Sl.bT,qo hd,hh,if_true]
 rfl
def CY{f:SE->FM}{g h:FS}{Δ Δ':SE}(e:f Δ=.ok (.bl true) Δ'):kX (la (lr f)) g h Δ=h Δ':=by
 unfold kX la lr;rw[e];rfl
def WG{n:Nat}{M:Tn->List (Ae×D)->List D->kb}{ga:SE->R (List D)}{js:List Nat}{Δ Δ0:SE}{ds:List D}{x:D}{t:Tn}{k:List (Ae×D)}(h0:aD js Δ0=.lt (Ar p s m T aA)::Em aA::Δ)(hg:ga (.lt (Ar p s m T aA)::Em aA::Δ)=.ok ds)(hl:ds.length=n)(e:M (Ar p s m T aA) aA ds=.ok x t k):fD js (sW 0 1 n M ga) Δ0=.ok x (.lt t::Em k::Δ):=by
 have BN:((.lt (Ar p s m T aA)::Em aA::Δ:SE)[0]?).bind Sl.tree=some (Ar p s m T aA,true):=rfl;have BM:((.lt (Ar p s m T aA)::Em aA::Δ:SE)[1]?).bind Sl.qc=some (aA,true):=DU;unfold fD sW;rw[h0,BN,BM];unfold Ar at hg e⊢;simp only[hg,hl,if_true,e];rfl
def ZO(z:dC p s m T)(h:bH aA ks)(t:Told p s m T aA)(hb:b=0\/b=1)(hd:Bl d)(v0:0<=v)(v1:v < m)(hl:ks.length < 60):∃(T':List Int) (aa:List (Ae×D)) (jQ:List D),AZ (Ar p s m T aA) aA [.int b,d,.int v,Cj p s m]=.ok (.bl true) (Ar p s m T' aa) aa/\dC p s m T'/\bH aa jQ/\Told p s m T' aa/\jQ.length<=ks.length + 1:=by
 have p1:=z.p1;have tl:=z.tl;have tW:=qo hd;have dd:=Tn.eI (.aE aA);have n1:¬(1:Int)=0:=by decide
 by_cases hc:b=1/\Do aA (Bd d)=true
 ·obtain⟨rfl,hh⟩:=hc;have ld:=pL (p:=p) (s:=s) (m:=m) (T:=T) (aA:=Gd aA (Bd d));have e1:∀δ,Cg "table" 0 [("Living",gN)] (Aa 0) Ad (some (Bk p s m T (Gd aA (Bd d)))::δ)=.ok (.ow (.lst (T.map .int))):=λ δ=>(nK rfl nofun).trans (rZ ());have nT:Ck (.lst (T.map .int)) (.lst (T.map .int))=.ok (.sh (.bl false)):=HQ 2 (F8.mpr λx hx=>by obtain⟨i,_,rfl⟩:=E7.mp hx;rfl);obtain⟨b7,b8,e⟩:=Kg (b:=1) (v:=v) (a6:=.sh (.lst (T.map .int))) (a7:=.no) (a8:=.no) z h.drop (IQ t) hd (by simp only[kG,Dc,zM]) rfl rfl;refine⟨T,Gd aA (Bd d),_, ?_,z,h.drop,IQ t,D4 (M6 _ _) (L7 _)⟩;show iI (Nu (uw (Ar p s m T aA) (Em aA) 1 d v (Cj p s m) .no .no .no))=_;refine Gc ((uL (by simp![Ak,Sl.any,dd,iQ,n1,Ew,tW,hh,if_true])).trans (sq (Dy (zL ())) (sq (vp (lW rfl nofun rfl rfl (Vn hd hh))) (sq (SG hd hh) ?_)))) (Gc e qO)
  simp![Ak,Sl.any,ld,e1,nT]
 ·obtain⟨T',aa,jQ,e0,z',h',t',l'⟩:=Zq z h t hd v0 v1 hl;obtain⟨b7,b8,e⟩:=Kg (b:=b) (v:=v) (a6:=.no) (a7:=.no) (a8:=.no) z' h' t' hd rfl rfl rfl;refine⟨T',aa,jQ, ?_,z',h',t',l'⟩;show iI (Nu (uw (Ar p s m T aA) (Em aA) b d v (Cj p s m) .no .no .no))=_;refine Gc ((qt ?_).trans (CY (WG rfl rfl rfl e0))) (Gc e qO);rcases hb with rfl|rfl
  ·simp![Ak,Sl.any,iQ]
  ·cases hh:Do aA (Bd d) with
   |true=>exact absurd ⟨rfl,hh⟩ hc
   |false=>simp![Ak,Sl.any,dd,iQ,n1,Ew,tW,hh,if_true]
end
section
variable{p s m:Int}{T:List Int}{aA:List (Ae×D)}{ks:List D}{kK sz:D}{k:Int}{a5 a6 a7:Sl}
noncomputable abbrev mS(kK sz:D)(t:Tn)(aA:List (Ae×D))(k:Int)(a5 a6 a7:Sl):SE:=[.sh kK,.sh sz,.tr t,.ow (.aE aA),.sh (.int k),a5,a6,a7]
def Ql{t:Tn}{f:FE}{w:W}(h:f [some kK,some sz,none,some (.aE aA),some (.int k),a5.bT,a6.bT,a7.bT]=.ok w)(hp:kH w=true):Fg [3] f (mS kK sz t aA k a5 a6 a7)=.ok w.d (mS kK sz t aA k a5 a6 a7):=by
 have hl:mZ [3] (mS kK sz t aA k a5 a6 a7)=true:=by
  show((Tn.of (.aE aA)).aX && true)=true;rw[xu];rfl
 unfold Fg;rw[hl,if_pos rfl,show Dt [3] (mS kK sz t aA k a5 a6 a7)= [some kK,some sz,none,some (.aE aA),some (.int k),a5.bT,a6.bT,a7.bT] from rfl,h];simp only[hp,if_true]
def Pj{fg:FG}{g:SE->FM}{d:D}{Δ Δ1 Δ':SE}(e:g Δ=.ok d Δ1)(q:fg d Δ1=.ok Δ'):nX fg g Δ=.nx Δ':=by
 unfold nX;rw[e];simp only[q]
def SA{n:Nat}{M:Tn->List (Ae×D)->List D->kb}{ga:SE->R (List D)}{js:List Nat}{Δ0:SE}{ds:List D}{x:D}{t:Tn}{k2:List (Ae×D)}(h0:aD js Δ0=mS kK sz (Ar p s m T aA) aA k a5 a6 a7)(hg:ga (mS kK sz (Ar p s m T aA) aA k a5 a6 a7)=.ok ds)(hl:ds.length=n)(e:M (Ar p s m T aA) aA ds=.ok x t k2):fD js (sW 2 3 n M ga) Δ0=.ok x (mS kK sz t k2 k a5 a6 a7):=by
 have BN:((mS kK sz (Ar p s m T aA) aA k a5 a6 a7)[2]?).bind Sl.tree=some (Ar p s m T aA,false):=rfl;have BM:((mS kK sz (Ar p s m T aA) aA k a5 a6 a7)[3]?).bind Sl.qc=some (aA,false):=rfl;unfold fD sW;rw[h0,BN,BM];unfold Ar at hg e⊢;simp only[hg,hl,if_true,e];rfl
def UY(ns:List Int)(NM:ns.length<=63)(Mo:0<=k)(Mn:k<=60)(z:dC p s m T)(h:bH aA ks)(t:Told p s m T aA)(hl:ks.length < 60):
  ∃(T':List Int) (aa:List (Ae×D)) (jQ:List D) (b5 b6 b7:Sl),wy (mS (.lst (ns.map .int)) (Cj p s m) (Ar p s m T aA) aA k a5 a6 a7)=.nx (mS (.lst (ns.map .int)) (Cj p s m) (Ar p s m T' aa) aa k b5 b6 b7)/\dC p s m T'/\bH aa jQ/\Told p s m T' aa/\jQ.length<=ks.length + 1:=by
 obtain⟨b,d,v,ed,hb,hd,v0,v1⟩:=SR (p:=p) (s:=s) ns k Mo () () h z.m0 z.m1;have ed:yI [.lst (ns.map .int),.int 3,.int k,.aE aA,Cj p s m]=.ok (.sh (.tup [.int b,d,.int v])):=ed;obtain⟨T',aa,jQ,e,z',h',t',l'⟩:=ZO z h t hb hd v0 v1 hl;generalize hnD:D.lst (ns.map .int)=nD at *
 generalize hsz:Cj p s m=sz at *
 refine⟨T',aa,jQ,.sh (.int b),.sh d,.sh (.int v),sq (Pj (Ql (w:=.sh (.tup [.int b,d,.int v])) (by simp![Ak,ed]) ?_) rfl) (CY (SA rfl rfl rfl e)),z',h',t',l'⟩;show Dc (.tup [.int b,d,.int v])=true;simp only[Dc,Ef,pz hd,L8]
end
def UX{n k:Nat}{d:D}(e:(iY 0 n)[k]? =some d):d=.int (k:Int)/\k < n:=by
 unfold iY at e;rw[A9]at e;obtain⟨j,hj,rfl⟩:=E8.mp e;obtain⟨hl,ej⟩:=B5.mp hj;rw[List.getElem_range]at ej;rw[Q5]at hl;subst ej;exact⟨by rw[Int.zero_add],hl⟩
def Sz(ns:List Int)(hn:ns.length<=63):∃z:Int,zR [.lst (ns.map .int),.int 3,.int 60]=.ok (.sh (.int z))/\0<=z/\z<=60:=by
 have ec:=rL ns 2 ⋯ ⋯;refine⟨min 60 (max (max 0 ((ns.length:Int) - 3)) (hW ns 2 % 61)), ?_,by lia,by lia⟩
 simp![zR,JM,Ak,jS,A3,pN,Fc,ES,ER,Cw (show(0:Int) < 61 by decide),ec,show(3:Int) - 1=2 from rfl,show(60:Int) + 1=61 from rfl]
def Rb:Bl (.str "stranger"):=.inr ⟨("stranger" :Str).cps.toList,by rw[Rk],by decide +kernel,by decide +kernel⟩
def UW(ns:List Int)(hn:ns.length<=63):∃v,DF [.lst (ns.map .int)]=.ok v/\v.d=.bl true:=by
 obtain⟨p,s,m,es,p0,p1,s0,s1,m0,m1⟩:=Vs ns;have ei:=SX (s:=s) (m:=m) (show 0 < p by lia) p1;obtain⟨w,ew,hw0,hw⟩:=Sz ns hn;have z0:dC p s m (List.replicate (2 * p).toNat 0):=⟨by lia,p1,s0,by lia,m0,m1,by rw[M5];lia⟩;have k0:bH [] []:=⟨λ_ h=>(U2 h).elim,List.nodup_nil,rfl,λ_ h=>(U2 h).elim,by decide⟩;have t0:Told p s m (List.replicate (2 * p).toNat 0) []:=⟨λt ht=>by rw[List.eq_of_mem_replicate ht];lia,λd n _ e=>by cases e⟩;obtain⟨n,aaF,en⟩:∃n:Nat,n<=60/\w.toNat=n:=⟨w.toNat,by lia,rfl⟩;obtain⟨Δ',e,T,aA,ks,a4,a5,a6,a7,rfl,z,h,t,_⟩:=uE (gV 4) wy (λi Δ=>∃(T:List Int) (aA:List (Ae×D)) (ks:List D) (a4 a5 a6 a7:Sl),Δ= [.sh (.lst (ns.map .int)),.sh (Cj p s m),.tr (Ar p s m T aA),.ow (.aE aA),a4,a5,a6,a7]/\dC p s m T/\bH aA ks/\Told p s m T aA/\ks.length<=i) (ds:=iY 0 n)
  ⟨List.replicate (2 * p).toNat 0,[],[],.no,.no,.no,.no,rfl,z0,k0,t0,B6 _⟩ (λi d Δ hd ⟨T,aA,ks,a4,a5,a6,a7,e,z,h,t,hl⟩=>by
   subst e;obtain⟨rfl,hi⟩:=UX hd;obtain⟨T',aa,jQ,b5,b6,b7,e,z',h',t',l'⟩:=UY (k:=(i:Int)) (a5:=a5) (a6:=a6) (a7:=a7) ns hn () () z h t ();exact⟨_,rfl,_,.inl e,T',aa,jQ,_,b5,b6,b7,rfl,z',h',t',by lia⟩)
 have i0:Ba (Cj p s m) (.int 0)=.ok (.sh (.int p)):=rfl;have i1:Ba (Cj p s m) (.int 1)=.ok (.sh (.int s)):=rfl;have i2:Ba (Cj p s m) (.int 2)=.ok (.sh (.int m)):=rfl;have ld:=pL (p:=p) (s:=s) (m:=m) (T:=T) (aA:=aA);refine⟨.sh (.bl true),jR (sq (by simp![GH,Ak,es];rfl) (sq (by simp![GG,Ak,vA,i0,i1,i2,ei];rfl) (sq rfl ?_))),rfl⟩;exact sq (Qf (by simp![Ak,Sl.bT,ew,wC (j:=w) () (),en]) e) (by simp![GF,Ak,Sl.any,ld,Ve z h t Rb])
end My
set_option maxHeartbeats 20000000
namespace My
open PySem PyProof.Rows L2 L3
local macro_rules|`(#v[])=>`(As)|`(#v[$n:num])=>`(Ah (Ac $n) As)|`(#v[$x])=>`(Ah $x As)|`(#v[$n:num,$xs,*])=>`(Ah (Ac $n) #v[$xs,*])|`(#v[$x,$xs,*])=>`(Ah $x #v[$xs,*])
noncomputable def Bg(i:Nat):Stmt:=PySem.Challenge.pw_lodge_k86_whole_living.main.body.getD i (.Pass ⟨0,0,0,0⟩)
def xr:Stmt->List Stmt
 | .ClassDef (body:=b) .. =>b
 |_=> []
def Gb(i j:Nat):Stmt:=(xr (Bg i)).getD j (.Pass ⟨0,0,0,0⟩)
abbrev AH(P:Program)(w:World)(K:Frag)(p:Str->Option Value)(r:Heap)(f:Addr)(u:FuncData)(x:Str)(i k:Nat)(ps:List Str)(n:Nat)(g:List D->R W):Prop:=bC K x x (Bg i) f u->bI P w K p r true k f u ps (Bo K n g)
abbrev AI(P:Program)(w:World)(K:Frag)(p:Str->Option Value)(r:Heap)(f:Addr)(u:FuncData)(x:Str)(q:Str)(i j k:Nat)(ps:List Str)(n:Nat)(g:List D->R W):Prop:=bC K x q (Gb i j) f u->bI P w K p r true k f u ps (Bo K n g)
section
variable{P:Program}{w:World}{K:Frag}{p:AB}{r:Heap}{f:Addr}{u:FuncData}
abbrev TF(c:Bool)(x:Str)(k:Nat)(ps:List Str)(F:AF)(P:Program)(w:World)(K:Frag)(p:AB)(r:Heap):Prop:=CK P w K p r c x k ps F
abbrev IL:=TF true "_law_mix" 1 ["_law_cell_here","_law_k"] mK
abbrev MQ:List Str:=["_law_script","_law_k"]
abbrev JG:=TF true "_law_cell" 2 MQ qa
abbrev Kf:=TF true "_law_sizes" 3 ["_law_script","_law_most"] AK
abbrev L16:List Str:=["_law_script","_law_start","_law_most"]
abbrev JF:=TF true "_law_many" 3 L16 zR
abbrev IK:=TF true "_law_raw" 3 MQ yF
abbrev JE:=TF true "_law_text" 1 ["_law_cell_here"] zQ
abbrev IJ:=TF true "_law_key" 2 ["_law_cell_here"] tK
abbrev Lh:List Str:=["_law_script","_law_start","_law_k","_law_kept","_law_sizes_here"]
abbrev JD:=TF true "_law_deed" 4 Lh yI
abbrev Ke:=TF true "_law_whole" 1 ["_law_found"] uK
abbrev x_9:=TF true "_law_table_right" 2 ["_law_living","_law_sizes_here"] BO
abbrev Kd:=TF true "_law_stamp" 1 ["_law_key_here"] tT
abbrev L20:List Str:=["_law_number","_law_salt","_law_size"]
abbrev Kc:=TF true "_law_mixed" 1 L20 yK
abbrev Ky:=TF true "_law_places" 2 ["_law_key_here","_law_sizes_here"] mL
abbrev KP:=TF true "is_key_text" 1 ["text"] AV
abbrev HF:=TF true "is_key" 2 ["thing"] yz
abbrev FP:=TF true "worth" 1 ["text"] oM
abbrev FN:=TF true "stamp" 3 ["key"] kM
abbrev FL:=TF true "mixed" 1 ["number","salt","size"] oK
abbrev Kb:=TF true "places_of" 4 ["key","salt","kind","part"] AJ
abbrev JC:=TF true "is_below" 1 ["number","limit"] qu
abbrev Pc:List Str:=["number","modulus"]
abbrev Ka:=TF true "remainder" 1 Pc yJ
abbrev HE:=TF true "summed" 2 ["table","places","modulus"] pf
abbrev Lo:List Str:=["_law_living","_law_sizes_here","_law_key_here","_law_table"]
abbrev JZ:=TF true "_law_tells" 7 Lo uJ
abbrev Lq:List Str:=["_law_living","_law_kept","_law_sizes_here","_law_stranger"]
abbrev JY:=TF true "_law_right" 8 Lq LD
abbrev Ls:List Str:=["_law_kept","_law_start","_law_without","_law_sizes_here"]
abbrev JB:=TF true "_law_tied" 3 Ls yH
abbrev Lu:List Str:=["_law_ring","_law_kept","_law_key_here","_law_sizes_here"]
abbrev Lm:=TF true "_law_ring_right" 4 Lu Mc
abbrev L17:List Str:=["_law_ring","_law_kept","_law_modulus"]
abbrev Kx:=TF true "_law_forced" 1 L17 LO
abbrev JA:=TF true "steps_to" 1 ["start","ways"] tP
abbrev y_0:=TF true "keys_on_the_way" 1 ["place","steps"] Mf
abbrev II:=TF true "ways_at" 1 ["places_by_key"] sE
abbrev La:List Str:=["_law_living","_law_kept","_law_key_here","_law_value","_law_sizes_here"]
abbrev y_1:=TF true "_law_stuck_right" 8 La Me
abbrev Li:List Str:=["_law_before","_law_after","_law_ones","_law_others","_law_told"]
abbrev t_3:=TF true "_law_changed_right" 1 Li BS
def nz:= @bC.yw
def gM:= @bC.yv
def uX:= @bC.yu
def ue:= @bC.yt
def ME:= @bC.yr
def bn6:= @bC.yq
abbrev Nf:Stmt:=(xr (Bg 3)).getD 0 (.Pass ⟨0,0,0,0⟩)
abbrev zE:List Str:=["self","at"]
def V':aV zE zE (Cc Nf):=⟨rfl,rfl,rfl,by decide +kernel,rfl,by decide +kernel,by decide +kernel⟩
def U'{C f:Addr}{u:FuncData}(F:bC K "__init__" "NoValue.__init__" Nf f u)(xc:fV K C)(hn:findIn K (.ref C) "at" =some none):bI P w K p r false 1 f u zE (lJ C "at"):=
 GV (k:=0) F V' λzp A outer s H E=>wO (GW xc hn (Fd rfl (.inl rfl)) (Fd rfl (.inl rfl)))
abbrev xY:Stmt:=(xr (Bg 2)).getD 0 (.Pass ⟨0,0,0,0⟩)
def ZN:aV zE zE (Cc xY):=⟨rfl,rfl,rfl,by decide +kernel,rfl,by decide +kernel,by decide +kernel⟩
def ZM{C f:Addr}{u:FuncData}(F:bC K "__init__" "NoKey.__init__" xY f u)(xc:fV K C)(hn:findIn K (.ref C) "at" =some none):bI P w K p r false 1 f u zE (lJ C "at"):=
 GV (k:=0) F ZN λzp A outer s H E=>wO (GW xc hn (Fd rfl (.inl rfl)) (Fd rfl (.inl rfl)))
def Yb:AH P w K p r f u "_law_mix" 30 1 ["_law_cell_here","_law_k"] 2 mK:=λF=>Cp (N:=["_law_cell_here","_law_k","_law_first"]) F λzq m d a o=>(Ap (Bi (i:=2) [0,1] (Aq Cs (Aq Eg (Aq Ch (Ac 0) Am) (Aq Ch Am (Aq Eg Am (Ac 1)))) Am) a)
  (Aw (Bp [1,2] (Aq Cs (Aq Ch (Aq Ch (Aq Eg (Aq kN (Ac 2) Am) Am) (Aq Eg (Ac 2) (Aq Ch (Aq Eg (Ac 1) (Ac 1)) Am))) (Ac 1)) Am))))
variable(g8:IL P w K p r)(d9:p "len" =none)
abbrev L14:List Str:=["_law_script","_law_k","_law_cell_here"]
def YK:AH P w K p r f u "_law_cell" 31 2 MQ 2 qa:=λF=>Cp (N:= L14) F λzq m d a o=>(Ap (Bi (i:=2) [] Am a)
  (Ap (Cn [0,1] (Cf lR (Ac 1) (Eb kT rfl d9 G6 #v[0]) (Ce _))
   (Aw (Bi (i:=2) [0,1] (Aq Cs (Ca (Ac 0) (Ac 1)) Am) a))
   Cl)
  (Aw (Bp [1,2] (Bn m o g8 #v[2,Aq Ch (Ac 1) Am])))))
variable(f8:JG P w K p r)
def Zp:AH P w K p r f u "_law_sizes" 38 3 ["_law_script","_law_most"] 2 AK:=λF=>Cp (N:=["_law_script","_law_most","_law_cell_here","_law_part","_law_salt","_law_other","_law_modulus"]) F λzq m d a o=>(Ap (Bi (i:=2) [0] (Bn m o f8 #v[0,Am]) a)
  (Ap (Bi (i:=3) [1,2] (Aq Ch Am (Aq Cs (Ac 2) (Ac 1))) a)
  (@Ap _ _ _ _ _ _ (Bi (i:=4) [2] (@Ca _ _ _ _ _ _ _ (@my _ _ _ _ _ (@Ah _ _ _ _ _ _ Am (@Ah _ _ _ _ _ _ Am (@Ah _ _ _ _ _ _ (Aq Cs (Aq kN (Ac 2) Am) Am) #v[Aq Ch (Aq Hs Am Am) (Ac 2)] rfl) rfl) rfl)) (Aq Cs (Aq kN (Ac 2) Am) Am) (λ_ _=>rfl)) a)
  (Ap (Bi (i:=5) [2] (Bn m o g8 #v[2,Am]) a)
  (@Ap _ _ _ _ _ _ (Bi (i:=6) [5] (@Ca _ _ _ _ _ _ _ (@my _ _ _ _ _ (@Ah _ _ _ _ _ _ Am (@Ah _ _ _ _ _ _ Am (@Ah _ _ _ _ _ _ (Aq Ch Am (Aq Cs (Aq kN (Ac 5) Am) Am)) (@Ah _ _ _ _ _ _ Am (@Ah _ _ _ _ _ _ Am (@Ah _ _ _ _ _ _ Am (@Ah _ _ _ _ _ _ (Aq Ch Am (Aq Cs (Aq kN (Ac 5) Am) Am)) #v[Am] rfl) rfl) rfl) rfl) rfl) rfl) rfl)) (Aq Cs (Ac 5) Am) (λ_ _=>rfl)) a)
  (Aw (Bp [3,4,6] (mQ #v[3,4,6]))))))))
variable(zA:p "max" =none)(CB:p "min" =none)
def YJ:AH P w K p r f u "_law_many" 39 3 L16 3 zR:=λF=>Cp (N:=["_law_script","_law_start","_law_most","_law_cells"]) F λzq m d a o=>(Ap (Bi (i:=3) [0,1] (Eb (xM zq) rfl zA W4 #v[Am,Aq pT (Eb kT rfl d9 G6 #v[0]) (Ac 1)]) a)
  (Aw (Bp [0,1,2,3] (Eb (Jm zq) rfl CB PyProof.Rows.boot_min #v[2,Eb (xM zq) rfl zA W4 #v[3,Aq Cs (Bn m o f8 #v[0,Aq pT (Ac 1) Am]) (Aq Ch (Ac 2) Am)]]))))
def Ya:AH P w K p r f u "_law_raw" 37 3 MQ 2 yF:=λF=>Cp (N:= L14) F λzq m d a o=>(Ap (Bi (i:=2) [] Am a)
  (Ap (Cn [0,1] (Cf lR (Ac 1) (Eb kT rfl d9 G6 #v[0]) (Ce _))
   (Aw (Bi (i:=2) [0,1] (Ca (Ac 0) (Ac 1)) a))
   Cl)
  (Ap (Cn [0] (Cf (iN d) (Aq Cs (Bn m o f8 #v[0,Am]) Am) Am (Ce _))
   (Aw (sY 2))
   Cl)
  (Aw (Bp [1,2] (Bn m o g8 #v[Bn m o g8 #v[Aq Cs (Ac 2) Am,Aq Ch (Ac 1) Am],1]))))))
variable(o5:p "range" =none)
def YI:AH P w K p r f u "_law_text" 35 1 ["_law_cell_here"] 1 zQ:=λF=>Cp (N:=["_law_cell_here","_law_found","_law_rest","_law_k"]) F λzq m d a o=>(Ap (Bi (i:=1) [] lU a)
  (Ap (Bi (i:=2) [0] (Aq kN (Ac 0) Am) a)
  (Ap (fS [0] jk zq (xK o5 #v[Aq Cs (Ac 0) Am]) (ma (i:=3) a)
   (Ap (Bi (i:=1) [1,2] (Aq Ch (Ac 1) (Ca lU (Aq Cs (Ac 2) Am))) a)
  (Aw (Bi (i:=2) [2] (Aq kN (Ac 2) Am) a))))
  (Aw (sY 1)))))
variable(r9:JE P w K p r)
def XZ:AH P w K p r f u "_law_key" 36 2 ["_law_cell_here"] 1 tK:=λF=>Cp (N:=["_law_cell_here","_law_rest"]) F λzq m d a o=>(Ap (Bi (i:=1) [0] (Aq kN (Ac 0) Am) a)
  (Ap (Cn [0] (Cf (iN d) (Aq Cs (Ac 0) Am) Am (Ce _))
   (Aw (Bp [1] (Aq Cs (Ac 1) (Aq Hs Am Am))))
   Cl)
  (Ap (Cn [0] (Cf (iN d) (Aq Cs (Ac 0) Am) Am (Ce _))
   (Aw (Bp [1] (Bn m o r9 #v[1])))
   Cl)
  (Aw (Bp [0,1] (Aq Cs (Ac 1) (Ca (my #v[Am,Am]) (Aq pT (Aq Cs (Ac 0) Am) Am))))))))
variable(x0:IK P w K p r)(z7:IJ P w K p r)(o6:p "list" =none)
def YH:AH P w K p r f u "_law_deed" 40 4 Lh 5 yI:=λF=>Cp (N:=["_law_script","_law_start","_law_k","_law_kept","_law_sizes_here","_law_cell_here","_law_way","_law_rest","_law_value","_law_key_here"]) F λzq m d a o=>(Ap (Bi (i:=5) [0,1,2] (Bn m o x0 #v[0,Aq Ch (Ac 1) (Aq Cs (Ac 2) (Eb (xM zq) rfl zA W4 #v[Am,Aq pT (Eb kT rfl d9 G6 #v[0]) (Ac 1)]))]) a)
  (Ap (Cn [0] (Cf (iN d) (Aq Cs (Bn m o f8 #v[0,Am]) Am) Am (Ce _))
   (Aw (Bi (i:=5) [2,5] (Bn m o g8 #v[Aq Cs (Ac 5) Am,2]) a))
   Cl)
  (Ap (Bi (i:=6) [5] (Aq Cs (Ac 5) Am) a)
  (Ap (Bi (i:=7) [5] (Aq kN (Ac 5) Am) a)
  (Ap (Bi (i:=8) [4,7] (Aq Cs (Ac 7) (Ca (Ac 4) Am)) a)
  (Ap (Bi (i:=9) [4,7] (Bn m o z7 #v[Aq kN (Ac 7) (Ca (Ac 4) Am)]) a)
  (Ap (Cn [3,6] (Fk (vV (Cf EZ (Ac 6) Am (Ce _)) (wK (Cf (VI d) (Ac 3) rS (Ce _)))))
   (Aw (Bi (i:=9) [3,4,7] (Ca (VH zq o6 (Ac 3)) (Aq Cs (Aq kN (Ac 7) (Ca (Ac 4) Am)) (Eb zJ rfl d9 G6 #v[3]))) a))
   Cl)
  (@Aw _ _ _ _ (@Bp _ _ _ _ _ [6,8,9] (@mQ _ _ _ _ _ _ (@Ah _ _ _ _ _ _ (@Ca _ _ _ _ _ _ _ (@my _ _ _ _ _ (@Ah _ _ _ _ _ _ Am (@Ah _ _ _ _ _ _ Am (@Ah _ _ _ _ _ _ Am (@Ah _ _ _ _ _ _ Am (@Ah _ _ _ _ _ _ Am #v[Am,Am,Am] rfl) rfl) rfl) rfl) rfl)) (Ac 6) (λ_ _=>rfl)) #v[9,8] rfl)))))))))))
variable(b9:p "isinstance" =none)(uY:p "int" =none)(o7:p "bool" =none)(n6:dR K "int")(j6:dR K "bool")
def Zo:AH P w K p r f u "_law_whole" 41 1 ["_law_found"] 1 uK:=λF=>Cp (N:=["_law_found"]) F λzq m d a o=>(Aw (Bp [0] (fT (mr n6 (Ac 0) b9 uY W5) (ir (FC (mr j6 (Ac 0) b9 o7 sJ))))))
variable(g7:bU K ["Living"] "listed")
def R':AI P w K p r f u "table" "Living.table" 28 3 1 ["self"] 1 gN:=λF=>Cp (N:=["self"]) F λzq m d a o=>(Aw (Bp [0] (Jp Ze rfl o6 R6 #v[kJ g7 (Ac 0)])))
variable(i7:Ke P w K p r)(c6:bF P w K p r true 1 0 "table" [("Living",gN)])(q8:dR K "list")
def aap:AH P w K p r f u "_law_table_right" 42 2 ["_law_living","_law_sizes_here"] 2 BO:=λF=>Cp (N:=["_law_living","_law_sizes_here","_law_table"]) F λzq m d a o=>(Ap (Bi (i:=2) [0] (tu c6 m o (Ac 0)) a)
  (Ap (Cn [1,2] (Fk (fP (mz (gB (mr q8 (Ac 2) b9 o6 R6))) (iu (Cf (je d) (Eb kT rfl d9 G6 #v[2]) (Aq Eg Am (Ca (Ac 1) Am)) (Ce _)))))
   (Aw (Bp [] iJ))
   Cl)
  (Aw (Bp [1,2] (jf (iN d) (sX (N':=["_law_living","_law_sizes_here","_law_table","_law_number"]) zq (gS (Ex (Ac 2))) ⟨rfl,by rfl',rfl,λC s0 H0 fp pn=>⟨(tZ (i:=3)),(oG (Fk (fP (mz (gB (Bn (uF m) jE i7 #v[3]))) (iu (mz (Wm lQ lR Am (Ac 3) (Ca (Ac 1) Am))))))),(Ac 3)⟩⟩) (my As) (Ce _))))))
def Zn:AH P w K p r f u "_law_stamp" 32 1 ["_law_key_here"] 1 tT:=λF=>Cp (N:=["_law_key_here","_law_worth","_law_sign"]) F λzq m d a o=>(Ap (Cn [0] (gB (mr n6 (Ac 0) b9 uY W5))
   (Aw (Bp [0] (Aq Eg Am (Ac 0))))
   Cl)
  (Ap (Bi (i:=1) [] Am a)
  (Ap (fS [0] jk zq (Ex (Ac 0)) (ma (i:=2) a)
   (Aw (Bi (i:=1) [1,2] (Aq Ch (Aq Ch (Aq Eg Am (Ac 1)) Am) (Hn ZC4 PySem.F.slot_str_index PySem.F.type_str_index Xl lU #v[2])) a)))
  (Aw (Bp [1] (Aq Ch (Aq Eg Am (Ac 1)) Am))))))
def Zm:AH P w K p r f u "_law_mixed" 33 1 L20 3 yK:=λF=>Cp (N:=["_law_number","_law_salt","_law_size","_law_prime","_law_factor","_law_first"]) F λzq m d a o=>(Ap (Bi (i:=3) [] Am a)
  (Ap (Bi (i:=4) [1,3] (Aq Ch Am (Aq Cs (Aq Ch (Aq Eg Am (Ac 1)) Am) (Aq pT (Ac 3) Am))) a)
  (Ap (Bi (i:=5) [0,1,3,4] (Aq Cs (Aq Ch (Aq Eg (Ac 4) (Ac 0)) (Aq Cs (Aq Ch (Aq Eg (Aq Eg Am (Ac 1)) (Ac 1)) (Aq Eg Am (Ac 1))) (Ac 3))) (Ac 3)) a)
  (Aw (Bp [2,5] (Aq Cs (Aq Ch (Ac 5) (Aq kN (Ac 5) Am)) (Ac 2)))))))
variable(g9:Kd P w K p r)(m7:Kc P w K p r)
def ZL:AH P w K p r f u "_law_places" 34 2 ["_law_key_here","_law_sizes_here"] 2 mL:=λF=>Cp (N:=["_law_key_here","_law_sizes_here","_law_number","_law_part","_law_salt","_law_modulus"]) F λzq m d a o=>(Ap (rA [1] (Ac 1) (GS zq (lZ (i:=3) a (lZ (i:=4) a (lZ (i:=5) a EN)))))
  (Ap (Bi (i:=2) [0] (Bn m o g9 #v[0]) a)
  (Aw (Bp [2,3,4] (mQ #v[Bn m o m7 #v[2,Aq Eg Am (Ac 4),3],Aq Ch (Ac 3) (Bn m o m7 #v[2,Aq Ch (Aq Eg Am (Ac 4)) Am,3])])))))
variable(Om:p "all" =none){ac1:Tok}(o9:p "MOST_SIGNS" =some (.int 11 ac1)){ah7:Tok}(u7:p "SIGNS" =some (.str "abcdefghijklmnopqrstuvwxyz0123456789-_ " ah7))
def x':AH P w K p r f u "is_key_text" 16 1 ["text"] 1 AV:=λF=>Cp (N:=["text"]) F λzq m d a o=>(Aw (Bp [0] (fT (jf lQ (Eb kT rfl d9 G6 #v[0]) (jF rfl o9) (Ce _)) (ir (Eb (Xm zq) rfl Om PyProof.Rows.boot_all #v[(sX (N':=["text","sign"]) zq (gS (Ex (Ac 0))) ⟨rfl,by rfl',rfl,λC s0 H0 fp pn=>⟨(tZ (i:=1)),lO,(jf vS (Ac 1) (Hv rfl u7) (by with_unfolding_all rfl))⟩⟩)])))))
variable(m8:KP P w K p r)(CC:p "str" =none)(v7:dR K "str"){v9:Tok}(j3:p "GREATEST_NUMBER" =some (.int 999999999999999999 v9))
def WE:AH P w K p r f u "is_key" 17 2 ["thing"] 1 yz:=λF=>Cp (N:=["thing"]) F λzq m d a o=>(Ap (Cn [0] (gB (mr j6 (Ac 0) b9 o7 sJ))
   (Aw (Bp [] iJ))
   Cl)
  (Ap (Cn [0] (gB (mr n6 (Ac 0) b9 uY W5))
   (Aw (Bp [0] (IE lQ lQ Am (Ac 0) (jF rfl j3))))
   Cl)
  (Aw (Bp [0] (fT (mr v7 (Ac 0) b9 CC PyProof.Rows.boot_str) (ir (Bn m o m8 #v[0])))))))
def UU:AH P w K p r f u "worth" 18 1 ["text"] 1 oM:=λF=>Cp (N:=["text","total","sign"]) F λzq m d a o=>(Ap (Bi (i:=1) [] Am a)
  (Ap (fS [0] jk zq (Ex (Ac 0)) (ma (i:=2) a)
   (Aw (Bi (i:=1) [1,2] (Aq Ch (Aq Ch (Aq Eg Am (Ac 1)) (Hn ZC4 PySem.F.slot_str_find PySem.F.type_str_find Wa (Hv rfl u7) #v[2])) Am) a)))
  (Aw (sY 1))))
variable(Oz:HF P w K p r)(Ot:FP P w K p r){r6:Addr}(Ou:XC P w K p r "NoKey" "at" r6)
def UT:AH P w K p r f u "stamp" 19 3 ["key"] 1 kM:=λF=>Cp (N:=["key"]) F λzq m d a o=>(Ap (Cn [0] (mz (gB (Bn m o Oz #v[0])))
   (Aw (Ih [] Ou (aF.mono m ⋯) rP Am))
   Cl)
  (Ap (Cn [0] (gB (mr v7 (Ac 0) b9 CC PyProof.Rows.boot_str))
   (Aw (Bp [0] (Aq Ch (Aq Eg Am (Bn m o Ot #v[0])) Am)))
   Cl)
  (Aw (Bp [0] (Aq Eg Am (Ac 0))))))
variable{ah6:Tok}(u5:p "PRIME" =some (.int 2305843009213693951 ah6))
def US:AH P w K p r f u "mixed" 20 1 ["number","salt","size"] 3 oK:=λF=>Cp (N:=["number","salt","size","factor","shift","first"]) F λzq m d a o=>(Ap (Cn [2] (Cf (iN d) (Ac 2) Am (Ce _))
   (Aw (Bp [] Am))
   Cl)
  (Ap (Bi (i:=3) [1] (Aq Ch Am (Aq Cs (Aq Ch (Aq Eg Am (Ac 1)) Am) (Aq pT (jF rfl u5) Am))) a)
  (Ap (Bi (i:=4) [1] (Aq Cs (Aq Ch (Aq Eg (Aq Eg Am (Ac 1)) (Ac 1)) (Aq Eg Am (Ac 1))) (jF rfl u5)) a)
  (Ap (Bi (i:=5) [0,3,4] (Aq Cs (Aq Ch (Aq Eg (Ac 3) (Ac 0)) (Ac 4)) (jF rfl u5)) a)
  (Aw (Bp [2,5] (Aq Cs (Aq Ch (Ac 5) (Aq kN (Ac 5) Am)) (Ac 2))))))))
variable(n9:FN P w K p r)(Oq:FL P w K p r)(u6:p "tuple" =none)
def Zl:AH P w K p r f u "places_of" 22 4 ["key","salt","kind","part"] 4 AJ:=λF=>Cp (N:=["key","salt","kind","part","number"]) F λzq m d a o=>(Ap (Bi (i:=4) [0] (Bn m o n9 #v[0]) a)
  (Aw (Bp [1,2,3,4] (Jp Yu rfl u6 ZB6 #v[(sX (N':=["key","salt","kind","part","number","turn"]) zq (gS (xK o5 #v[2])) ⟨rfl,by rfl',rfl,λC s0 H0 fp pn=>⟨(tZ (i:=5)),lO,(Aq Ch (Aq Eg (Ac 5) (Ac 3)) (Bn (uF m) jE Oq #v[4,Aq Ch (Aq Eg Am (Ac 1)) (Ac 5),3]))⟩⟩)]))))
variable(p9:Kb P w K p r)(n8:bU K ["Living"] "part")(l8:bU K ["Living"] "by_salt"){ai1:Tok}(CD:p "KIND" =some (.int 2 ai1))
abbrev Le:List Str:=["self","key"]
def Z':AI P w K p r f u "places" "Living.places" 28 4 5 Le 2 iV:=λF=>Cp (N:= Le) F λzq m d a o=>(Aw (Bp [0,1] (Bn m o p9 #v[1,kJ l8 (Ac 0),jF rfl CD,kJ n8 (Ac 0)])))
def YG:AH P w K p r f u "is_below" 7 1 ["number","limit"] 2 qu:=λF=>Cp (N:=["number","limit"]) F λzq m d a o=>(Aw (Bp [0,1] (fT (FC (mr j6 (Ac 0) b9 o7 sJ)) (ir (IE lQ lR Am (Ac 0) (Ac 1))))))
def Zk:AH P w K p r f u "remainder" 9 1 Pc 2 yJ:=λF=>Cp (N:= Pc) F λzq m d a o=>(Aw (Bp [0,1] (vI (Cf (iN d) (Ac 1) Am (Ce _)) Am (Aq Cs (Ac 0) (Ac 1)))))
variable(l9:JC P w K p r)(k8:Ka P w K p r)(Ol:p "sum" =none)
def WC:AH P w K p r f u "summed" 10 2 ["table","places","modulus"] 3 pf:=λF=>Cp (N:=["table","places","modulus","found"]) F λzq m d a o=>(Ap (wH (i:=3) [0,1] (N':=["table","places","modulus","found","place"]) zq (gS (Ex (Ac 1))) ⟨rfl,by rfl',rfl,λC s0 H0 fp pn=>⟨(tZ (i:=4)),(oG (gB (Bn (uF m) jE l9 #v[4,Eb kT rfl d9 G6 #v[0]]))),(Ca (Ac 0) (Ac 4))⟩⟩ a)
  (Aw (Bp [2,3] (Bn m o k8 #v[Eb (Xk zq) rfl Ol PyProof.Rows.boot_sum #v[3],2]))))
variable(OB:HE P w K p r)(c7:bF P w K p r true 5 1 "places" [("Living",iV)])(f9:bU K ["Living"] "modulus")
def P':AI P w K p r f u "value" "Living.value" 28 1 6 Le 2 mM:=λF=>Cp (N:= Le) F λzq m d a o=>(Aw (Bp [0,1] (Bn m o OB #v[kJ g7 (Ac 0),mX c7 m o (Ac 0) #v[1],kJ f9 (Ac 0)])))
variable(d7:Ky P w K p r)(d8:bF P w K p r true 6 1 "value" [("Living",mM)])(y4:dR K "tuple")
def Zj:AH P w K p r f u "_law_tells" 43 7 Lo 4 uJ:=λF=>Cp (N:=["_law_living","_law_sizes_here","_law_key_here","_law_table","_law_found","_law_value","_law_first","_law_second"]) F λzq m d a o=>(Ap (rA [1,2] (Bn m o d7 #v[2,1]) (wG (i:=6) (j:=7) zq a))
  (Ap (Bi (i:=4) [0,2] (mX c7 m o (Ac 0) #v[2]) a)
  (Ap (Cn [4,6,7] (Fk (fP (mz (gB (mr y4 (Ac 4) b9 u6 ZB6))) (fP (Cf (je d) (Ac 4) (mQ #v[6,7]) (Ce _)) (iu (gB (mr j6 (Ca (Ac 4) Am) b9 o7 sJ))))))
   (Aw (Bp [] iw))
   Cl)
  (Ap (Bi (i:=5) [0,2] (mX d8 m o (Ac 0) #v[2]) a)
  (Ap (Cn [1,3,5,6,7] (Fk (fP (mz (gB (Bn m o i7 #v[5]))) (iu (Cf (je d) (Ac 5) (Aq Cs (Aq Ch (Ca (Ac 3) (Ac 6)) (Ca (Ac 3) (Ac 7))) (Ca (Ac 1) Am)) (Ce _)))))
   (Aw (Bp [] iw))
   Cl)
  (Aw (sY 5)))))))
variable(f6:bU K ["Living"] "by_key")(k7:p "sorted" =none)
def ZZ:AI P w K p r f u "kept" "Living.kept" 28 2 5 ["self"] 1 ud:=λF=>Cp (N:=["self"]) F λzq m d a o=>(Aw (Bp [0] (sX (N':= Le) zq (gS (Ex (VE (VM zq) (VO m) k7 n9 (kJ f6 (Ac 0))))) ⟨rfl,by rfl',rfl,λC s0 H0 fp pn=>⟨(tZ (i:=1)),lO,(mQ #v[1,oS d (kJ f6 (Ac 0)) (Ac 1)])⟩⟩)))
variable(j7:x_9 P w K p r)(m6:JZ P w K p r)(l5:bF P w K p r true 5 0 "kept" [("Living",ud)])
def Zi:AH P w K p r f u "_law_right" 44 8 Lq 4 LD:=λF=>Cp (N:=["_law_living","_law_kept","_law_sizes_here","_law_stranger","_law_table","_law_stamps","_law_key_here","_law_value"]) F λzq m d a o=>(Ap (Cn [0,2] (mz (gB (Bn m o j7 #v[0,2])))
   (Aw (Bp [] iJ))
   Cl)
  (Ap (Bi (i:=4) [0] (tu c6 m o (Ac 0)) a)
  (Ap (Tw [1] jk zq (Ac 1) (lP (i:=6) (j:=7) zq a)
   (Aw (Cn [0,2,4,6,7] (Cf (je d) (Bn m o m6 #v[0,2,6,4]) (Ac 7) (Ce _))
   (Aw (Bp [] iJ))
   Cl)))
  (Ap (Bi (i:=5) [1] (Eb (Yj zq) rfl k7 Q6 #v[(sX (N':=["_law_living","_law_kept","_law_sizes_here","_law_stranger","_law_table","_law_stamps","?6","?7","_law_key_here","_law_value"]) zq (WY (Ac 1)) ⟨rfl,by rfl',rfl,λC s0 H0 fp pn=>⟨(EV (i:=8) (j:=9) (xJ zq) (show List.Nodup [("_law_living" :Str),("_law_kept" :Str),("_law_sizes_here" :Str),("_law_stranger" :Str),("_law_table" :Str),("_law_stamps" :Str),("?6" :Str),("?7" :Str),("_law_key_here" :Str),("_law_value" :Str)] from by decide +kernel)),lO,(mQ #v[Bn (uF m) jE g9 #v[8],8,9])⟩⟩)]) a)
  (Ap (Cn [0,5] (Cf (je d) (tu l5 m o (Ac 0)) (sX (N':=["_law_living","_law_kept","_law_sizes_here","_law_stranger","_law_table","_law_stamps","?6","?7","_law_number","_law_key_here","_law_value"]) zq (gS (Ex (Ac 5))) ⟨rfl,by rfl',rfl,λC s0 H0 fp pn=>⟨(VW (i:=8) (j:=9) (l:=10) (xJ zq) (show List.Nodup [("_law_living" :Str),("_law_kept" :Str),("_law_sizes_here" :Str),("_law_stranger" :Str),("_law_table" :Str),("_law_stamps" :Str),("?6" :Str),("?7" :Str),("_law_number" :Str),("_law_key_here" :Str),("_law_value" :Str)] from by decide +kernel)),lO,(mQ #v[9,10])⟩⟩) (Ce _))
   (Aw (Bp [] iJ))
   Cl)
  (Aw (Bp [0,2,3,4] (fT (jf Ik (Bn m o m6 #v[0,2,3,4]) iw (Ce _)) (ir (jf (iN d) (tu c6 m o (Ac 0)) (Ac 4) (Ce _)))))))))))
def YF:AH P w K p r f u "_law_tied" 45 3 Ls 4 yH:=λF=>Cp (N:=["_law_kept","_law_start","_law_without","_law_sizes_here","_law_found","_law_ties","_law_at","_law_both","_law_there"]) F λzq m d a o=>(Ap (Bi (i:=4) [1] (my #v[1]) a)
  (Ap (wH (i:=5) [0,2,3] (N':=["_law_kept","_law_start","_law_without","_law_sizes_here","_law_found","_law_ties","_law_at","_law_both","_law_there","_law_key_here"]) zq (Ic (Ac 0)) ⟨rfl,by rfl',rfl,λC s0 H0 fp pn=>⟨(tZ (i:=9)),(oG (Cf (je d) (Ac 9) (Ac 2) (Ce _))),(Bn (uF m) jE d7 #v[9,3])⟩⟩ a)
  (Ap (Bi (i:=6) [] Am a)
  (Ap (xo [4,6] 3000 jk (Cf lR (Ac 6) (Eb kT rfl d9 G6 #v[4]) (Ce _))
   (Ap (fS [5] jk zq (Ex (Ac 5)) (ma (i:=7) a)
   (Ap (Bi (i:=8) [4,6,7] (Aq pT (Aq Ch (Ca (Ac 7) Am) (Ca (Ac 7) Am)) (Ca (Ac 4) (Ac 6))) a)
  (Aw (Cn [4,6,7,8] (Fk (vV (Cf vS (Ca (Ac 4) (Ac 6)) (Ac 7) (by with_unfolding_all rfl)) (wK (Cf xN (Ac 8) (Ac 4) (by with_unfolding_all rfl)))))
   (Aw (rB (i:=4) (Ac 8)))
   Cl))))
  (Aw (Bi (i:=6) [6] (Aq Ch (Ac 6) Am) a))))
  (Aw (sY 4))))))
variable(k4:JB P w K p r)(Oo:p "set" =none)
def aac:AH P w K p r f u "_law_ring_right" 46 4 Lu 4 Mc:=λF=>Cp (N:=["_law_ring","_law_kept","_law_key_here","_law_sizes_here","_law_here","_law_first","_law_one","_law_second","_law_both"]) F λzq m d a o=>(Ap (rA [2,3] (Bn m o d7 #v[2,3]) (wG (i:=5) (j:=7) zq a))
  (Ap (Cn [1,2,3,5,7] (Cf xN (Ac 7) (Bn m o k4 #v[1,5,2,3]) (by with_unfolding_all rfl))
   (Aw (Bp [0] (jf Hf (Ac 0) iw (Ce _))))
   Cl)
  (Ap (Cn [0] (Fk (fP (mz (gB (mr q8 (Ac 0) b9 o6 R6))) (iu (Cf (je d) (Xj zq d9 Oo (sX (N':=["_law_ring","_law_kept","_law_key_here","_law_sizes_here","_law_here","_law_first","?6","_law_second","_law_both","_law_one"]) zq (gS (Ex (Ac 0))) ⟨rfl,by rfl',rfl,λC s0 H0 fp pn=>⟨(tZ (i:=9)),lO,(Bn (uF m) jE g9 #v[9])⟩⟩)) (Eb kT rfl d9 G6 #v[0]) (Ce _)))))
   (Aw (Bp [] iJ))
   Cl)
  (Ap (Bi (i:=4) [5] (Ac 5) a)
  (Ap (fS [0] jk zq (Ex (Ac 0)) (ma (i:=6) a)
   (Ap (Cn [1,2,6] (Fk (fP (Cf (zK d) (Ac 6) (Ac 1) (by with_unfolding_all rfl)) (iu (Cf (iN d) (Ac 6) (Ac 2) (Ce _)))))
   (Aw (Bp [] iJ))
   Cl)
  (Ap (Bi (i:=8) [3,6] (Bn m o d7 #v[6,3]) a)
  (Ap (Cn [4,8] (Cf xN (Ac 4) (Ac 8) (by with_unfolding_all rfl))
   (Aw (Bp [] iJ))
   Cl)
  (Aw (Bi (i:=4) [4,8] (Aq pT (Aq Ch (Ca (Ac 8) Am) (Ca (Ac 8) Am)) (Ac 4)) a))))))
  (Aw (Bp [4,7] (jf (iN d) (Ac 4) (Ac 7) (Ce _)))))))))
variable(i6:p "enumerate" =none)
def ZK:AH P w K p r f u "_law_forced" 47 1 L17 3 LO:=λF=>Cp (N:=["_law_ring","_law_kept","_law_modulus","_law_total","_law_k","_law_one"]) F λzq m d a o=>(Ap (Bi (i:=3) [] Am a)
  (Ap (fS [0] jk zq (Hh i6 (Ac 0)) (lP (i:=4) (j:=5) zq a)
   (Aw (Bi (i:=3) [1,3,4,5] (Aq Ch (Ac 3) (Ca (my #v[oS d (Ac 1) (Ac 5),Aq pT Am (oS d (Ac 1) (Ac 5))]) (Aq Cs (Ac 4) Am))) a)))
  (Aw (Bp [2,3] (Aq Cs (Ac 3) (Ac 2))))))
def YE:AH P w K p r f u "steps_to" 26 1 ["start","ways"] 2 tP:=λF=>Cp (N:=["start","ways","steps","waiting","place","key","other"]) F λzq m d a o=>(Ap (Bi (i:=2) [0] (TC (Ac 0) iw) a)
  (Ap (Bi (i:=3) [0] (my #v[0]) a)
  (Ap (xo [3] 3000 jk (Cf EZ (Eb kT rfl d9 G6 #v[3]) Am (Ce _))
   (Ap (TB (i:=4) (j:=3) Am a)
  (Aw (fS [1,4] jk zq (Ex (Ul d (Ac 1) (Ac 4) (my As))) (lP (i:=5) (j:=6) zq a)
   (Aw (Cn [2,6] (Cf (zK d) (Ac 6) (Ac 2) (by with_unfolding_all rfl))
   (Ap (Um (i:=2) [4,5] d (mQ #v[5,4]) (Ac 6))
  (Aw (rB (i:=3) (Ac 6))))
   Cl))))))
  (Aw (sY 2)))))
def aao:AH P w K p r f u "keys_on_the_way" 27 1 ["place","steps"] 2 Mf:=λF=>Cp (N:=["place","steps","found","step"]) F λzq m d a o=>(Ap (Bi (i:=2) [] (my As) a)
  (Ap (Bi (i:=3) [0,1] (oS d (Ac 1) (Ac 0)) a)
  (Ap (xo [3] 3000 jk (Cf Ik (Ac 3) iw (Ce _))
   (Ap (rB (i:=2) (Ca (Ac 3) Am))
  (Aw (Bi (i:=3) [1,3] (oS d (Ac 1) (Ca (Ac 3) Am)) a))))
  (Aw (sY 2)))))
def XY:AH P w K p r f u "ways_at" 25 1 ["places_by_key"] 1 sE:=λF=>Cp (N:=["places_by_key","ways","key","places"]) F λzq m d a o=>(Ap (Bi (i:=1) [] rS a)
  (Ap (fS [0] jk zq (Ex (Ac 0)) (lP (i:=2) (j:=3) zq a)
   (Ap (EF (i:=1) (Ca (Ac 3) Am) (mQ #v[2,Ca (Ac 3) Am]))
  (Aw (EF (i:=1) (Ca (Ac 3) Am) (mQ #v[2,Ca (Ac 3) Am])))))
  (Aw (sY 1))))
variable(y8:II P w K p r)
def aav:AI P w K p r f u "ways_without" "Living.ways_without" 28 5 6 Le 2 qd:=λF=>Cp (N:= Le) F λzq m d a o=>(Aw (Bp [0,1] (Bn m o y8 #v[(sX (N':=["self","key","other"]) zq (Ic (kJ f6 (Ac 0))) ⟨rfl,by rfl',rfl,λC s0 H0 fp pn=>⟨(tZ (i:=2)),(oG (Cf (je d) (Ac 2) (Ac 1) (Ce _))),(mQ #v[2,mX c7 (uF m) jE (Ac 0) #v[2]])⟩⟩)])))
variable(k6:JA P w K p r)(j4:y_0 P w K p r)(d6:bF P w K p r true 6 1 "ways_without" [("Living",qd)])
def ZY:AI P w K p r f u "ring" "Living.ring" 28 6 7 Le 2 ub:=λF=>Cp (N:=["self","key","places","steps"]) F λzq m d a o=>(Ap (Bi (i:=2) [0,1] (mX c7 m o (Ac 0) #v[1]) a)
  (Ap (Bi (i:=3) [0,1,2] (Bn m o k6 #v[Ca (Ac 2) Am,mX d6 m o (Ac 0) #v[1]]) a)
  (Ap (Cn [2,3] (Cf (zK d) (Ca (Ac 2) Am) (Ac 3) (by with_unfolding_all rfl))
   (Aw (Bp [] iw))
   Cl)
  (Aw (Bp [2,3] (Bn m o j4 #v[Ca (Ac 2) Am,3]))))))
variable(j9:Lm P w K p r)(p5:Kx P w K p r)(l4:bF P w K p r true 7 1 "ring" [("Living",ub)])
def aan:AH P w K p r f u "_law_stuck_right" 49 8 La 5 Me:=λF=>Cp (N:=["_law_living","_law_kept","_law_key_here","_law_value","_law_sizes_here","_law_ring"]) F λzq m d a o=>(Ap (Bi (i:=5) [0,2] (mX l4 m o (Ac 0) #v[2]) a)
  (Ap (Cn [1,2,4,5] (Fk (fP (Cf Hf (Ac 5) iw (Ce _)) (iu (mz (gB (Bn m o j9 #v[5,1,2,4]))))))
   (Aw (Bp [] iJ))
   Cl)
  (Aw (Bp [1,3,4,5] (jf (je d) (Bn m o p5 #v[5,1,Ca (Ac 4) Am]) (Ac 3) (Ce _))))))
def aau:AH P w K p r f u "_law_changed_right" 50 1 Li 5 BS:=λF=>Cp (N:=["_law_before","_law_after","_law_ones","_law_others","_law_told","_law_changed"]) F λzq m d a o=>(Ap (wH (i:=5) [0,1] (N':=["_law_before","_law_after","_law_ones","_law_others","_law_told","_law_changed","_law_k","_law_number"]) zq (gS (Hh i6 (Ac 0))) ⟨rfl,by rfl',rfl,λC s0 H0 fp pn=>⟨(EV (i:=6) (j:=7) (xJ zq) (show List.Nodup [("_law_before" :Str),("_law_after" :Str),("_law_ones" :Str),("_law_others" :Str),("_law_told" :Str),("_law_changed" :Str),("_law_k" :Str),("_law_number" :Str)] from by decide +kernel)),(oG (Cf (je d) (Ac 7) (Ca (Ac 1) (Ac 6)) (Ce _))),(Ac 6)⟩⟩ a)
  (Ap (Cn [4,5] (Cf (je d) (Eb kT rfl d9 G6 #v[5]) (Ac 4) (Ce _))
   (Aw (Bp [] iJ))
   Cl)
  (Aw (Bp [2,3,4,5] (fT (jf (iN d) (Ac 4) (Eb (Jm zq) rfl CB PyProof.Rows.boot_min #v[Eb kT rfl d9 G6 #v[2],Eb kT rfl d9 G6 #v[3]]) (Ce _)) (ir (jf (To d) (Ac 5) (my #v[Eb (JS zq) rfl k7 Q6 #v[2],Eb (JS zq) rfl k7 Q6 #v[3]]) (by with_unfolding_all rfl))))))))
def L'(F:bC K "shift" "Living.shift" (Gb 28 9) f u):bI P w K p r true 2 f u ["self","tied","in_first_part","in_second_part"] (kF K 3 yT):=
 nV (n:=3) (N:=["self","tied","in_first_part","in_second_part","numbers","place","number","more"]) F ⋯ ⋯ λzq m d a o=>(Ap (Bi (i:=4) [] (my As) a)
  (Ap (TK jk zq i6 (mV [0] (kJ g7 (Ac 0))) (lP (i:=5) (j:=6) zq a)
   (Ap (mU (i:=7) (mV [0] (vI (Cf lR (Ac 5) (kJ n8 (Ac 0)) (Ce _)) (Ac 2) (Ac 3))) a)
  (Aw (rB (i:=4) (vI (Cf (ET d) (Ac 5) (Ac 1) (by with_unfolding_all rfl)) (Bn m o k8 #v[Aq Ch (Ac 6) (Ac 7),kJ f9 (Ac 0)]) (Ac 6))))))
  (Aw (TR (i:=0) [4] g7 (Ac 4)))))
variable(j2:cQ P w K p r true 2 3 "shift" "Living" yT){i8:Addr}(Ov:zC K p "Stuck" i8)
def ZX(F:bC K "mend" "Living.mend" (Gb 28 8) f u):bI P w K p r true 3 f u ["self","places","lacking","ways"] (kF K 3 yS):=
 nV (n:=3) (N:=["self","places","lacking","ways","first","second"]) F ⋯ ⋯ λzq m d a o=>(Ap (Bi (i:=4) [1,3] (Bn m o k6 #v[Ca (Ac 1) Am,3]) a)
  (Ap (Bi (i:=5) [1,3] (Bn m o k6 #v[Ca (Ac 1) Am,3]) a)
  (Ap (Cn [1,4] (Cf (ET d) (Ca (Ac 1) Am) (Ac 4) (by with_unfolding_all rfl))
   (Aw (Ji Ov (aF.mono m ⋯) rP))
   Cl)
  (Ap (Cn [4,5] (Cf lQ (Eb zJ rfl d9 G6 #v[4]) (Eb zJ rfl d9 G6 #v[5]) (Ce _))
   (Ap (xj (tm [2,4] (oQ (i:=0) j2 m o (Gs (Ac 4) (Gs (Ac 2) (Gs (EY (Ac 2)) ik))))))
  (Aw (mE (mT [4] (Eb zJ rfl d9 G6 #v[4])))))
   Cl)
  (Ap (xj (tm [2,5] (oQ (i:=0) j2 m o (Gs (Ac 5) (Gs (EY (Ac 2)) (Gs (Ac 2) ik))))))
  (Aw (mE (mT [5] (Eb zJ rfl d9 G6 #v[5])))))))))
variable(l6:cQ P w K p r true 3 3 "mend" "Living" yS){l3:Addr}(y7:XC P w K p r "NoValue" "at" l3)
def ZJ(F:bC K "put" "Living.put" (Gb 28 7) f u):bI P w K p r true 7 f u ["self","key","value"] (kF K 2 AO):=
 nV (n:=2) (N:=["self","key","value","places","lacking","changed"]) F ⋯ ⋯ λzq m d a o=>(Ap (mU (i:=3) (mV [0] (mX c7 m (Lk.lend o) (Ac 0) #v[1])) a)
  (Ap (Cn [0,2] (mz (gB (Bn m o l9 #v[2,kJ f9 (Ac 0)])))
   (Aw (Ih [] y7 (aF.mono m ⋯) rP Am))
   Cl)
  (Ap (mU (i:=4) (mV [0] (Aq pT (Ac 2) (mX d8 m (Lk.lend o) (Ac 0) #v[1]))) a)
  (Ap (Bi (i:=5) [] Am a)
  (Ap (Cn [4] (Cf (je d) (Ac 4) Am (Ce _))
   (Aw (mU (i:=5) (tm [1,3,4] (oQ (i:=0) l6 m o (Gs (Ac 3) (Gs (Ac 4) (TX [0] (mX d6 m (Lk.lend o) (Ac 0) #v[1]) ik))))) a))
   Cl)
  (Ap (TV (i:=0) d f6 (Ac 2) (Ac 1))
  (Aw (mE (mT [5] (Ac 5))))))))))
variable(m9:cQ P w K p r true 7 2 "put" "Living" AO)(u4:p "Stuck" =some (.ref i8))(OA:bL K i8 Pb)
abbrev Lj:List Str:=["_law_living","_law_key_here","_law_value"]
def XX(F:bC K "_law_put" "_law_put" (Bg 48) f u):bI P w K p r true 8 f u Lj (kF K 2 zG):=
 nV (n:=2) (N:=["_law_living","_law_key_here","_law_value","_law_found"]) F ⋯ ⋯ λzq m d a o=>(Ap (Ua a rfl rfl (λzc W Ph lkB=>(Aw (mU (i:=3) (tm [1,2] (oQ (i:=0) m9 (VN m) lkB (Gs (Ac 1) (Gs (Ac 2) ik)))) a))) (iy.bare u4 OA (λe=>(Aw (Bi (i:=3) [] lU a))) .nil))
  (Aw (mE (mT [3] (Ac 3)))))
variable(j5:y_1 P w K p r)(i9:t_3 P w K p r)(x9:pD P w K p r true "_law_put" 8 2 Lj zG)
def Y'(F:bC K "_law_put_right" "_law_put_right" (Bg 51) f u):bI P w K p r true 9 f u La (kU K 3 AY):=
 EC (n:=3) (N:=["_law_living","_law_kept","_law_key_here","_law_value","_law_sizes_here","_law_before","_law_ones","_law_others","_law_other","_law_found","_law_after","_law_first","_law_second"]) F ⋯ ⋯ λzq m d a o=>(Ap (mU (i:=5) (mV [0] (tu c6 m (Lk.lend o) (Ac 0))) a)
  (Ap (rA [2,4] (Bn m o d7 #v[2,4]) (wG (i:=11) (j:=12) zq a))
  (Ap (mU (i:=6) (mV [1] (Bn m (Lk.lend o) k4 #v[1,11,2,4])) a)
  (Ap (mU (i:=7) (mV [1] (Bn m (Lk.lend o) k4 #v[1,12,2,4])) a)
  (Ap (Bi (i:=8) [3,4,5,11,12] (jf (je d) (Aq Cs (Aq Ch (Ca (Ac 5) (Ac 11)) (Ca (Ac 5) (Ac 12))) (Ca (Ac 4) Am)) (Ac 3) (Ce _)) a)
  (Ap (mU (i:=9) (tm [2,3] (VJ (i:=0) m o x9 (Gs (Ac 2) (Gs (Ac 3) ik)))) a)
  (Ap (mU (i:=10) (mV [0] (tu c6 m (Lk.lend o) (Ac 0))) a)
  (Ap (Cn [6,8,12] (Fk (vV (Cf vS (Ac 12) (Ac 6) (by with_unfolding_all rfl)) (wK (gB (Ac 8)))))
   (Aw (mE (mV [0,1] (fT (jf (iN d) (Ac 9) lU (Ce _)) (fT (jf (iN d) (Ac 10) (Ac 5) (Ce _)) (ir (Bn m (Lk.lend o) j5 #v[0,1,2,3,4])))))))
   Cl)
  (Ap (Cn [9] (mz (gB (Bn m o i7 #v[9])))
   (Aw (mE (mT [] iJ)))
   Cl)
  (Ap (Tq (i:=1) d (Ac 3) (Ac 2))
  (Ap (Cn [8] (mz (gB (Ac 8)))
   (Aw (mE (mT [5,9,10] (fT (jf (iN d) (Ac 9) Am (Ce _)) (ir (jf (iN d) (Ac 10) (Ac 5) (Ce _)))))))
   Cl)
  (Aw (mE (mT [5,6,7,9,10] (Bn m o i9 #v[5,10,6,7,9])))))))))))))))
variable{n5:Addr}(z6:zC K p "NoSuch" n5)
def ZW(F:bC K "drop" "Living.drop" (Gb 28 10) f u):bI P w K p r true 4 f u Le (kF K 1 yR):=
 nV (n:=1) (N:= Le) F ⋯ ⋯ λzq m d a o=>(Ap (Us [1] (Bn m o n9 #v[1]))
  (Ap (Cn [0,1] (Cf (zK d) (Ac 1) (kJ f6 (Ac 0)) (by with_unfolding_all rfl))
   (Aw (Ji z6 (aF.mono m ⋯) rP))
   Cl)
  (Aw (TU (i:=0) f6 (Ac 1)))))
variable(k9:lh P w K p r true "_law_put_right" 9 3 La AY)(l7:cQ P w K p r true 4 1 "drop" "Living" yR)
noncomputable abbrev Lb:List Str:=["_law_living","_law_kept","_law_deed_here","_law_key_here","_law_value","_law_sizes_here"]
def aab(F:bC K "_law_deed_right" "_law_deed_right" (Bg 52) f u):bI P w K p r true 10 f u Lb (kU K 4 AZ):=
 EC (n:=4) (N:=["_law_living","_law_kept","_law_deed_here","_law_key_here","_law_value","_law_sizes_here","_law_before","_law_one","_law_number"]) F ⋯ ⋯ λzq m d a o=>(Ap (Cn [1,2,3] (Fk (fP (Cf (iN d) (Ac 2) Am (Ce _)) (iu (Cf (zK d) (Ac 3) (Ac 1) (by with_unfolding_all rfl)))))
   (Aw (EH (EI (DJ (tm [3,4,5] (Jb (i:=0) (j:=1) m o k9 (Gs (Ac 3) (Gs (Ac 4) (Gs (Ac 5) ik)))))))
   (Aw (mE (mT [] iJ)))
   Cl))
   (Ap (mU (i:=6) (mV [0] (tu c6 m (Lk.lend o) (Ac 0))) a)
  (Ap (xj (tm [3] (oQ (i:=0) l7 m o (Gs (Ac 3) ik))))
  (Ap (Tp (i:=1) (Ac 3))
  (Aw (Cn [0,6] (Cf (je d) (tu c6 m o (Ac 0)) (Ac 6) (Ce _))
   (Aw (mE (mT [] iJ)))
   Cl))))))
  (Ap (Vz (j:=1) jk zq (lP (i:=7) (j:=8) zq a)
   (Aw (Cn [0,7,8] (Cf (je d) (mX d8 m o (Ac 0) #v[7]) (Ac 8) (Ce _))
   (Aw (mE (mT [] iJ)))
   Cl)))
  (Aw (mE (mT [] iJ)))))
def aam(F:bC K "__init__" "Living.__init__" (Gb 28 0) f u){CI:Addr}(hCI:ClsAt K "Living" CI):bI P w K p r true 1 f u ["self","part","salt","modulus"] (zX K CI "Living" 3 yy):=
 Qy (n:=3) (cn:= "Living") (N:=["self","part","salt","modulus"]) F hCI ⋯ ⋯ λzq m d a o=>(Ap (rQ (i:=0) [1] n8 (Ac 1))
  (Ap (rQ (i:=0) [2] l8 (Ac 2))
  (Ap (rQ (i:=0) [3] f9 (Ac 3))
  (Ap (rQ (i:=0) [1] g7 (RC #v[Am] (Aq Eg (jF rfl CD) (Ac 1))))
  (Aw (TQ (i:=0) f6 rS))))))
variable(q9:Kf P w K p r)(t8:JF P w K p r)(t7:JD P w K p r)(p6:JY P w K p r)(j8:lh P w K p r true "_law_deed_right" 10 4 Lb AZ)(y6:sP P w K p r true "Living" 1 3 yy)
def Ra:AH P w K p r f u "law" 53 11 ["_law_script"] 1 DF:=λF=>Cp (N:=["_law_script","_law_sizes_here","_law_living","_law_kept","_law_k","_law_deed_here","_law_key_here","_law_value"]) F λzq m d a o=>(Ap (Bi (i:=1) [0] (Bn m o q9 #v[0,Am]) a)
  (Ap (Bi (i:=2) [1] (TN m o y6 #v[Ca (Ac 1) Am,Ca (Ac 1) Am,Ca (Ac 1) Am]) a)
  (Ap (Bi (i:=3) [] rS a)
  (Ap (fS [0] jk zq (xK o5 #v[Bn m o t8 #v[0,Am,Am]]) (ma (i:=4) a)
   (Ap (TL (mV [3] (Bn m (Lk.lend o) t7 #v[0,Am,4,3,1])) (GS zq (lZ (i:=5) a (lZ (i:=6) a (lZ (i:=7) a EN)))))
  (Aw (EH (EI (DJ (tm [1,5,6,7] (Jb (i:=2) (j:=3) m o j8 (Gs (Ac 5) (Gs (Ac 6) (Gs (Ac 7) (Gs (Ac 1) ik))))))))
   (Aw (Bp [] iJ))
   Cl))))
  (Aw (Bp [1,2,3] (Bn m o p6 #v[2,3,1,lU])))))))
abbrev jo:Stmt:=Bg 53
end
def ee_0{l:PySem.W.OpenLaw}{w:World}{K:Frag}{h:Heap}{p:AB}{fa:Addr}(X:K.In h)(G:h.Ns mainGlobals p)(hfa:p "law" =some (.ref fa))
  {d5 r6 l3 i8 n5:Addr}
  {Ob:Addr} {aj8 aj4:Option Addr} {aj7:Array (Option Value)} {aj6 ai4 ai9 aj0 Oj aj1:Value}
  {ab4 ah0 t9 ag5 ah3:Tok}
  (c8:nsIn K mainGlobals "Living" =some (some (.ref d5)))
  (c9:gQ K d5)
  (af8:makesIn K d5=true)
  (ae7:keepIn K (.ref d5)=true)
  (y3:aY K d5 "listed")
  (ab2:aY K d5 "part")
  (u9:aY K d5 "by_salt")
  (v6:aY K d5 "modulus")
  (y9:aY K d5 "by_key")
  (w1:aL K "_law_mix" (Bg 30))
  (w2:aL K "_law_cell" (Bg 31))
  (w3:aL K "_law_sizes" (Bg 38))
  (w4:aL K "_law_many" (Bg 39))
  (w5:aL K "_law_raw" (Bg 37))
  (w6:aL K "_law_text" (Bg 35))
  (w7:aL K "_law_key" (Bg 36))
  (w8:aL K "_law_deed" (Bg 40))
  (w9:aL K "_law_whole" (Bg 41))
  (w10:bG K d5 "table" "Living.table" (Gb 28 3))
  (w11:aL K "_law_table_right" (Bg 42))
  (w12:aL K "_law_stamp" (Bg 32))
  (w13:aL K "_law_mixed" (Bg 33))
  (w14:aL K "_law_places" (Bg 34))
  (w15:aL K "is_key_text" (Bg 16))
  (w16:aL K "is_key" (Bg 17))
  (w17:aL K "worth" (Bg 18))
  (w18:aL K "stamp" (Bg 19))
  (w19:aL K "mixed" (Bg 20))
  (w20:aL K "places_of" (Bg 22))
  (w21:bG K d5 "places" "Living.places" (Gb 28 4))
  (w22:aL K "is_below" (Bg 7))
  (w23:aL K "remainder" (Bg 9))
  (w24:aL K "summed" (Bg 10))
  (w25:bG K d5 "value" "Living.value" (Gb 28 1))
  (w26:aL K "_law_tells" (Bg 43))
  (w27:bG K d5 "kept" "Living.kept" (Gb 28 2))
  (w28:aL K "_law_right" (Bg 44))
  (w29:aL K "_law_tied" (Bg 45))
  (w30:aL K "_law_ring_right" (Bg 46))
  (w31:aL K "_law_forced" (Bg 47))
  (w32:aL K "steps_to" (Bg 26))
  (w33:aL K "keys_on_the_way" (Bg 27))
  (w34:aL K "ways_at" (Bg 25))
  (w35:bG K d5 "ways_without" "Living.ways_without" (Gb 28 5))
  (w36:bG K d5 "ring" "Living.ring" (Gb 28 6))
  (w37:aL K "_law_stuck_right" (Bg 49))
  (w38:aL K "_law_changed_right" (Bg 50))
  (w39:bG K d5 "shift" "Living.shift" (Gb 28 9))
  (w40:bG K d5 "mend" "Living.mend" (Gb 28 8))
  (w41:bG K d5 "put" "Living.put" (Gb 28 7))
  (w42:aL K "_law_put" (Bg 48))
  (w43:aL K "_law_put_right" (Bg 51))
  (w44:bG K d5 "drop" "Living.drop" (Gb 28 10))
  (w45:aL K "_law_deed_right" (Bg 52))
  (w46:bG K d5 "__init__" "Living.__init__" (Gb 28 0))
  (a47:nsIn K mainGlobals "law" =some (some (.ref Ob))) (l47:K.lookup Ob=some ⟨aj6,aj8,.func (fnOf "law" "law" (iR jo) (Ft jo) (Cc jo) .none ai4 ai9 aj0 aj4 Oj aj1),aj7⟩) (c47:codeIn K Oj "law" =true) (k47:keepIn K (.ref Ob)=true)
  (aj5:nsIn K mainGlobals "len" =some none)
  (ai8:nsIn K mainGlobals "max" =some none)
  (aj3:nsIn K mainGlobals "min" =some none)
  (ah2:nsIn K mainGlobals "range" =some none)
  (ah9:nsIn K mainGlobals "list" =some none)
  (ab8:nsIn K mainGlobals "isinstance" =some none)
  (ai5:nsIn K mainGlobals "int" =some none)
  (ai2:nsIn K mainGlobals "bool" =some none)
  (ai3:nsIn K mainGlobals "all" =some none)
  (aj2:nsIn K mainGlobals "str" =some none)
  (ah4:nsIn K mainGlobals "tuple" =some none)
  (ai6:nsIn K mainGlobals "sum" =some none)
  (ag9:nsIn K mainGlobals "sorted" =some none)
  (ai7:nsIn K mainGlobals "set" =some none)
  (ac9:nsIn K mainGlobals "enumerate" =some none)
  (ae3:kitOne K (.type "NoneType") (.type "int")=some false)
  (ag3:kitOne K (.type "bool") (.type "int")=some true)
  (af3:kitOne K (.type "int") (.type "int")=some true)
  (ae9:kitOne K (.type "str") (.type "int")=some false)
  (af1:kitOne K (.type "list") (.type "int")=some false)
  (ae5:kitOne K (.type "tuple") (.type "int")=some false)
  (ae0:kitOne K (.type "NoneType") (.type "bool")=some false)
  (af9:kitOne K (.type "bool") (.type "bool")=some true)
  (ad6:kitOne K (.type "int") (.type "bool")=some false)
  (ad3:kitOne K (.type "str") (.type "bool")=some false)
  (ad4:kitOne K (.type "list") (.type "bool")=some false)
  (ae2:kitOne K (.type "tuple") (.type "bool")=some false)
  (ae1:kitOne K (.type "NoneType") (.type "list")=some false)
  (af0:kitOne K (.type "bool") (.type "list")=some false)
  (ad1:kitOne K (.type "int") (.type "list")=some false)
  (ad9:kitOne K (.type "str") (.type "list")=some false)
  (ad8:kitOne K (.type "list") (.type "list")=some true)
  (ad2:kitOne K (.type "tuple") (.type "list")=some false)
  (af7:kitOne K (.type "NoneType") (.type "str")=some false)
  (ag2:kitOne K (.type "bool") (.type "str")=some false)
  (af5:kitOne K (.type "int") (.type "str")=some false)
  (af6:kitOne K (.type "str") (.type "str")=some true)
  (ae6:kitOne K (.type "list") (.type "str")=some false)
  (ae4:kitOne K (.type "tuple") (.type "str")=some false)
  (ac5:kitOne K (.type "NoneType") (.type "tuple")=some false)
  (ad5:kitOne K (.type "bool") (.type "tuple")=some false)
  (ac8:kitOne K (.type "int") (.type "tuple")=some false)
  (ac6:kitOne K (.type "str") (.type "tuple")=some false)
  (ac4:kitOne K (.type "list") (.type "tuple")=some false)
  (ac7:kitOne K (.type "tuple") (.type "tuple")=some true)
  (ab9:nsIn K mainGlobals "MOST_SIGNS" =some (some (.int 11 ab4)))
  (ah5:nsIn K mainGlobals "SIGNS" =some (some (.str "abcdefghijklmnopqrstuvwxyz0123456789-_ " ah0)))
  (v5:nsIn K mainGlobals "GREATEST_NUMBER" =some (some (.int 999999999999999999 t9)))
  (ah1:nsIn K mainGlobals "PRIME" =some (some (.int 2305843009213693951 ag5)))
  (ai0:nsIn K mainGlobals "KIND" =some (some (.int 2 ah3)))
  (Oy:nsIn K mainGlobals "NoKey" =some (some (.ref r6)))
  (u3:nsIn K mainGlobals "NoValue" =some (some (.ref l3)))
  (Ox:nsIn K mainGlobals "Stuck" =some (some (.ref i8)))
  (y0:nsIn K mainGlobals "NoSuch" =some (some (.ref n5)))
  (ag0:XB K r6 "NoKey.__init__" "at" xY)
  (aa2:exmOne K (.ref r6) (.ref i8)=some false)
  (ad0:XB K l3 "NoValue.__init__" "at" Nf)
  (y1:exmOne K (.ref l3) (.ref i8)=some false)
  (ag7:OW K i8)
  (aa4:exmOne K (.ref i8) (.ref i8)=some true)
  (af4:OW K n5)
  (aa0:exmOne K (.ref n5) (.ref i8)=some false):
  ∃u:FuncData,(∀(s:Shared) (v:Value),BindsTo s u ⟨[v],[]⟩ [("_law_script",v)])/\∀r:Heap,K.In r->r.Ns mainGlobals p->pE l.prog w K p r MW 11 fa u ["_law_script"] (oF K):=by
 have af2:=mg_of X G c8;have g7:bU K ["Living"] "listed" :=(.one c8 c9 y3 .nil);have n8:bU K ["Living"] "part" :=(.one c8 c9 ab2 .nil);have l8:bU K ["Living"] "by_salt" :=(.one c8 c9 u9 .nil);have f9:bU K ["Living"] "modulus" :=(.one c8 c9 v6 .nil);have f6:bU K ["Living"] "by_key" :=(.one c8 c9 y9 .nil);have ag4:=mg_of X G Oy;have ad7:=mg_of X G u3;have u4:=mg_of X G Ox;have ae8:=mg_of X G y0;have Ov:zC K p "Stuck" i8:=EL Ox u4 ag7;have z6:zC K p "NoSuch" n5:=EL y0 ae8 af4;have OA:bL K i8 Pb:=(.one Oy aa2 (.one y0 aa0 (.one u3 y1 (.one Ox aa4 .nil))));have e:=hfa.symm.trans (mg_of X G a47);cases e;have d9:=M8 X G aj5;have zA:=M8 X G ai8;have CB:=M8 X G aj3;have o5:=M8 X G ah2;have o6:=M8 X G ah9;have b9:=M8 X G ab8;have uY:=M8 X G ai5;have o7:=M8 X G ai2;have Om:=M8 X G ai3;have CC:=M8 X G aj2;have u6:=M8 X G ah4;have Ol:=M8 X G ai6;have k7:=M8 X G ag9;have Oo:=M8 X G ai7;have i6:=M8 X G ac9;have n6:dR K "int" :=⟨ae3,ag3,af3,ae9,af1,ae5⟩;have j6:dR K "bool" :=⟨ae0,af9,ad6,ad3,ad4,ae2⟩;have q8:dR K "list" :=⟨ae1,af0,ad1,ad9,ad8,ad2⟩;have v7:dR K "str" :=⟨af7,ag2,af5,af6,ae6,ae4⟩;have y4:dR K "tuple" :=⟨ac5,ad5,ac8,ac6,ac4,ac7⟩;have o9:=mg_of X G ab9;have u7:=mg_of X G ah5;have j3:=mg_of X G v5;have u5:=mg_of X G ah1;have CD:=mg_of X G ai0;have F47:=vW (st:=jo) l47 c47 k47;refine⟨fnOf "law" "law" (iR jo) (Ft jo) (Cc jo) .none ai4 ai9 aj0 aj4 Oj aj1,λs v=> .of_eq rfl,λr _ _=> ?_⟩
 let yP:=iD l.prog w K p r true
 let yO:=bF l.prog w K p r true
 let lMk:=aay l.prog w K p r true
 let lXC:=XC l.prog w K p r
 let lT:=λt:Program->World->Frag->(AB)->Heap->Prop=>t l.prog w K p r
 have Ou:lXC "NoKey" "at" r6:=DK Oy ag4 ag0 λF y z=>⟨ZM F y z,gM F⟩;have y7:lXC "NoValue" "at" l3:=DK u3 ad7 ad0 λF y z=>⟨U' F y z,gM F⟩;have g8:lT IL:=Dp X G w1 λF=>⟨Yb F,gM F⟩;have f8:lT JG:=Dp X G w2 λF=>⟨YK g8 d9 F,gM F⟩;have q9:lT Kf:=Dp X G w3 λF=>⟨Zp g8 f8 F,gM F⟩;have t8:lT JF:=Dp X G w4 λF=>⟨YJ d9 f8 zA CB F,uX F⟩;have x0:lT IK:=Dp X G w5 λF=>⟨Ya g8 d9 f8 F,gM F⟩;have r9:lT JE:=Dp X G w6 λF=>⟨YI o5 F,nz F⟩;have z7:lT IJ:=Dp X G w7 λF=>⟨XZ r9 F,nz F⟩;have t7:lT JD:=Dp X G w8 λF=>⟨YH g8 d9 f8 zA x0 z7 o6 F,ME F⟩;have i7:lT Ke:=Dp X G w9 λF=>⟨Zo b9 uY o7 n6 j6 F,nz F⟩;have z9:yP 1 0 "table" "Living" gN:=lu c8 c9 w10 λF=>⟨R' o6 g7 F,nz F⟩;have c6:yO 1 0 "table" [("Living",gN)]:=(yL z9 yM);have j7:lT x_9:=Dp X G w11 λF=>⟨aap d9 o6 b9 i7 c6 q8 F,gM F⟩;have g9:lT Kd:=Dp X G w12 λF=>⟨Zn b9 uY n6 F,nz F⟩;have m7:lT Kc:=Dp X G w13 λF=>⟨Zm F,uX F⟩;have d7:lT Ky:=Dp X G w14 λF=>⟨ZL g9 m7 F,gM F⟩;have m8:lT KP:=Dp X G w15 λF=>⟨x' d9 Om o9 u7 F,nz F⟩;have Oz:lT HF:=Dp X G w16 λF=>⟨WE b9 uY o7 n6 j6 m8 CC v7 j3 F,nz F⟩;have Ot:lT FP:=Dp X G w17 λF=>⟨UU u7 F,nz F⟩;have n9:lT FN:=Dp X G w18 λF=>⟨UT b9 CC v7 Oz Ot Ou F,nz F⟩;have Oq:lT FL:=Dp X G w19 λF=>⟨US u5 F,uX F⟩;have p9:lT Kb:=Dp X G w20 λF=>⟨Zl o5 n9 Oq u6 F,ue F⟩;have x8:yP 5 1 "places" "Living" iV:=lu c8 c9 w21 λF=>⟨Z' p9 n8 l8 CD F,gM F⟩;have l9:lT JC:=Dp X G w22 λF=>⟨YG b9 o7 j6 F,gM F⟩;have k8:lT Ka:=Dp X G w23 λF=>⟨Zk F,gM F⟩;have OB:lT HE:=Dp X G w24 λF=>⟨WC d9 l9 k8 Ol F,uX F⟩;have c7:yO 5 1 "places" [("Living",iV)]:=(yL x8 yM);have z8:yP 6 1 "value" "Living" mM:=lu c8 c9 w25 λF=>⟨P' g7 OB c7 f9 F,gM F⟩;have d8:yO 6 1 "value" [("Living",mM)]:=(yL z8 yM);have m6:lT JZ:=Dp X G w26 λF=>⟨Zj b9 o7 j6 i7 u6 c7 d7 d8 y4 F,ue F⟩;have ab3:yP 5 0 "kept" "Living" ud:=lu c8 c9 w27 λF=>⟨ZZ n9 f6 k7 F,nz F⟩;have l5:yO 5 0 "kept" [("Living",ud)]:=(yL ab3 yM);have p6:lT JY:=Dp X G w28 λF=>⟨Zi c6 g9 k7 j7 m6 l5 F,ue F⟩;have k4:lT JB:=Dp X G w29 λF=>⟨YF d9 d7 F,ue F⟩;have j9:lT Lm:=Dp X G w30 λF=>⟨aac d9 o6 b9 q8 g9 d7 k4 Oo F,ue F⟩;have p5:lT Kx:=Dp X G w31 λF=>⟨ZK i6 F,uX F⟩;have k6:lT JA:=Dp X G w32 λF=>⟨YE d9 F,gM F⟩;have j4:lT y_0:=Dp X G w33 λF=>⟨aao F,gM F⟩;have y8:lT II:=Dp X G w34 λF=>⟨XY F,nz F⟩;have o8:yP 6 1 "ways_without" "Living" qd:=lu c8 c9 w35 λF=>⟨aav c7 f6 y8 F,gM F⟩;have d6:yO 6 1 "ways_without" [("Living",qd)]:=(yL o8 yM);have aa3:yP 7 1 "ring" "Living" ub:=lu c8 c9 w36 λF=>⟨ZY c7 k6 j4 d6 F,gM F⟩;have l4:yO 7 1 "ring" [("Living",ub)]:=(yL aa3 yM);have j5:lT y_1:=Dp X G w37 λF=>⟨aan j9 p5 l4 F,ME F⟩;have i9:lT t_3:=Dp X G w38 λF=>⟨aau d9 CB k7 i6 F,ME F⟩;have j2:cQ l.prog w K p r true 2 3 "shift" "Living" yT:=qV c8 c9 w39 λF=>⟨L' g7 n8 k8 f9 i6 F,ue F⟩;have l6:cQ l.prog w K p r true 3 3 "mend" "Living" yS:=qV c8 c9 w40 λF=>⟨ZX d9 k6 j2 Ov F,ue F⟩;have m9:cQ l.prog w K p r true 7 2 "put" "Living" AO:=qV c8 c9 w41 λF=>⟨ZJ l9 c7 f9 d8 f6 d6 l6 y7 F,uX F⟩;have x9:pD l.prog w K p r true "_law_put" 8 2 Lj zG:=TJ X G w42 λF=>⟨XX m9 u4 OA F,uX F⟩;have k9:lh l.prog w K p r true "_law_put_right" 9 3 La AY:=HU X G w43 λF=>⟨Y' i7 c6 d7 k4 j5 i9 x9 F,ME F⟩;have l7:cQ l.prog w K p r true 4 1 "drop" "Living" yR:=qV c8 c9 w44 λF=>⟨ZW n9 f6 z6 F,gM F⟩;have j8:lh l.prog w K p r true "_law_deed_right" 10 4 Lb AZ:=HU X G w45 λF=>⟨aab c6 d8 k9 l7 F,bn6 F⟩;have y6:sP l.prog w K p r true "Living" 1 3 yy:=Rp c8 af2 af8 ae7 w46 λF=>⟨aam g7 n8 l8 CD f9 f6 F c8,ue F⟩;exact RD (Ra (P:=l.prog) (w:=w) (r:=r) o5 q9 t8 t7 p6 j8 y6 F47) UW
end My


open PySem PySem.W PyProof.Rows
set_option maxRecDepth 100000 in
set_option maxHeartbeats 0 in
theorem PySem.Challenge.cw_lodge_k86_whole_living_holds : PySem.Challenge.rw_lodge_k86_whole_living.Holds := by
 w_on; o_law; k_head; (case hw => w_witness2)
 k_fill
 refine L3.eh_0 (l := PySem.Challenge.rw_lodge_k86_whole_living) (x := "_law_script") (k := 11) rfl rfl ⟨rfl, by decide, by decide⟩ (λw h Y => PySem.W.kIn_of Y) ?F
 case F =>
  intro w mg fa h KX G hmg
  refine' My.ee_0 KX G hmg ?c1 ?c2 ?c3 ?c4 ?c5 ?c6 ?c7 ?c8 ?c9 ?c10 ?c11 ?c12 ?c13 ?c14 ?c15 ?c16 ?c17 ?c18 ?c19 ?c20 ?c21 ?c22 ?c23 ?c24 ?c25 ?c26 ?c27 ?c28 ?c29 ?c30 ?c31 ?c32 ?c33 ?c34 ?c35 ?c36 ?c37 ?c38 ?c39 ?c40 ?c41 ?c42 ?c43 ?c44 ?c45 ?c46 ?c47 ?c48 ?c49 ?c50 ?c51 ?c52 ?c53 ?c54 ?c55 ?c56 ?c57 ?c58 ?c59 ?c60 ?c61 ?c62 ?c63 ?c64 ?c65 ?c66 ?c67 ?c68 ?c69 ?c70 ?c71 ?c72 ?c73 ?c74 ?c75 ?c76 ?c77 ?c78 ?c79 ?c80 ?c81 ?c82 ?c83 ?c84 ?c85 ?c86 ?c87 ?c88 ?c89 ?c90 ?c91 ?c92 ?c93 ?c94 ?c95 ?c96 ?c97 ?c98 ?c99 ?c100 ?c101 ?c102 ?c103 ?c104 ?c105 ?c106 ?c107 ?c108 ?c109 ?c110 ?c111 ?c112 ?c113 ?c114 ?c115 ?c116 ?c117 ?c118 ?c119 ?c120 ?c121
  (case c1|c3|c4|c56|c57|c58|c59|c60|c61|c62|c63|c64|c65|c66|c67|c68|c69|c70|c71|c72|c73|c74|c105|c106|c107|c108|c109|c110|c111|c112|c113=>k_is)
  (case c2=>(refine' L2.gQ.mk ?z0 ?z1 ?z2 ?z3;(case z0=>k_is);(case z1=>k_is);(case z2=>k_is);(case z3=>k_is)))
  (case c5|c6|c7|c8|c9=>(refine' L3.aY.mk ?z0;(case z0=>k_is)))
  (case c10|c11|c12|c13|c14|c15|c16|c17|c18|c20|c21|c22|c23|c24|c25|c26|c27|c28|c29|c31|c32|c33|c35|c37|c38|c39|c40|c41|c42|c43|c46|c47|c51|c52|c54=>(refine' L3.aL.mk ?a ?l ?c ?k;(case a=>k_is);(case l=>k_is);(case c=>k_is);(case k=>k_is)))
  (case c19|c30|c34|c36|c44|c45|c48|c49|c50|c53|c55=>(refine' L3.bG.mk ?a ?l ?c ?k ?i;(case a=>k_is);(case l=>k_is);(case c=>k_is);(case k=>k_is);(case i=>k_is)))
  (case c75|c76|c77|c78|c79|c80|c81|c82|c83|c84|c85|c86|c87|c88|c89|c90|c91|c92|c93|c94|c95|c96|c97|c98|c99|c100|c101|c102|c103|c104=>kit_is)
  (case c114|c116=>(refine' L3.XB.mk ?z0 ?z1 ?z2 ?z3 ?z4 ?z5 ?z6 ?z7 ?z8 ?z9 ?z10 ?z11 ?z12 ?z13 ?z14;(case z0=>k_is);(case z1=>k_is);(case z2=>k_is);(case z3=>rfl);(case z4=>rfl);(case z5=>k_is);(case z6=>k_is);(case z7=>rfl);(case z8=>rfl);(case z9=>k_is);(case z10=>k_is);(case z11=>k_is);(case z12=>k_is);(case z13=>k_is);(case z14=>k_is)))
  (case c115|c117|c119|c121=>kts_exm)
  (case c118|c120=>(refine' L3.XB0 ?z0 ?z1 ?z2 ?z3 ?z4 ?z5 ?z6 ?z7 ?z8;(case z0=>k_is);(case z1=>k_is);(case z2=>rfl);(case z3=>rfl);(case z4=>k_is);(case z5=>k_is);(case z6=>rfl);(case z7=>rfl);(case z8=>k_is)))

end
