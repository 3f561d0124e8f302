import PyProof.Rows.All
import Wide.All
import OpenK.AllK
import Wide.FinOn
import Lean
import PyProof.EqAt
import PyProof.EqKinds
import PyProof.TupleCall
import PySem.Challenge.RW_lodge_k61_buckets_by_rule
set_option Elab.async false
set_option linter.all false
set_option maxRecDepth 100000
set_option genSizeOf false
def A3:=@List.length_map
def A4:=@PySem.wpAny_bind
def A5:=@PySem.Heap.get?_push_of_some
def A6:=@PySem.Heap.lt_size
def A7:=@Bool.false_ne_true
def A8:=@Nat.le_refl
def A9:=@List.mem_append_right
def B1:=@List.map_cons
def B2:=@List.getElem?_eq_some_iff
def B3:=@List.getElem?_map
def B4:=@Nat.ne_of_lt
def B5:=@List.length_append
def B6:=@List.getElem?_eq_getElem
def B7:=@List.getElem?_append_left
def B8:=@PySem.Heap.get?_push_size
def B9:=@Nat.lt_of_lt_of_le
def C1:=@List.size_toArray
def C4:=@List.mem_cons
def C5:=@PySem.wpAny_pure
def C6:=@List.length_cons
def C7:=@Nat.le_trans
def C8:=@List.getElem?_set_ne
def C9:=@Bool.and_eq_true
def D0:=@List.getElem?_append_right
def D1:=@PySem.wpAny_mono
def D2:=@PySem.sizeLine_eq
def D3:=@List.mem_cons_of_mem
def D4:=@of_decide_eq_true
def D5:=@List.getElem?_eq_none
def D6:=@PyProof.Rows.callWith_type1
def D7:=@List.append_nil
def D8:=@Bool.false_eq_true
def D9:=@PySem.boot_len
def E4:=@List.getElem?_range
def E7:=@List.map_congr_left
def E8:=@List.getElem?_replicate
def E9:=@Nat.lt_irrefl
def F0:=@List.getD_eq_getElem?_getD
def F1:=@List.map_append
def F2:=@List.all_eq_true
def F3:=@PySem.Heap.get?_update_other
def F4:=@List.mem_map
def F5:=@decide_eq_true
def F6:=@List.getElem?_set_self
def F7:=@Nat.zero_le
def F8:=@decide_eq_false
def F9:=@List.length_set
def G6:=@List.length_replicate
def J6:=@List.map_map
def J7:=@List.mem_append
def J8:=@List.nodup_cons
def J9:=@List.lookup_cons
def K0:=@List.mem_range
def K1:=@List.length_range
def K2:=@List.mem_cons_self
def K3:=@PySem.mem_of_lookup
def K4:=@Option.some.inj
def K5:=@congrArg
def K6:=@PySem.Calls.spliced_cons
def K7:=@List.mem_singleton
def K8:=@Int.toNat_natCast
def K9:=@PySem.Heap.size_push
def L4:=@Option.map_some
def L5:=@Array.length_toList
def L6:=@beq_iff_eq
def L7:=@List.replicate_succ
def L8:=@List.length_singleton
def L9:=@if_false
def M0:=@List.mem_filter
def M3:=@List.map_nil
def M4:=@PySem.W.mg_none_of
def M5:=@List.mem_append_left
def M6:=@List.mem_of_getElem?
def M7:=@PySem.wpAny_holding
def M8:=@PySem.Calls.spliced_nil
def M9:=@List.append_assoc
def N0:=@PySem.wpAny_loadPart_at
def N1:=@Option.map_eq_some_iff
def N2:=@List.ext_getElem?
def N3:=@PyProof.Rows.boot_list
def N4:=@beq_eq_false_iff_ne
def N5:=@Nat.le_succ
def N6:=@List.find?_cons
def N7:=@PySem.Heap.get?_update_self
def N8:=@PyProof.Rows.boot_max
def N9:=@PyProof.Rows.boot_int
def O0:=@PySem.wpAny_Call_Name_kw
def O4:=@decide_true
def O5:=@Nat.zero_add
def O6:=@PySem.wpAny_standAt
def O7:=@beq_self_eq_true
def O8:=@Array.getElem?_eq_some_iff
def O9:=@List.contains_cons
def P0:=@List.pairwise_cons
def P1:=@Int.emod_lt_of_pos
def P2:=@List.pairwise_iff_getElem
def P3:=@PySem.wpAny_passesOwn
def P4:=@Bool.eq_iff_iff
def P5:=@List.nil_append
def P6:=@List.length_nil
def P7:=@PySem.Heap.get?_none_of_le
def P8:=@PySem.wpAny_truthy_bool
def P9:=@Nat.le_of_eq
def Q0:=@List.reverse_cons
def Q1:=@List.flatten_cons
def Q2:=@PySem.wpAny_of_eq
def Q3:=@Option.isSome_iff_exists
def Q4:=@PySem.F.slot_list_append
def Q5:=@PySem.F.type_list_append
def Q6:=@PySem.Heap.SameBut.update
def Q7:=@Nat.lt_succ_self
def Q8:=@List.cons_append
def Q9:=@PySem.F.plainAttrs_list
def R0:=@PySem.wpAny_getItem_str_slice
def R1:=@List.getElem?_cons_succ
def R3:=@List.nodup_nil
def R4:=@List.eq_nil_of_length_eq_zero
def R5:=@Nat.le_of_lt
def R6:=@Nat.ne_of_gt
def R7:=@PySem.codeAny_mono
def R8:=@Bool.or_eq_true
def R9:=@Int.emod_nonneg
def S0:=@PySem.Paired.length
def S3:=@List.any_cons
def S4:=@List.contains_iff_mem
def S5:=@PySem.wpAny_newObj_type
def S6:=@Nat.lt_trichotomy
def S7:=@Array.getElem_toList
def S9:=@List.length_take
def T3:=@decide_false
def T4:=@PySem.wpAny_comprehension_free
def T5:=@PySem.wpAny_execs_nil
def T6:=@List.cons.injEq
def T7:=@PySem.W.KasT.kasWp_bind
def T8:=@PySem.Code.quiet_builtin
def T9:=@PySem.wpAny_call
def U1:=@PySem.tupleKind_room_in1
def U2:=@PySem.wpAny_field
def U3:=@List.getElem?_cons_zero
def U4:=@Option.bind_eq_some_iff
def U5:=@PySem.Calls.callWith_builtin
def U6:=@List.drop_eq_nil_of_le
def U7:=@PySem.wpAny_pyIter_enum
def U8:=@List.find?_cons_of_pos
def U9:=@List.find?_cons_of_neg
def V0:=@Nat.lt_succ_of_lt
def V1:=@Int.lt_trans
def V2:=@decide_eq_true_eq
def V3:=@List.nodup_append
def V4:=@List.pairwise_map
def V5:=@PySem.plainObj_wpAny_Assign_Attribute
def V6:=@PySem.Obj.isFreed_of_fields
def V7:=@PySem.F.slot_dict_get
def V8:=@PySem.builtinLookup_eq_fast
def V9:=@Array.getElem?_toList
def W0:=@List.length_filter_le
def W1:=@PyProof.Rows.boot_min
def W2:=@PyProof.Rows.callWith_builtin1
def W3:=@List.getElem_mem
def W4:=@Nat.le_add_right
def W5:=@List.perm_middle
def W6:=@List.any_eq_true
def W7:=@List.all_cons
def W8:=@PySem.Around.frames_deeper
def W9:=@PySem.Calls.evalArgs_plain
def X0:=@PySem.wpAny_newFunctionEnv
def X1:=@PySem.codeAny_call_builtin
def X2:=@PySem.Around.under_plainId
def X3:=@PySem.wpAny_specialOf
def X4:=@PySem.post_val_or_str
def X5:=@PySem.F.slot_dict_setdefault
def X6:=@List.filterMap_cons
def X7:=@PySem.wpAny_isSubtype_exc
def X8:=@List.length_reverse
def X9:=@PySem.W.looks_findIn
def Y0:=@Array.getD_eq_getD_getElem?
def Y1:=@Int.zero_add
def Y2:=@PySem.W.callWith_K
def Y3:=@PySem.Calls.Name_function_global
def Y4:=@PySem.Obj.data_mapFields
def Y5:=@PySem.wpAny_letOwnedTupleGo_enum
def Y6:=@List.zip_cons_cons
def Y7:=@PySem.F.excBase_ValueError
def Y8:=@PySem.isSubtype_type
def Y9:=@Array.perm_iff_toList_perm
def Z0:=@PySem.codeAny_call_builtin_code
def Z1:=@PySem.wpAny_check_type_call_sub
def Z2:=@PySem.wpAny_assign_Name
def Z3:=@List.any_eq_false
def Z4:=@Option.isSome_map
def Z5:=@PySem.wpAny_pyIter_list
def Z6:=@List.take_add_one
def Z7:=@PySem.W.methodCall_KW
def Z8:=@PyProof.Rows.listUpdate_at
def Z9:=@PyProof.Rows.boot_sorted
def ZA0:=@List.Nodup.mem_erase_iff
def ZA1:=@PySem.wpAny_eqBool_int
def ZA2:=@Option.getD_none
def ZA3:=@PySem.codeAny_call_builtin_at
def ZA4:=@PySem.F.args_dict_get_3
def ZA5:=@PySem.F.plainAttrs_dict
def ZA6:=@PySem.wpAny_pyNext_enum_itemD
def ZA7:=@PySem.F.plain_list_iadd
def ZA8:=@decide_eq_decide
def ZA9:=@List.getElem_map
def ZB0:=@List.map_reverse
def ZB1:=@PySem.wpAny_pyNext_range_end
def ZB2:=@PySem.wpAny_pyIter_rangeiter
def ZB3:=@PyProof.Rows.subscriptTail_builtinR
def ZB4:=@PySem.F.entry_dict_get
def ZB5:=@PySem.codeAny_compStart_list
def ZB6:=@PySem.Txt.slice_le
def ZB7:=@PySem.wpAny_pyNext_enum_endD
def ZB8:=@Array.getElem?_eq_none
def ZB9:=@Nat.not_lt
def ZC0:=@Int.le_trans
def ZC1:=@Nat.sub_self
def ZC2:=@List.filter_eq_nil_iff
def ZC3:=@PySem.F.plainAttrs_str
def ZC4:=@List.of_mem_zip
def ZC5:=@PySem.wpAny_loadPart'
def ZC6:=@List.foldl_cons
def ZC7:=@PySem.codeAny_of_tree
def ZC8:=@PySem.typeLookup_type
def ZC9:=@PySem.codeAny_builtin
def ZD0:=@PySem.W.cellsFrom_some
def ZD1:=@PySem.W.looks_clsIn
def ZD2:=@PySem.W.plainGet_of
def ZD3:=@PySem.wpAny_setField
def ZD4:=@PySem.plainId_quiet
def ZD5:=@PySem.W.Looks.here
def ZD6:=@PySem.call_range_1
def ZD7:=@PySem.seqIndex_neg
def ZD8:=@Bool.or_true
def ZD9:=@PySem.call_meetsIn
def ZE0:=@Int.le_total
def ZE1:=@List.map_id'
local macro_rules|`(tactic|trivial)=>`(tactic|first|exact Or.inl rfl|exact Or.inr rfl|exact Or.inr (Or.inl rfl)|exact Or.inr (Or.inr rfl))
namespace PySem.W.Fast
def tw10167372588247797817:=0
def tw10230715207502789908:=0
def tw10275924965463670310:=0
def tw10323248299204871103:=0
def tw10334146344932843718:=0
def tw10365370840277571050:=0
def tw10372553285082753669:=0
def tw10489640148449850401:=0
def tw10559292916914804148:=0
def tw10587232621072116827:=0
def tw10710066611433022241:=0
def tw10728554212822685137:=0
def tw10797065129393261444:=0
def tw10838813943211282624:=0
def tw10871801717034175258:=0
def tw1088875549382791323:=0
def tw10958611353853743220:=0
def tw11036510391529896345:=0
def tw11137098970727129400:=0
def tw11210273577544263590:=0
def tw11238247407706831649:=0
def tw11300656724269094979:=0
def tw11459033255481615897:=0
def tw11465412676899145740:=0
def tw11669066103926496742:=0
def tw11692213144629553565:=0
def tw11702597680068902038:=0
def tw11857953494042222066:=0
def tw11881879204119265135:=0
def tw11934380616635552832:=0
def tw11955724475950084825:=0
def tw12014890883511848517:=0
def tw12193534333798104360:=0
def tw12345923211852813421:=0
def tw12421105115827908879:=0
def tw12436945594438481738:=0
def tw12554577654327154499:=0
def tw12573251072610566674:=0
def tw12617380713269005873:=0
def tw12635091975450002200:=0
def tw12655096280867549607:=0
def tw1265597373749832233:=0
def tw12673977064325670917:=0
def tw12801422549454293314:=0
def tw12828806122654835599:=0
def tw12833716098380818370:=0
def tw1300581775066200796:=0
def tw13016389054893838615:=0
def tw13224417855228145136:=0
def tw13265277861195185626:=0
def tw1328069614373526747:=0
def tw13307498984805760621:=0
def tw1331788411820973239:=0
def tw13332283459500349288:=0
def tw13337718333932462614:=0
def tw13395819246744367624:=0
def tw13541242751217483784:=0
def tw13614401254832083554:=0
def tw13658357032353006120:=0
def tw13720167105891139517:=0
def tw13784431632806890985:=0
def tw14113863794279871384:=0
def tw14240258456021284882:=0
def tw14240625891424449734:=0
def tw14261813637455021385:=0
def tw14289550456152272643:=0
def tw14344159819767859132:=0
def tw14434190029139852878:=0
def tw14619063850567979632:=0
def tw14670240617851462539:=0
def tw14713389389961313388:=0
def tw14758569477978739881:=0
def tw14791059357156394798:=0
def tw14818919929900453170:=0
def tw14841855824023085246:=0
def tw14894992723940639288:=0
def tw14918998185445523596:=0
def tw15025344885092248558:=0
def tw15060686637411457752:=0
def tw15214426224337763836:=0
def tw15371687159364076548:=0
def tw15403855546439506273:=0
def tw15419450591143159496:=0
def tw15426903831103369594:=0
def tw1548424100147415090:=0
def tw15518622302402963009:=0
def tw1551881381791372921:=0
def tw15548164423742581097:=0
def tw15652541956041997134:=0
def tw15701481363531197108:=0
def tw15744171654964871510:=0
def tw15773748979011744884:=0
def tw15794907856009213849:=0
def tw15852047561795205817:=0
def tw15961057738204054149:=0
def tw15970747543553210031:=0
def tw16019532155029944071:=0
def tw16031569485152537348:=0
def tw16122159694400314462:=0
def tw16261037320319587826:=0
def tw16312898675289395307:=0
def tw16483903151080710084:=0
def tw1648570352898761394:=0
def tw16547930398100838047:=0
def tw16560365253873892169:=0
def tw16681805276364076479:=0
def tw16697445776570839012:=0
def tw16727396055362637718:=0
def tw16809307966675744937:=0
def tw16891963452923456887:=0
def tw16927672554403458315:=0
def tw16951338129957569650:=0
def tw17112553557097187598:=0
def tw17268709182555695673:=0
def tw17272082614179153011:=0
def tw17274803604301097921:=0
def tw1734937344129329083:=0
def tw17365614517533796477:=0
def tw17501197903837011758:=0
def tw17565652859918591587:=0
def tw1758487653415935831:=0
def tw17619581008204112228:=0
def tw17654191684554497487:=0
def tw17672243215340891109:=0
def tw17677527828168753507:=0
def tw17754066621262197422:=0
def tw17806246791200066415:=0
def tw1789343622850956248:=0
def tw17903195911876512344:=0
def tw17961549119976026020:=0
def tw17963828728969415540:=0
def tw17986926188936096584:=0
def tw18055008197851104021:=0
def tw1809758005414972070:=0
def tw18134398604289044731:=0
def tw18289266039059349688:=0
def tw18310570750000361729:=0
def tw1839285069973355346:=0
def tw1872349722212395582:=0
def tw1964040031899221833:=0
def tw2127879620663394959:=0
def tw2141809717909789723:=0
def tw219859443058883569:=0
def tw225144693113987608:=0
def tw2286916175222816336:=0
def tw2292336813816261735:=0
def tw2353124882797290750:=0
def tw2425252049371000094:=0
def tw2533445374788618595:=0
def tw2541716805689477944:=0
def tw2575971930055303280:=0
def tw2694529687650521979:=0
def tw2755869692627210059:=0
def tw2838650678810316824:=0
def tw2878587058405675193:=0
def tw2940672551775288745:=0
def tw300553490404604885:=0
def tw3121406885529613378:=0
def tw312297560909334990:=0
def tw3125361662298869182:=0
def tw3130774353828909063:=0
def tw3191230924609333689:=0
def tw3288061252374307179:=0
def tw356393812297067428:=0
def tw3604842037434282080:=0
def tw3641378039059373735:=0
def tw3646053354907837360:=0
def tw3813250327310418320:=0
def tw3937053575894763507:=0
def tw3957225434699072684:=0
def tw4002031938097770649:=0
def tw4042326212212864535:=0
def tw4214014710638220237:=0
def tw4375672363108788562:=0
def tw43783433405969813:=0
def tw4499038115368822819:=0
def tw4511252804429308654:=0
def tw4570794865699243957:=0
def tw4585802233623557535:=0
def tw4609486153871193331:=0
def tw4622389367320886357:=0
def tw4672294065853091635:=0
def tw4681757760706227422:=0
def tw4841623343122559302:=0
def tw4914662708406843058:=0
def tw4947225528677485814:=0
def tw4993919185230648669:=0
def tw5065552398376044422:=0
def tw5066630749213477265:=0
def tw5138999125312808539:=0
def tw5154253987433350576:=0
def tw5322288218434549182:=0
def tw5510770938895148170:=0
def tw5532527473384792330:=0
def tw5537959165161800321:=0
def tw564577156631152963:=0
def tw5692035956112156876:=0
def tw5766868492337330266:=0
def tw5818682528566831994:=0
def tw5886702816270149298:=0
def tw5944872935839090438:=0
def tw6014188681861582127:=0
def tw6072748150000591543:=0
def tw6115735367541564993:=0
def tw6190666161996195293:=0
def tw6277556975960962632:=0
def tw6305984600013633589:=0
def tw648296970547240888:=0
def tw6651375389508954983:=0
def tw6695564528581561099:=0
def tw669712034817018864:=0
def tw6764218770541810845:=0
def tw677051992219353957:=0
def tw6790666974201683411:=0
def tw6854164558671273559:=0
def tw6873875553624926757:=0
def tw6899406137064139770:=0
def tw6936555703658553542:=0
def tw695997956885186988:=0
def tw7030518975941628631:=0
def tw7038979105567214702:=0
def tw705203888780510324:=0
def tw7091594351347795020:=0
def tw7103247966231287084:=0
def tw7301921410494974120:=0
def tw7304498803953198490:=0
def tw7350612332617742561:=0
def tw7428149681691529560:=0
def tw7438407922448398304:=0
def tw7498451507679254703:=0
def tw7560923561953662453:=0
def tw7576466465274387048:=0
def tw7677514891251813206:=0
def tw7890243523883389327:=0
def tw7950448505361648020:=0
def tw8072331796820601667:=0
def tw8146159545744974555:=0
def tw8177393680135799268:=0
def tw8275076415897594430:=0
def tw8279541550527115531:=0
def tw8408251447695290300:=0
def tw8481761634996196422:=0
def tw8531048381754307755:=0
def tw8531324646026120491:=0
def tw8559247052595565326:=0
def tw8626594497371052401:=0
def tw8662225495234015145:=0
def tw8672918446514017309:=0
def tw8721684987613643678:=0
def tw8724496757014923912:=0
def tw874099796919528229:=0
def tw8806309265882958886:=0
def tw8820461177867321692:=0
def tw8928474810489591118:=0
def tw8957591510327474043:=0
def tw8966068801278700583:=0
def tw8970987648823027851:=0
def tw8980727006746953302:=0
def tw9005420456547239494:=0
def tw9068145964352551071:=0
def tw9084530976398817171:=0
def tw91883635597949181:=0
def tw924466521391290259:=0
def tw9280770049833867626:=0
def tw9317352449724254833:=0
def tw9343639372801167818:=0
def tw936696623981714567:=0
def tw9484424783486842051:=0
def tw9743717576137243431:=0
def tw9785500388450715918:=0
def tw9906253188066185040:=0
def tw9954866981505896979:=0
def tw9996965711643435676:=0
end PySem.W.Fast
noncomputable section
open PySem.W (Frag InitBack InstAt Looks any_some bind_fn callWith_K callWith_K0 cellsFrom_some check_slot clsIn cls_value codeIn codeRec_of emptyDict eq_bytes exmOne exm_one findCls findIn findObj_own fnOf get_value handedIn handedOut_of hasDictIn hideAll hideAll_get hideAll_none hideAll_size instObj isFn kdl_dict keepIn ki_setAt ki_setBack kia_one kitOne kitx_bool kitx_int kitx_list kitx_none kitx_str kitx_tuple kun_itemsOf lookIn looks_clsIn looks_find looks_findIn looks_mroIn make_core makesIn makes_of methodCall_KW methodObj method_cls method_fn mg_none_of mg_of mroIn ne_bytes notCls of_hideAll osa_eq osa_open plainGet plainGet_of plainOver readsIn set_plain specialIn takerIn takesIn truthy_bytes typeIn)
local macro_rules
 | `(tactic| rfl') => `(tactic| kernel_rfl)
local macro_rules
 | `(tactic| simp![$xs,*] $[$l:location]?) => `(tactic| simp only[Nat.reduceAdd, Nat.reduceSub, Nat.reduceLeDiff, ↓reduceIte, reduceCtorEq, $xs,*] $[$l:location]?)
local macro_rules|`(())=>`(by omega)
local macro_rules|`(⋯)=>`(by decide)|`(nofun)=>`(by decide +kernel)|`(∅)=>`(by rfl')
abbrev AG(x:PySem.Str):Prop:=(x==("__debug__" :PySem.Str))=false
abbrev AE:=List (PySem.Addr×PySem.Obj)
abbrev AB:=PySem.Str->Option PySem.Value
abbrev AA:=PySem.Value->PySem.Shared->Prop
namespace L2
open PySem PySem.Spec PyProof.Rows
abbrev Ak:=Sum Int Str
def ax_4:Ak->Value->Bool
 | .inl k,v=>Value.isInt k v
 | .inr x,v=>Value.isStrOf x v
def keyH(w:World):Ak->Int
 | .inl k=>hashInt k
 | .inr x=>hashStr w x
def g_0:∀{k:Ak} {v:Value},ax_4 k v=true->(∃i t,k=Sum.inl i/\v=Value.int i t)\/(∃x t,k=Sum.inr x/\v=Value.str x t)
 | .inl i,v,h=>by
  obtain⟨t,e⟩:=Value.isInt_shape (k:=i) (v:=v) h;exact .inl ⟨i,t,rfl,e⟩
 | .inr x,v,h=>by
  obtain⟨t,e⟩:=Value.isStrOf_shape (x:=x) (v:=v) h;exact .inr ⟨x,t,rfl,e⟩
def cb_2(i:Int)(t:Tok):ax_4 (.inl i) (.int i t)=true:=by simp[ax_4,Value.isInt]
def cb_3(x:Str)(t:Tok):ax_4 (.inr x) (.str x t)=true:=by simp[ax_4,Value.isStrOf]
def df_7(a b:Int):decide ((Sum.inl a:Ak)=Sum.inl b)=(a ==b):=by
 by_cases e:a=b
 ·subst e;simp
 ·have h:¬(Sum.inl a:Ak)=Sum.inl b:=λq=>e (Sum.inl.inj q);rw[F8 h];exact(N4.mpr e).symm
def df_8(a b:Str):decide ((Sum.inr a:Ak)=Sum.inr b)=decide (a=b):=by
 by_cases e:a=b
 ·subst e;simp
 ·have h:¬(Sum.inr a:Ak)=Sum.inr b:=λq=>e (Sum.inr.inj q);rw[F8 h,F8 e]
def df_9(a:Int)(b:Str):decide ((Sum.inl a:Ak)=Sum.inr b)=false:=F8 (λq=>nomatch q)
def dg_0(a:Str)(b:Int):decide ((Sum.inr a:Ak)=Sum.inl b)=false:=F8 (λq=>nomatch q)
def f_9(prog:Program)(w:World):PySem.KeyKind prog w Ak where
 is:=ax_4
 hash:=keyH w
 inj:=λv a b ha hb=>by
  rcases g_0 ha with⟨i,t,rfl,rfl⟩|⟨x,t,rfl,rfl⟩
  ·rcases g_0 hb with⟨j,u,rfl,e⟩|⟨y,u,rfl,e⟩
   ·injection e with e1 _;rw[e1]
   ·exact nomatch e
  ·rcases g_0 hb with⟨j,u,rfl,e⟩|⟨y,u,rfl,e⟩
   ·exact nomatch e
   ·injection e with e1 _;rw[e1]
 byValue:=λk v h=>by
  rcases g_0 h with⟨i,t,rfl,rfl⟩|⟨x,t,rfl,rfl⟩ <;> rfl
 pyHash:=λhv h=>by
  rcases g_0 hv with⟨i,t,rfl,rfl⟩|⟨x,t,rfl,rfl⟩
  ·exact wpAny_pyHash_int h
  ·exact wpAny_pyHash_str h
 eqBool:=λhu hv h=>by
  rcases g_0 hu with⟨i,t,rfl,rfl⟩|⟨x,t,rfl,rfl⟩
  ·rcases g_0 hv with⟨j,u,rfl,rfl⟩|⟨y,u,rfl,rfl⟩
   ·rw[df_7]at h;exact ZA1 h
   ·rw[df_9]at h;exact SeqAt.EqAt.int_str i t y u _ _ _ _ h
  ·rcases g_0 hv with⟨j,u,rfl,rfl⟩|⟨y,u,rfl,rfl⟩
   ·rw[dg_0]at h;exact SeqAt.EqAt.str_int x t j u _ _ _ _ h
   ·rw[df_8]at h;exact wpAny_eqBool_str h
 «strs»:=λk x t v h=>by
  rcases g_0 h with⟨i,u,rfl,e⟩|⟨y,u,rfl,e⟩
  ·exact nomatch e
  ·injection e with e1 _
   subst e1;cases v <;> rfl
def bj_1(prog:Program)(w:World)(i:Int)(t:Tok):(f_9 prog w).is (.inl i) (.int i t)=true:=cb_2 i t
def bj_2(prog:Program)(w:World)(x:Str)(t:Tok):(f_9 prog w).is (.inr x) (.str x t)=true:=cb_3 x t
inductive V where
 |non|bl (b:Bool)|int (i:Int)|str (x:Str)|byt (b:Array UInt8)|flt (b:UInt64)|ref (a:Addr)|ty (n:String)
 deriving DecidableEq
def RelV:V->Value->Prop
 | .non,u=>u=Value.none
 | .bl b,u=>u=Value.bool b
 | .int i,u=>∃t,u=Value.int i t
 | .str x,u=>∃t,u=Value.str x t
 | .byt b,u=>∃t,u=Value.bytes b t
 | .flt b,u=>∃t,u=Value.float b t
 | .ref a,u=>u=Value.ref a
 | .ty n,u=>u=Value.type n
abbrev Vals:List V->List Value->Prop:=Paired RelV
theorem Vals.length{xs:List V}{us:List Value}(r:Vals xs us):xs.length=us.length:=S0 r
theorem Vals.get:∀{xs:List V} {us:List Value} {i:Nat} {x:V},Vals xs us->xs[i]? =some x->∃u,us[i]? =some u/\RelV x u
 |_,_,_,_,.nil,e=>by simp at e
 |_,_,0,_,.cons r _,e=>by simp at e;subst e;exact⟨_,rfl,r⟩
 |_,_,i + 1,x,.cons _ t,e=>by
  obtain⟨u,h1,h2⟩:=Vals.get (i:=i) (x:=x) t (by simpa using e);exact⟨u,by simpa using h1,h2⟩
theorem Vals.set{x:V}{u:Value}(r:RelV x u):∀{xs:List V} {us:List Value} (i:Nat),Vals xs us->Vals (xs.set i x) (us.set i u)
 |_,_,_,.nil=> .nil
 |_,_,0,.cons _ t=> .cons r t
 |_,_,i + 1,.cons q t=> .cons q (Vals.set r i t)
theorem Vals.append:∀{xs ys:List V} {us ws:List Value},Vals xs us->Vals ys ws->Vals (xs ++ ys) (us ++ ws)
 |_,_,_,_,.nil,s=>s
 |_,_,_,_,.cons r t,s=> .cons r (Vals.append t s)
theorem Vals.take:∀{xs:List V} {us:List Value} (n:Nat),Vals xs us->Vals (xs.take n) (us.take n)
 |_,_,0,_=> .nil
 |_,_,_ + 1,.nil=> .nil
 |_,_,n + 1,.cons r t=> .cons r (Vals.take n t)
theorem Vals.drop:∀{xs:List V} {us:List Value} (n:Nat),Vals xs us->Vals (xs.drop n) (us.drop n)
 |_,_,0,r=>r
 |_,_,_ + 1,.nil=> .nil
 |_,_,n + 1,.cons _ t=>Vals.drop n t
def RelO:Option V->Option Value->Prop
 |some v,some u=>RelV v u
 |none,none=>True
 |_,_=>False
def KV{κ:Type}:List (κ×V)->List (κ×Value)->Prop:=Paired λ(p:κ×V) (q:κ×Value)=>p.1=q.1/\RelV p.2 q.2
def kV:Ak->V
 | .inl i=> .int i
 | .inr x=> .str x
inductive HO where
  |lst (xs:List V)
  |tup (xs:List V)
  |dK (kvs:List (Ak×V))|dT (kvs:List (List Ak×V))
  |set (S:Int->Bool) (n:Nat)
  |ins (C dx:Addr) (fs:List (Str×V))
  |own (x:Addr)
  |xd (fs:List (Str×V))
  |met (f x:Addr)
  |rng (lo hi:Int)
  |frz (o:Obj) (u:HO)
  |tbl (ps:Array Value)
  |ext (φ:Heap->Prop)
abbrev Hp:=Addr->Option HO
def upd(H:Hp)(a:Addr)(o:HO):Hp:=λb=>if b=a then some o else H b
def Bp{H:Hp}{a:Addr}{o:HO}:upd H a o a=some o:=by unfold upd;rw[if_pos rfl]
def Aq{H:Hp}{a b:Addr}{o:HO}(h:b≠a):upd H a o b=H b:=by unfold upd;rw[if_neg h]
def dn_3{H:Hp}{a b:Addr}{o u:HO}(h:H a=some o)(h':H b=some u)(d:o≠u):a≠b:=by
 intro e;subst e;rw[h]at h';exact d (K4 h')
def Co{H:Hp}{a b:Addr}{o:HO}(h:H a=some o)(h':H b=none):a≠b:=by
 intro e;subst e;rw[h]at h';cases h'
section
variable(P:Program)(w:World)
def ObjOk(H:Hp)(h:Heap)(a:Addr):HO->Prop
 | .lst xs=>xs.length<=sizeLine/\∃(its:List Value) (n:Nat),Vals xs its/\h.get? a=some {cls:=.type "list",data:=.seq its.toArray n}
 | .tup xs=>xs.length<=sizeLine/\∃its:List Value,Vals xs its/\IsTup h a its.toArray
 | .dK kvs=>kvs.length<=sizeLine/\(a ==sysModules)=false/\∃vs,KV kvs vs/\h.DictOf (f_9 P w) a vs
 | .dT kvs=>kvs.length<=sizeLine/\(a ==sysModules)=false/\∃xs:List (List Ak×Addr×Value),
   Paired (λ(p:List Ak×V) (q:List Ak×Addr×Value)=>p.1=q.1/\H q.2.1=some (.tup (p.1.map kV))/\RelV p.2 q.2.2) kvs xs/\
   ∃o es ep,h.get? a=some o/\o.ExactDict/\o.data=.dict es ep/\es.toList=xs.map (entryOfKey (tupleKind (f_9 P w)))/\(xs.map (·.1)).Nodup
 | .set S n=>h.SetOf (intKind P w) a S n
 | .ins C dx fs=>H dx=some (.own a)/\fs.length<=1000/\dx≠a/\h.get? a=some (instObj C dx)/\
   ∃mA,h.Ns1 dx mA/\(∀f,RelO (fs.lookup f) (mA f))/\PySem.Within mA (fs.map (·.1))
 | .own _=>∃o,h.get? a=some o
 | .xd fs=>∃mA,h.Ns1 a mA/\∀f,RelO (fs.lookup f) (mA f)
 | .rng lo hi=>∃t u v,h.get? a=some {cls:=.type "range",data:=.fields #[.int lo t,.int hi u,.int 1 v]}
 | .frz o u=>h.get? a=some o/\ObjOk H h a u
 | .tbl _=>∃vs:Array Value,h.get? a=some {cls:=.none,data:=.fields vs}/\TriplesOk vs.toList/\∀pos cv,codeAmong pos vs.toList=some cv->∃c o us t,cv=.ref c/\H c=some (.frz o (.own a))/\o.data=.fields us/\us[1]? =some (.str "numbers_by_bucket.<locals>.<lambda>" t)
 | .met f x=>h.get? a=some (methodObj (.ref f) (.ref x))
 | .ext φ=>φ h/\(∃o,h.get? a=some o)/\∀h1 h2:Heap,φ h1->(∀o,h1.get? a=some o->h2.get? a=some o)->φ h2
def HOk(H:Hp)(h:Heap):Prop:=∀a o,H a=some o->ObjOk P w H h a o
end
section
variable{P:Program}{w:World}{H H':Hp}{h h':Heap}{a:Addr}{o:HO}
theorem ObjOk.lt(x:ObjOk P w H h a o):a < h.objs.size:=by
 cases o with
 |lst xs=>obtain⟨_,_,_,_,e⟩:=x;exact A6 e
 |tup xs=>obtain⟨_,_,_,p⟩:=x;exact p.lt
 |dK kvs=>obtain⟨_,_,_,_,o,_,_,e,_⟩:=x;exact A6 e
 |dT kvs=>obtain⟨_,_,_,_,o,_,_,e,_⟩:=x;exact A6 e
 |set S n=>obtain⟨o,_,_,_,e,_⟩:=x;exact A6 e
 |ins C dx fs=>obtain⟨_,_,_,e,_⟩:=x;exact A6 e
 |own y=>obtain⟨_,e⟩:=x;exact A6 e
 |xd fs=>obtain⟨_,⟨_,_,_,e,_⟩,_⟩:=x;exact A6 e
 |rng lo hi=>obtain⟨_,_,_,e⟩:=x;exact A6 e
 |frz ob u=>obtain⟨e,_⟩:=x;exact A6 e
 |tbl ps=>obtain⟨_,e,_⟩:=x;exact A6 e
 |met f y=>exact A6 (show h.get? a=some _ from x)
 |ext φ=>obtain⟨_,⟨_,e⟩,_⟩:=x;exact A6 e
theorem Paired.mapP{α β:Type}{F G:α->β->Prop}:∀{l₁:List α} {l₂:List β},Paired F l₁ l₂->(∀a b,F a b->G a b)->Paired G l₁ l₂
 |_,_,.nil,_=> .nil
 |_,_,.cons r t,f=> .cons (f _ _ r) (Paired.mapP t f)
def ObjOk.stay(x:ObjOk P w H h a o)(k:∀b u,(b=a\/H b=some (.own a))->h.get? b=some u->h'.get? b=some u)
  (ho:∀b,H b=some (.own a)->H' b=some (.own a)) (ht:∀b xs,H b=some (.tup xs)->H' b=some (.tup xs)) (hf:∀b o,H b=some (.frz o (.own a))->H' b=some (.frz o (.own a)):=by exact λ_ _ q=>q):ObjOk P w H' h' a o:=by
 induction o with
 |lst xs=>obtain⟨z,its,n,r,e⟩:=x;exact⟨z,its,n,r,k _ _ (.inl rfl) e⟩
 |tup xs=>obtain⟨z,its,r,ob,e,c⟩:=x;exact⟨z,its,r,ob,k _ _ (.inl rfl) e,c⟩
 |dK kvs=>obtain⟨z,y,vs,r,ob,es,ep,e,c⟩:=x;exact⟨z,y,vs,r,ob,es,ep,k _ _ (.inl rfl) e,c⟩
 |dT kvs=>
  obtain⟨z,y,xs,r,ob,es,ep,e,c⟩:=x;exact⟨z,y,xs,Paired.mapP r λp q z=>⟨z.1,ht _ _ z.2.1,z.2.2⟩,ob,es,ep,k _ _ (.inl rfl) e,c⟩
 |set S n=>obtain⟨ob,es,ep,t,e,c⟩:=x;exact⟨ob,es,ep,t,k _ _ (.inl rfl) e,c⟩
 |ins C dx fs=>
  obtain⟨d,z,ne,e,mA,⟨od,es,ep,e2,c⟩,r⟩:=x;exact⟨ho _ d,z,ne,k _ _ (.inl rfl) e,mA,⟨od,es,ep,k _ _ (.inr d) e2,c⟩,r⟩
 |own y=>obtain⟨ob,e⟩:=x;exact⟨ob,k _ _ (.inl rfl) e⟩
 |xd fs=>obtain⟨mA,⟨od,es,ep,e,c⟩,r⟩:=x;exact⟨mA,⟨od,es,ep,k _ _ (.inl rfl) e,c⟩,r⟩
 |rng lo hi=>obtain⟨t,u,v,e⟩:=x;exact⟨t,u,v,k _ _ (.inl rfl) e⟩
 |frz ob u ih=>obtain⟨e,q⟩:=x;exact⟨k _ _ (.inl rfl) e,ih q⟩
 |tbl ps=>obtain⟨vs,e,t,c⟩:=x;exact⟨vs,k _ _ (.inl rfl) e,t,λpos cv q=>let⟨c,o,us,t,e1,e2,r⟩:=c pos cv q;⟨c,o,us,t,e1,hf c o e2,r⟩⟩
 |met f y=>
  have e:h.get? a=some (methodObj (.ref f) (.ref y)):=x;show h'.get? a=some (methodObj (.ref f) (.ref y));exact k a _ (.inl rfl) e
 |ext φ=>obtain⟨p,⟨o,e⟩,st⟩:=x;exact⟨st _ _ p λo q=>k _ _ (.inl rfl) q,⟨o,k _ _ (.inl rfl) e⟩,st⟩
theorem HOk.lt(x:HOk P w H h)(e:H a=some o):a < h.objs.size:=(x a o e).lt
def HOk.fresh(x:HOk P w H h)(e:h.objs.size<=a):H a=none:=by
 cases q:H a with
 |none=>rfl
 |some u=>exact absurd (B9 (x.lt q) e) (E9 _)
def HOk.kept(x:HOk P w H h)(k:∀b u,h.get? b=some u->h'.get? b=some u):HOk P w H h':=λa o e=>
 (x a o e).stay (λb u _ q=>k b u q) (λ_ q=>q) λ_ _ q=>q
def HOk.laid(x:HOk P w H h)(k:∀b u,h.get? b=some u->h'.get? b=some u)(hp:h.objs.size<=a)(new:ObjOk P w (upd H a o) h' a o):HOk P w (upd H a o) h':=λb u e=>by
 have hn:=x.fresh hp
 by_cases hb:b=a
 ·subst hb;rw[Bp]at e;cases e;exact new
 ·rw[Aq hb]at e;exact(x b u e).stay (λc v _ q=>k c v q) (λc q=>by rw[Aq (Co q hn)];exact q) (λc xs q=>by rw[Aq (Co q hn)];exact q) λc o q=>by rw[Aq (Co q hn)];exact q
end
def Rd(H:Hp)(a:Addr)(u:HO):Prop:=H a=some u\/∃o,H a=some (.frz o u)
def Rd.ok{P:Program}{w:World}{H:Hp}{h:Heap}{a:Addr}{u:HO}(r:Rd H a u)(x:HOk P w H h):ObjOk P w H h a u:=by
 rcases r with r|⟨o,r⟩
 ·exact x a u r
 ·obtain⟨_,q⟩:=x a _ r;exact q
def Mut:Option HO->Prop
 |some (.lst _)=>True
 |some (.dK _)=>True
 |some (.dT _)=>True
 |some (.set _ _)=>True
 |some (.ins _ _ _)=>True
 |some (.ext _)=>True
 |_=>False
section
variable{P:Program}{w:World}{H:Hp}{h h':Heap}{x e:Addr}{o':HO}
def HOk.write(ok:HOk P w H h)(mu:Mut (H x))(he:e=x\/H e=some (.own x))(k:∀b u,b≠e->h.get? b=some u->h'.get? b=some u)(heo:∃u,h'.get? e=some u)
  (new:ObjOk P w (upd H x o') h' x o'):HOk P w (upd H x o') h':=λb u q=>by
 have eg:∀c y,H c=some (.own y)->c≠x:=λc y r z=>by subst z;rw[r]at mu;exact mu
 have ij:∀c xs,H c=some (.tup xs)->c≠x:=λc xs r z=>by subst z;rw[r]at mu;exact mu
 by_cases hb:b=x
 ·subst hb;rw[Bp]at q;cases q;exact new
 ·rw[Aq hb]at q
  by_cases hbe:b=e
  ·have q':H b=some (.own x):=by
    rcases he with z|z
    ·exact absurd (hbe.trans z) hb
    ·rw[hbe];exact z
   rw[q]at q';cases q';obtain⟨v,hv⟩:=heo;exact⟨v,by rw[hbe];exact hv⟩
  ·refine(ok b u q).stay (λc v hc r=>k c v ?_ r) (λc r=>by rw[Aq (eg c b r)];exact r) (λc xs r=>by rw[Aq (ij c xs r)];exact r) λc o r=>by rw[Aq λz=>by subst z;rw[r]at mu;exact mu];exact r
   rcases hc with rfl|hc
   ·exact hbe
   ·rintro rfl
    rcases he with z|z
    ·exact eg c b hc z
    ·rw[hc]at z;cases z;exact hb rfl
end
structure Un(fs ex:List Addr)(H H':Hp)(h h':Heap):Prop where
 keep:∀b o,h.get? b=some o->H b=none->b∉fs->b∉ex->h'.get? b=some o
 slot:∀b o,h.get? b=some o->H b=none->b∈fs->b∉ex->∃sl,h'.get? b=some {o with slots:=sl}
 free:∀b o,h.get? b=some o->H b=none->b∉ex->H' b=none
 there:∀b o,h.get? b=some o->b∉ex->∃o',h'.get? b=some o'
 tups:∀b xs,H b=some (.tup xs)->H' b=some (.tup xs)
 frzs:∀b o u,H b=some (.frz o u)->H' b=some (.frz o u)
 tbls:∀b ps,H b=some (.tbl ps)->∃more,H' b=some (.tbl (ps ++ more))
section
variable{fs fs' ex ex':List Addr}{H H1 H2:Hp}{h h1 h2 h':Heap}{a x e:Addr}{o:HO}
def Un.any(u:Un fs ex H H1 h h1){b:Addr}{ob:Obj}(q:h.get? b=some ob)(n:H b=none)(hx:b∉ex):∃sl,h1.get? b=some {ob with slots:=sl}:=by
 by_cases hb:b∈fs
 ·exact u.slot b ob q n hb hx
 ·exact⟨ob.slots,u.keep b ob q n hb hx⟩
def Un.kept(k:∀b u,h.get? b=some u->h'.get? b=some u):Un fs ex H H h h':=
 ⟨λb ob q _ _ _=>k b ob q,λb ob q _ _ _=>⟨ob.slots,k b ob q⟩,λ_ _ _ n _=>n,λb ob q _=>⟨ob,k b ob q⟩,λ_ _ q=>q,λ_ _ _ q=>q,λ_ ps q=>⟨#[],by rw[q];simp⟩⟩
def Un.refl:Un fs ex H H h h:=Un.kept λ_ _ q=>q
def Un.laid(k:∀b u,h.get? b=some u->h'.get? b=some u)(hp:h.objs.size<=a)(hn:H a=none):Un fs ex H (upd H a o) h h' where
 keep:=λb u q _ _ _=>k b u q
 slot:=λb u q _ _ _=>⟨u.slots,k b u q⟩
 free:=λb u q n _=>by rw[Aq (B4 (B9 (A6 q) hp))];exact n
 there:=λb u q _=>⟨u,k b u q⟩
 tups:=λb xs q=>by rw[Aq (Co q hn)];exact q
 frzs:=λb u xs q=>by rw[Aq (Co q hn)];exact q
 tbls:=λb ps q=>⟨#[],by rw[Aq (Co q hn),q];simp⟩
def Un.write(mu:Mut (H x))(he:e=x\/H e=some (.own x))(k:∀b u,b≠e->h.get? b=some u->h'.get? b=some u)(heo:∃u,h'.get? e=some u):Un fs ex H (upd H x o) h h':=by
 have hx:∀b,H b=none->b≠x:=λb n z=>by subst z;rw[n]at mu;exact mu
 have hb:∀b,H b=none->b≠e:=λb n z=>by
  subst z;rcases he with r|r
  ·exact hx b n r
  ·rw[n]at r;cases r
 have hm:∀b u,H b=some u->¬Mut (some u)->b≠x:=λb u q nm z=>by subst z;rw[q]at mu;exact nm mu
 refine⟨λb u q n _ _=>k b u (hb b n) q,λb u q n _ _=>⟨u.slots,k b u (hb b n) q⟩,λb u q n _=>by rw[Aq (hx b n)];exact n,λb u q _=> ?_,
  λb xs q=>by rw[Aq (hm b _ q λz=>z)];exact q,λb u xs q=>by rw[Aq (hm b _ q λz=>z)];exact q,λb ps q=>⟨#[],by rw[Aq (hm b _ q λz=>z),q];simp⟩⟩
 by_cases hbe:b=e
 ·subst hbe;exact heo
 ·exact⟨u,k b u hbe q⟩
end
def trk(h:Heap)(H:Hp):List Addr:=(List.range h.objs.size).filter λa=>(H a).isSome
def hidT(h:Heap)(H:Hp):Heap:=hideAll h (trk h H)
def cb_4(h:Heap)(H:Hp):(hidT h H).objs.size=h.objs.size:=hideAll_size _ _
def cg_6{h:Heap}{H:Hp}{b:Addr}{o:Obj}(e:h.get? b=some o)(n:H b=none):(hidT h H).get? b=some o:=
 hideAll_get _ e λhm=>by
  have q:(H b).isSome=true:=(M0.mp hm).2;rw[n]at q;simp at q
def ct_7{h:Heap}{H:Hp}{b:Addr}{o:Obj}(e:(hidT h H).get? b=some o):h.get? b=some o/\H b=none:=by
 have e':h.get? b=some o:=of_hideAll (trk h H) e;refine⟨e', ?_⟩;cases q:H b with
 |none=>rfl
 |some x=>
  have hm:b∈trk h H:=M0.mpr ⟨K0.mpr (A6 e'),by simp[q]⟩;have z:(hidT h H).get? b=none:=hideAll_none (trk h H) hm;rw[z]at e;cases e
def ct_8(g h:Heap)(L:Addr):AE:=(List.range h.objs.size).filterMap λa=>if a=L\/(g.get? a).isSome=true then none else(h.get? a).map λo=>(a,o)
def v_2(g h:Heap)(L d:Addr):AE:=(ct_8 g h L).filter λp=>decide (p.1≠d)
structure Mod(K:Frag)(mg:AB)(base:Heap):Prop where
 kin:K.In base
 glob:base.Ns mainGlobals mg
 blt:∃mb,base.Ns builtinsNs mb/\∀x:Str,x≠ "__name__" ->mb x=bootBuiltins x
 nolimit:base.NoLimit
 bm:∃bm o,mg "__builtins__" =some (.ref bm)/\bm≠builtinsNs/\base.get? bm=some o/\o.cls=.type "module" /\o.dict=some builtinsNs/\o.data=.plain
def TabH(K:Frag)(H:Hp):Prop:=∀c P,PySem.W.tabIn K "numbers_by_bucket" =some (c,P)->∃ps,H P=some (.tbl ps)
structure Cx where
 prog:Program
 w:World
 K:Frag
 mg:Str->Option Value
 base:Heap
 A:Around
 N:List Str
 s₀:Shared
 H₀:Hp
 env:Env
 outer:List Env
 stack:List Env
 ex:List Addr
 fn:Str->Bool
 calm:Bool
 pn:AE
 xe:Value->Shared->Prop
def frs(l:List Env):List Addr:=l.filterMap (·.frame)
abbrev Cx.fs(X:Cx):List Addr:=frs X.outer
def Vis(sc:Scope)(x:Str):Prop:=sc.names.lookup x=some .local\/sc.names.lookup x=some .cell\/sc.names.lookup x=some .free
def Loc(sc:Scope)(x:Str):Prop:=sc.names.lookup x=some .local\/sc.names.lookup x=some .cell
def Look(env:Env)(h:Heap)(m:AB)(x:Str)(u:Value):Prop:=
 (env.kindOf x=some .local/\m x=some u)\/((env.kindOf x=some .cell\/env.kindOf x=some .free)/\∃c,env.cells.lookup x=some c/\h.IsCell c (some u))
structure Cx.Ok(X:Cx):Prop where
 mod:Mod X.K X.mg X.base
 kind:X.env.scope.kind=.function
 glob:X.env.globals=mainGlobals
 blt:X.env.builtins=builtinsNs
 above:X.s₀.heap.objs.size<=X.env.locals
 inj:∀x y c,X.env.cells.lookup x=some c->X.env.cells.lookup y=some c->x=y
 has:∀x,(X.env.kindOf x=some .cell\/X.env.kindOf x=some .free)->∃c,X.env.cells.lookup x=some c
 cab:∀x c,X.fn x=true->X.env.cells.lookup x=some c->X.s₀.heap.objs.size<=c
 hd:X.calm=true->X.A.handled=none
 frames:X.A.frames=some X.stack
 stk:X.stack=X.outer\/(X.stack=X.env::X.outer/\X.env.frame=some X.env.locals)
 exf:∀b∈X.ex,b≠X.env.locals/\∀x c,X.env.cells.lookup x=some c->c≠b
 bs:∀b o,X.base.get? b=some o->X.s₀.heap.get? b=some o/\X.H₀ b=none
 bsz:X.base.objs.size<=X.s₀.heap.objs.size
 noex:∀b o,X.base.get? b=some o->b∉X.ex
 exfs:∀b∈X.ex,b∉X.fs
 funs:X.s₀.heap.FunFrames X.base X.outer
 frf:∀b∈X.fs,X.H₀ b=none
 tb:TabH X.K X.H₀
structure Inv(X:Cx)(zd:AE)(σ:List (Option V))(H:Hp)(s:Shared):Prop where
 ok:X.Ok
 os:s.os=X.s₀.os
 bare:AllBare s.gens
 base:Un X.fs X.ex X.H₀ H X.s₀.heap s.heap
 loc:∃m,s.heap.Ns X.env.locals m/\∀(i:Nat) (x:Str) (v:V),X.N[i]? =some x->σ[i]? =some (some v)->Vis X.env.scope x->∃u,RelV v u/\Look X.env s.heap m x u
 cell:∀x c,X.env.cells.lookup x=some c->∃v,s.heap.IsCell c v
 free:H X.env.locals=none
 freeC:∀x c,X.env.cells.lookup x=some c->H c=none
 pin:∀p∈X.pn ++ zd,s.heap.get? p.1=some p.2/\H p.1=none/\p.1≠X.env.locals/\p.1∉X.fs/\∀v,p.2.data≠ .cell v
 hok:HOk X.prog X.w H s.heap
 len:σ.length=X.N.length
section
variable{X:Cx}{zd:AE}{σ:List (Option V)}{H H':Hp}{s:Shared}{h':Heap}
def Cx.Ok.nofr(ok:X.Ok){b:Addr}{o:Obj}(e:X.base.get? b=some o):b∉X.fs:=λhb=>by
 have:=(ok.funs.mem hb).1;rw[e]at this;cases this
theorem Inv.bs(I:Inv X zd σ H s):∀b o,X.base.get? b=some o->s.heap.get? b=some o/\H b=none:=λb o e=>
 ⟨I.base.keep b o (I.ok.bs b o e).1 (I.ok.bs b o e).2 (I.ok.nofr e) (I.ok.noex b o e),I.base.free b o (I.ok.bs b o e).1 (I.ok.bs b o e).2 (I.ok.noex b o e)⟩
def Inv.bk(I:Inv X zd σ H s):∀b o,X.base.get? b=some o->s.heap.get? b=some o:=λb o e=>(I.bs b o e).1
theorem Inv.mod(I:Inv X zd σ H s):Mod X.K X.mg X.base:=I.ok.mod
def Inv.kIn(I:Inv X zd σ H s):X.K.In s.heap:=I.ok.mod.kin.keeps I.bk
theorem Inv.nolimit(I:Inv X zd σ H s):s.heap.NoLimit:=I.ok.mod.nolimit.keeps I.bk
def Inv.fr(I:Inv X zd σ H s):∃m,Fr X.base X.env.locals s.heap m:=
 let⟨m,hn,_⟩:=I.loc
 ⟨m,hn,I.bk,C7 I.ok.bsz I.ok.above⟩
theorem Inv.lt(I:Inv X zd σ H s):X.env.locals < s.heap.objs.size:=let⟨_,hn,_⟩:=I.loc;hn.lt
def Inv.sz(I:Inv X zd σ H s):X.s₀.heap.objs.size<=s.heap.objs.size:=C7 I.ok.above (R5 I.lt)
def Inv.nofs(I:Inv X zd σ H s){a:Addr}(h:s.heap.objs.size<=a):a∉X.fs:=λhb=>by
 obtain⟨_,o,ho,_⟩:=I.ok.funs.mem hb;exact absurd (B9 (A6 ho) (C7 I.sz h)) (E9 _)
def Inv.cne(I:Inv X zd σ H s):∀x c,X.env.cells.lookup x=some c->c≠X.env.locals:=λx c e z=>by
 obtain⟨v,o,ho,hd⟩:=I.cell x c e;obtain⟨m,⟨o',es,ep,ho',hd',_⟩,_⟩:=I.loc;rw[z,ho']at ho;cases ho;rw[hd']at hd;cases hd
theorem Inv.funs(I:Inv X zd σ H s):s.heap.FunFrames X.base X.outer:=by
 have all:∀(l:List Env),(∀b∈frs l,b∈X.fs)->X.s₀.heap.FunFrames X.base l->s.heap.FunFrames X.base l:=by
  intro l
  induction l with
  |nil=>intro _ _;trivial
  |cons env r ih=>
   intro hs hl;obtain⟨hk,⟨L,o,hf,hn,ho,hd⟩,hr⟩:=hl;have hL:L∈X.fs:=hs L (by unfold frs;rw[X6,hf];exact K2);obtain⟨sl,e⟩:=I.base.slot L o ho (I.ok.frf L hL) hL λz=>I.ok.exfs L z hL;exact⟨hk,⟨L,_,hf,hn,e,hd⟩,ih (λb hb=>hs b (by unfold frs;rw[X6,hf];exact D3 _ hb)) hr⟩
 exact all X.outer (λ_ hb=>hb) I.ok.funs
theorem Inv.stack(I:Inv X zd σ H s):s.heap.FunFrames X.base X.stack:=by
 rcases I.ok.stk with e|⟨e,hf⟩
 ·rw[e];exact I.funs
 ·rw[e];obtain⟨m,hn,_⟩:=I.loc;refine .cons (by rw[I.ok.kind];decide) hf hn ?_ I.funs;exact P7 (C7 I.ok.bsz I.ok.above)
def Inv.stkSub(I:Inv X zd σ H s):∀b∈frs X.stack,b∈X.env.locals::X.fs:=λb hb=>by
 rcases I.ok.stk with e|⟨e,hf⟩
 ·rw[e]at hb;exact D3 _ hb
 ·rw[e]at hb;unfold frs at hb;rw[X6,hf]at hb;exact hb
def Inv.stkFree(I:Inv X zd σ H s):∀b∈frs X.stack,H b=none:=λb hb=>by
 rcases C4.mp (I.stkSub b hb) with e|hb
 ·rw[e];exact I.free
 ·obtain⟨_,o,ho,_⟩:=I.ok.funs.mem hb;exact I.base.free b o ho (I.ok.frf b hb) λz=>I.ok.exfs b z hb
def Inv.step{g':Array GenState}{t':Nat}{d':Drawn}{ch:List Addr}(I:Inv X zd σ H s)
  (hch:∀b∈ch,(b∈X.ex\/X.s₀.heap.objs.size<=b)/\b≠X.env.locals/\(∀x c,X.env.cells.lookup x=some c->c≠b)/\∀p∈X.pn ++ zd,p.1≠b)
  (keep:∀b o,b≠X.env.locals->b∉X.fs->b∉ch->s.heap.get? b=some o->H b=none->h'.get? b=some o)
  (slot:∀b o,b≠X.env.locals->b∈X.fs->b∉ch->s.heap.get? b=some o->H b=none->∃sl,h'.get? b=some {o with slots:=sl}) (free:∀b o,b∉ch->s.heap.get? b=some o->H b=none->H' b=none)
  (there:∀b o,b∉ch->s.heap.get? b=some o->∃o',h'.get? b=some o')
  (tups:∀b xs,H b=some (.tup xs)->H' b=some (.tup xs)) (frzs:∀b o u,H b=some (.frz o u)->H' b=some (.frz o u)) (tbls:∀b ps,H b=some (.tbl ps)->∃more,H' b=some (.tbl (ps ++ more)))
  (ns:∀m,s.heap.Ns X.env.locals m->h'.Ns X.env.locals m) (hok:HOk X.prog X.w H' h') (hg:AllBare g'):
  Inv X zd σ H' {s with heap:=h',gens:=g',drawn:=d',toks:=t'}:=by
 have neL:∀b o,X.s₀.heap.get? b=some o->b≠X.env.locals:=λb o e=>B4 (B9 (A6 e) I.ok.above);have neC:∀b o,X.s₀.heap.get? b=some o->b∉X.ex->b∉ch:=λb o e hx hb=>by
  rcases(hch b hb).1 with z|z
  ·exact hx z
  ·exact absurd (B9 (A6 e) z) (E9 _)
 have cellK:∀x c,X.env.cells.lookup x=some c->∀v,s.heap.IsCell c v->h'.IsCell c v:=λx c e v ⟨o,ho,hd⟩=>by
  have nch:c∉ch:=λz=>(hch c z).2.2.1 x c e rfl
  by_cases hc:c∈X.fs
  ·obtain⟨sl,q⟩:=slot c o (I.cne x c e) hc nch ho (I.freeC x c e);exact⟨_,q,hd⟩
  ·exact⟨o,keep c o (I.cne x c e) hc nch ho (I.freeC x c e),hd⟩
 refine⟨I.ok,I.os,hg,⟨λb o e n hb hx=> ?_,λb o e n hb hx=> ?_,λb o e n hx=> ?_,λb o e hx=> ?_,λb xs e=>tups b xs (I.base.tups b xs e),λb o xs e=>frzs b o xs (I.base.frzs b o xs e),λb ps e=> ?_⟩, ?_,λx c e=> ?_, ?_,λx c e=> ?_,λp hp=> ?_,hok,I.len⟩
 ·exact keep b o (neL b o e) hb (neC b o e hx) (I.base.keep b o e n hb hx) (I.base.free b o e n hx)
 ·obtain⟨sl,e1⟩:=I.base.slot b o e n hb hx;obtain⟨sl',e2⟩:=slot b _ (neL b o e) hb (neC b o e hx) e1 (I.base.free b o e n hx);exact⟨sl',e2⟩
 ·obtain⟨o',e1⟩:=I.base.there b o e hx;exact free b o' (neC b o e hx) e1 (I.base.free b o e n hx)
 ·obtain⟨o',e1⟩:=I.base.there b o e hx;exact there b o' (neC b o e hx) e1
 ·obtain⟨m1,e1⟩:=I.base.tbls b ps e;obtain⟨m2,e2⟩:=tbls b _ e1;exact⟨m1 ++ m2,by rw[e2,Array.append_assoc]⟩
 ·obtain⟨m,hn,hl⟩:=I.loc;refine⟨m,ns m hn,λi x v e1 e2 e3=> ?_⟩;obtain⟨u,r,l⟩:=hl i x v e1 e2 e3;refine⟨u,r, ?_⟩;rcases l with l|⟨k,c,e,z⟩
  ·exact .inl l
  ·exact .inr ⟨k,c,e,cellK x c e _ z⟩
 ·obtain⟨v,z⟩:=I.cell x c e;exact⟨v,cellK x c e v z⟩
 ·obtain⟨m,⟨o,_,_,ho,_⟩,_⟩:=I.loc;exact free _ o (λz=>(hch _ z).2.1 rfl) ho I.free
 ·obtain⟨v,o,ho,hd⟩:=I.cell x c e;exact free c o (λz=>(hch c z).2.2.1 x c e rfl) ho (I.freeC x c e)
 ·obtain⟨e,n,ne,nf,d⟩:=I.pin p hp;have nch:p.1∉ch:=λz=>(hch p.1 z).2.2.2 p hp rfl;exact⟨keep p.1 p.2 ne nf nch e n,free p.1 p.2 nch e n,ne,nf,d⟩
def Inv.un{t':Nat}(I:Inv X zd σ H s)(u:Un X.fs [] H H' s.heap h')(hok:HOk X.prog X.w H' h'):Inv X zd σ H' {s with heap:=h',toks:=t'}:=by
 obtain⟨m,⟨o,es,ep,ho,r⟩,_⟩:=id I.loc;obtain⟨sl,hL⟩:=u.any ho I.free (by simp);exact I.step (g':=s.gens) (d':=s.drawn) (ch:=[]) (λ_ z=>nomatch z) (λb o _ hb _ e n=>u.keep b o e n hb (by simp)) (λb o _ hb _ e n=>u.slot b o e n hb (by simp)) (λb o _ e n=>u.free b o e n (by simp)) (λb o _ e=>u.there b o e (by simp)) u.tups u.frzs u.tbls (λm' hm=>by
  obtain⟨o',es',ep',ho',r'⟩:=hm;rw[ho]at ho';cases ho';exact⟨_,es',ep',hL,r'⟩) hok I.bare
def Inv.call{g':Array GenState}{t':Nat}{d':Drawn}{ch:List Addr}(I:Inv X zd σ H s)(u:Un (frs X.stack) ch H H' s.heap h')(hok:HOk X.prog X.w H' h')(hg:AllBare g')
  (hch:∀b∈ch,(b∈X.ex\/X.s₀.heap.objs.size<=b)/\b≠X.env.locals/\(∀x c,X.env.cells.lookup x=some c->c≠b)/\∀p∈X.pn ++ zd,p.1≠b):
  Inv X zd σ H' {s with heap:=h',gens:=g',drawn:=d',toks:=t'}:=by
 obtain⟨m,⟨o,es,ep,ho,r⟩,_⟩:=id I.loc;obtain⟨sl,hL⟩:=u.any ho I.free λz=>(hch _ z).2.1 rfl;exact I.step (ch:=ch) hch (λb o hL hb hc e n=>u.keep b o e n (λz=>(C4.mp (I.stkSub b z)).elim hL hb) hc) (λb o _ _ hc e n=>u.any e n hc) (λb o hc e n=>u.free b o e n hc) (λb o hc e=>u.there b o e hc) u.tups u.frzs u.tbls (λm' hm=>by
  obtain⟨o',es',ep',ho',r'⟩:=hm;rw[ho]at ho';cases ho';exact⟨_,es',ep',hL,r'⟩) hok hg
def Inv.turned{t':Nat}{it:Addr}(I:Inv X zd σ H s)(k:∀b o,b≠it->s.heap.get? b=some o->h'.get? b=some o)(hn:H it=none)(hL:it≠X.env.locals)
  (h1:it∈X.ex\/X.s₀.heap.objs.size<=it) (h2:∀x c,X.env.cells.lookup x=some c->c≠it) (h3:∀p∈X.pn ++ zd,p.1≠it):Inv X zd σ H {s with heap:=h',toks:=t'}:=by
 have nit:∀b u,H b=some u->b≠it:=λb u e z=>by rw[z,hn]at e;cases e
 refine I.step (g':=s.gens) (d':=s.drawn) (ch:=[it]) (λb hb=> ?_) (λb o _ _ hc e _=>k b o (λz=>hc (by simp[z])) e) (λb o _ _ hc e _=>⟨o.slots,k b o (λz=>hc (by simp[z])) e⟩) (λ_ _ _ _ n=>n)
  (λb o hc e=>⟨o,k b o (λz=>hc (by simp[z])) e⟩) (λ_ _ e=>e) (λ_ _ _ e=>e) (λb ps e=>⟨#[],by rw[e];simp⟩) (λm hm=> ?_) (λb u e=> ?_) I.bare
 ·have e:b=it:=by simpa using hb
  subst e;exact⟨h1,hL,h2,h3⟩
 ·obtain⟨o,es,ep,ho,r⟩:=hm;exact⟨o,es,ep,k _ o (Ne.symm hL) ho,r⟩
 ·refine(I.hok b u e).stay (λc v hc q=>k c v ?_ q) (λ_ q=>q) λ_ _ q=>q;rcases hc with z|z
  ·rw[z];exact nit b u e
  ·exact nit c _ z
def Inv.tok(I:Inv X zd σ H s)(t:Nat):Inv X zd σ H {s with toks:=t}:=I.un (h':=s.heap) (t':=t) Un.refl I.hok
theorem Inv.kept{t':Nat}(I:Inv X zd σ H s)(k:∀b u,s.heap.get? b=some u->h'.get? b=some u):Inv X zd σ H {s with heap:=h',toks:=t'}:=I.un (Un.kept k) (I.hok.kept k)
theorem Inv.laid{a:Addr}{o:HO}{t':Nat}(I:Inv X zd σ H s)(k:∀b u,s.heap.get? b=some u->h'.get? b=some u)(hp:s.heap.objs.size<=a)(new:ObjOk X.prog X.w (upd H a o) h' a o):
  Inv X zd σ (upd H a o) {s with heap:=h',toks:=t'}:=I.un (Un.laid k hp (I.hok.fresh hp)) (I.hok.laid k hp new)
theorem Inv.write{x e:Addr}{o:HO}{t':Nat}(I:Inv X zd σ H s)(mu:Mut (H x))(he:e=x\/H e=some (.own x))(k:∀b u,b≠e->s.heap.get? b=some u->h'.get? b=some u)(heo:∃u,h'.get? e=some u)
  (new:ObjOk X.prog X.w (upd H x o) h' x o):Inv X zd σ (upd H x o) {s with heap:=h',toks:=t'}:=I.un (Un.write mu he k heo) (I.hok.write mu he k heo new)
def Inv.pins_of{ar:AE}(I:Inv X zd σ H s)(h:∀p∈ar,s.heap.get? p.1=some p.2/\H p.1=none/\p.1≠X.env.locals/\p.1∉X.fs/\∀v,p.2.data≠ .cell v):Inv X ar σ H s:=
 ⟨I.ok,I.os,I.bare,I.base,I.loc,I.cell,I.free,I.freeC,λp hp=>(J7.mp hp).elim (λz=>I.pin p (M5 _ z)) (h p),I.hok,I.len⟩
def ap_2{N:List Str}(hN:N.Nodup){i j:Nat}{x:Str}(a:N[i]? =some x)(b:N[j]? =some x):i=j:=by
 obtain⟨h1,e1⟩:=B2.mp a;obtain⟨h2,e2⟩:=B2.mp b;exact(List.getElem_inj hN).mp (e1.trans e2.symm)
def ah_4{M:Model}{A:Around}{E:AA}{i:Nat}{x:Str}{v:V}{u:Value}{Q:Unit->Shared->Prop}(I:Inv X zd σ H s)(hN:X.N.Nodup)(hi:X.N[i]? =some x)(hx:Loc X.env.scope x)(r:RelV v u)
  (h:∀s',Inv X zd (σ.set i (some v)) H s'->(∃a,Heap.SameBut a s.heap s'.heap/\(a=X.env.locals\/X.env.cells.lookup x=some a))->Q .unit s') (hf:X.fn x=true\/X.env.scope.names.lookup x=some .local:=by trivial):wpAny M A (storeName X.env x u) Q E s:=by
 obtain⟨m,hn,hl⟩:=id I.loc;have di:(X.env.scope.kind == .class || (X.env.scope.kind == .module && X.env.locals != X.env.globals))=false:=by rw[I.ok.kind];rfl
 have hiσ:i < σ.length:=by rw[I.len];exact(B2.mp hi).1
 have cne:=I.cne;have tracked:∀{a:Addr} {h':Heap},(∃o,s.heap.get? a=some o/\H a=none)->Heap.SameBut a s.heap h'->HOk X.prog X.w H h':=λ{a h'} ha hs b ob e=>by
  obtain⟨_,_,ay⟩:=ha;refine(I.hok b ob e).stay (λc w' hc q=>(hs.2 c ?_).trans q) (λ_ q=>q) λ_ _ q=>q
  rintro rfl
  rcases hc with rfl|hc
  ·rw[ay]at e;cases e
  ·rw[ay]at hc;cases hc
 rcases hx with hk|hk
 ·refine wpAny_storeName_local hk hn (λh' hn' hs=> ?_) di;obtain⟨oL,_,_,hoL,_⟩:=id hn;refine h _ ⟨I.ok,I.os,I.bare,⟨λb o e n hb hx=> ?_,λb o e n hb hx=> ?_,I.base.free,λb o e hx=> ?_,I.base.tups,I.base.frzs,I.base.tbls⟩,⟨_,hn',λj y v' e1 e2 e3=> ?_⟩,λy c e=> ?_,I.free,I.freeC,λp hp=> ?_,tracked ⟨oL,hoL,I.free⟩ hs,by simpa using I.len⟩ ⟨_,hs,.inl rfl⟩
  ·exact(hs.2 b (B4 (B9 (A6 e) I.ok.above))).trans (I.base.keep b o e n hb hx)
  ·obtain⟨sl,e1⟩:=I.base.slot b o e n hb hx;exact⟨sl,(hs.2 b (B4 (B9 (A6 e) I.ok.above))).trans e1⟩
  ·obtain⟨o',e1⟩:=I.base.there b o e hx;exact⟨o',(hs.2 b (B4 (B9 (A6 e) I.ok.above))).trans e1⟩
  ·by_cases hj:j=i
   ·subst hj;rw[hi]at e1;cases e1;rw[F6 hiσ]at e2;cases e2;exact⟨u,r,.inl ⟨hk,by simp⟩⟩
   ·rw[C8 (Ne.symm hj)]at e2;obtain⟨u',r',q⟩:=hl j y v' e1 e2 e3;refine⟨u',r', ?_⟩;rcases q with⟨k,e⟩|⟨k,c,e,z⟩
    ·refine .inl ⟨k, ?_⟩;have:y≠x:=λe=>hj (ap_2 hN e1 (e▸hi));simp[this,e]
    ·exact .inr ⟨k,c,e,z.sameBut hs (cne y c e)⟩
  ·obtain⟨w',z⟩:=I.cell y c e;exact⟨w',z.sameBut hs (cne y c e)⟩
  ·obtain⟨e,n,ne,nf,d⟩:=I.pin p hp;exact⟨(hs.2 p.1 ne).trans e,n,ne,nf,d⟩
 ·have hfn:X.fn x=true:=by
   rcases hf with z|z
   ·exact z
   ·rw[z]at hk;cases hk
  obtain⟨c,hc⟩:=I.ok.has x (.inl hk);obtain⟨w',z⟩:=I.cell x c hc;refine wpAny_storeName_cell I.ok.kind hk hc z (λh' hc' hs=> ?_);obtain⟨oc,hoc,gw⟩:=id z;refine h {s with heap:=h'} ⟨I.ok,I.os,I.bare,⟨λb o e n hb hx=> ?_,λb o e n hb hx=> ?_,I.base.free,λb o e hx=> ?_,I.base.tups,I.base.frzs,I.base.tbls⟩,⟨m,hn.sameBut hs (Ne.symm (cne x c hc)),λj y v' e1 e2 e3=> ?_⟩,λy c' e=> ?_,I.free,I.freeC,λp hp=> ?_,tracked ⟨oc,hoc,I.freeC x c hc⟩ hs,by simpa using I.len⟩ ⟨c,hs,.inr hc⟩
  ·exact(hs.2 b (B4 (B9 (A6 e) (I.ok.cab x c hfn hc)))).trans (I.base.keep b o e n hb hx)
  ·obtain⟨sl,e1⟩:=I.base.slot b o e n hb hx;exact⟨sl,(hs.2 b (B4 (B9 (A6 e) (I.ok.cab x c hfn hc)))).trans e1⟩
  ·obtain⟨o',e1⟩:=I.base.there b o e hx;exact⟨o',(hs.2 b (B4 (B9 (A6 e) (I.ok.cab x c hfn hc)))).trans e1⟩
  ·by_cases hj:j=i
   ·subst hj;rw[hi]at e1;cases e1;rw[F6 hiσ]at e2;cases e2;exact⟨u,r,.inr ⟨.inl hk,c,hc,hc'⟩⟩
   ·rw[C8 (Ne.symm hj)]at e2;obtain⟨u',r',q⟩:=hl j y v' e1 e2 e3;refine⟨u',r', ?_⟩;rcases q with q|⟨k,c',e,z'⟩
    ·exact .inl q
    ·refine .inr ⟨k,c',e,z'.sameBut hs ?_⟩
     rintro rfl
     exact hj (ap_2 hN e1 (I.ok.inj _ _ _ e hc▸hi))
  ·by_cases hcc:c'=c
   ·subst hcc;exact⟨_,hc'⟩
   ·obtain⟨w2,z2⟩:=I.cell y c' e;exact⟨w2,z2.sameBut hs hcc⟩
  ·obtain⟨e,n,ne,nf,d⟩:=I.pin p hp;refine⟨(hs.2 p.1 ?_).trans e,n,ne,nf,d⟩;intro q;rw[q,hoc]at e;have q':oc=p.2:=K4 e;exact d w' (by rw[<-q'];exact gw)
def ap_3{M:Model}{A:Around}{E:AA}{i:Nat}{x:Str}{v:V}{u:Value}{Q:Unit->Shared->Prop}(I:Inv X zd σ H s)(hN:X.N.Nodup)(hi:X.N[i]? =some x)(hx:Loc X.env.scope x)(r:RelV v u)
  (h:∀s',Inv X zd (σ.set i (some v)) H s'->Q .unit s') (hf:X.fn x=true\/X.env.scope.names.lookup x=some .local:=by trivial):wpAny M A (storeName X.env x u) Q E s:=
 ah_4 I hN hi hx r (λs' I' _=>h s' I') hf
def Inv.call'{s':Shared}{ch:List Addr}(I:Inv X zd σ H s)(ho:s'.os=s.os)(u:Un (frs X.stack) ch H H' s.heap s'.heap)(hok:HOk X.prog X.w H' s'.heap)(hg:AllBare s'.gens)
  (hch:∀b∈ch,(b∈X.ex\/X.s₀.heap.objs.size<=b)/\b≠X.env.locals/\(∀x c,X.env.cells.lookup x=some c->c≠b)/\∀p∈X.pn ++ zd,p.1≠b):Inv X zd σ H' s':=by
 obtain⟨h',g',d',t',o'⟩:=s';have e:o'=s.os:=ho;subst e;exact I.call (g':=g') (t':=t') (d':=d') u hok hg hch
end
abbrev XK:=Value->Option Addr->Hp->Prop
abbrev St:=List (Option V)
abbrev VK:=V->Hp->Prop
abbrev TE:=St->Hp->VK->Prop
abbrev TT:=St->Hp->(Bool->Hp->Prop)->Prop
abbrev TA:=St->Hp->(List V->Hp->Prop)->Prop
structure Ends where
 nx:St->Hp->Prop
 rt:VK
 bk:St->Hp->Prop:=λ_ _=>False
 ct:St->Hp->Prop:=λ_ _=>False
abbrev TS:=Ends->St->Hp->Prop
def EP(X:Cx)(zd:AE)(σ:St)(Q:VK)(u:Value)(s':Shared):Prop:=∃v H',Inv X zd σ H' s'/\RelV v u/\Q v H'
def TP(X:Cx)(zd:AE)(σ:St)(Q:Bool->Hp->Prop)(b:Bool)(s':Shared):Prop:=∃H',Inv X zd σ H' s'/\Q b H'
def AP(X:Cx)(zd:AE)(σ:St)(Q:List V->Hp->Prop)(us:List Value)(s':Shared):Prop:=∃vs H',Inv X zd σ H' s'/\Vals vs us/\Q vs H'
def SP(X:Cx)(zd:AE)(D:Ends)(f:Flow)(s':Shared):Prop:=
 match f with
 | .next=>∃σ' H',Inv X zd σ' H' s'/\D.nx σ' H'
 | .brk=>∃σ' H',Inv X zd σ' H' s'/\D.bk σ' H'
 | .cont=>∃σ' H',Inv X zd σ' H' s'/\D.ct σ' H'
 | .ret u=>∃v σ' H',Inv X zd σ' H' s'/\RelV v u/\D.rt v H'
def PE(X:Cx)(e:Expr)(t:TE):Prop:=
 ∀(zd:AE) (s:Shared) (σ:St) (H:Hp) (Q:VK),Inv X zd σ H s->t σ H Q->wpAny (model X.prog X.w) X.A (eval e X.env) (EP X zd σ Q) X.xe s
def PT(X:Cx)(e:Expr)(t:TT):Prop:=
 ∀(zd:AE) (s:Shared) (σ:St) (H:Hp) (Q:Bool->Hp->Prop),Inv X zd σ H s->t σ H Q->wpAny (model X.prog X.w) X.A (isTrue e X.env (eval e X.env)) (TP X zd σ Q) X.xe s
def PW(X:Cx)(e:Expr)(t:TT):Prop:=
 ∀(whole:Sem Value) (zd:AE) (s:Shared) (σ:St) (H:Hp) (Q:Bool->Hp->Prop),Inv X zd σ H s->t σ H Q->wpAny (model X.prog X.w) X.A (isTrue e X.env whole) (TP X zd σ Q) X.xe s
def PW.pt{X:Cx}{e:Expr}{t:TT}(h:PW X e t):PT X e t:=h _
def PA(X:Cx)(es:List Expr)(t:TA):Prop:=
 ∀(pos:Pos) (zd:AE) (s:Shared) (σ:St) (H:Hp) (Q:List V->Hp->Prop),Inv X zd σ H s->t σ H Q->wpAny (model X.prog X.w) X.A (spliced (backTo pos (starEach es X.env))) (AP X zd σ Q) X.xe s
def PS(X:Cx)(st:Stmt)(t:TS):Prop:=
 ∀(zd:AE) (s:Shared) (σ:St) (H:Hp) (D:Ends),Inv X zd σ H s->t D σ H->wpAny (model X.prog X.w) X.A (exec st X.env) (SP X zd D) X.xe s
def PSs(X:Cx)(st:List Stmt)(t:TS):Prop:=
 ∀(zd:AE) (s:Shared) (σ:St) (H:Hp) (D:Ends),Inv X zd σ H s->t D σ H->wpAny (model X.prog X.w) X.A (execs st X.env) (SP X zd D) X.xe s
def Ax{α:Type}{t:Sem α}{Q Q':α->Shared->Prop}{M:Model}{A:Around}{E:AA}{s:Shared}(h:wpAny M A t Q E s)(hQ:∀a s,Q a s->Q' a s):wpAny M A t Q' E s:=D1 h hQ λ_ _ x=>x
section
variable{X:Cx}
def tVar(i:Nat):TE:=λ σ H Q=>∃v,σ[i]? =some (some v)/\Q v H
def tC(v:V):TE:=λ_ H Q=>Q v H
def l_5{i:Nat}{x:Str}{pos:Pos}(hN:X.N[i]? =some x)(hv:Vis X.env.scope x)(hd:AG x:=by decide)(hcd:(x ==("__classdict__" :Str))=false:=by decide):PE X (.Name x pos) (tVar i):=by
 intro zd s σ H Q I h;obtain⟨v,e,h⟩:=h;obtain⟨m,hn,hl⟩:=I.loc;obtain⟨u,r,l⟩:=hl i x v hN e hv;have fin:EP X zd σ Q u s:=⟨v,H,I,r,h⟩;rcases l with⟨hk,hm⟩|⟨hk,c,hc,hcell⟩
 ·exact wpAny_Name (wpAny_loadName_local I.ok.kind hk hn hm fin) hd
 ·rcases hk with hk|hk
  ·exact wpAny_Name (wpAny_loadName_cell I.ok.kind hk hc hcell fin) hd
  ·exact wpAny_Name (wpAny_loadName_free I.ok.kind hk hc hcell fin hcd) hd
def dg_2{i j pos}:PE X (.Constant (.int i) j pos) (tC (.int i)):=λ_ _ _ H _ I h=>wpAny_Constant_int ⟨.int i,H,I.tok _,⟨_,rfl⟩,h⟩
def dn_4{b j pos}:PE X (.Constant (.bool b) j pos) (tC (.bl b)):=λ_ _ _ H _ I h=>Constant_bool ⟨.bl b,H,I,rfl,h⟩
def dg_3{j pos}:PE X (.Constant .none j pos) (tC .non):=λ_ _ _ H _ I h=>Constant_none ⟨.non,H,I,rfl,h⟩
def dg_4{x j pos}:PE X (.Constant (.str x) j pos) (tC (.str x)):=λ_ _ _ H _ I h=>Calls.Constant_str ⟨.str x,H,I.tok _,⟨_,rfl⟩,h⟩
def Gl(X:Cx)(x:Str):Prop:=X.env.kindOf x=some .globalImplicit
def s_1{E:AA}{zd:AE}{s:Shared}{σ:St}{H:Hp}{x:Str}{u:Value}{pos:Pos}{Q:AA}(I:Inv X zd σ H s)(hg:Gl X x)(hm:X.mg x=some u)(h:Q u s)
  (hd:AG x:=by decide):wpAny (model X.prog X.w) X.A (eval (.Name x pos) X.env) Q E s:=
 Y3 I.ok.kind hg (Calls.loadGlobal_global (by rw[I.ok.glob];exact I.mod.glob.keeps I.bk) hm h) hd
def l_6{E:AA}{zd:AE}{s:Shared}{σ:St}{H:Hp}{x:Str}{u:Value}{pos:Pos}{Q:AA}(I:Inv X zd σ H s)(hg:Gl X x)(hm:X.mg x=none)(hv:bootBuiltins x=some u)(h:Q u s)
  (hn:x≠ "__name__" :=by decide) (hd:AG x:=by decide):wpAny (model X.prog X.w) X.A (eval (.Name x pos) X.env) Q E s:=by
 obtain⟨mb,h1,h2⟩:=I.mod.blt;exact Y3 I.ok.kind hg (Calls.loadGlobal_builtin (by rw[I.ok.glob];exact I.mod.glob.keeps I.bk) hm (by rw[I.ok.blt];exact h1.keeps I.bk) ((h2 x hn).trans hv) h) hd
def bv_9{x:Str}{v:V}{u:Value}{pos:Pos}(hg:Gl X x)(hm:X.mg x=some u)(r:RelV v u)(hd:AG x:=by decide):PE X (.Name x pos) (tC v):=
 λ_ _ _ H _ I h=>s_1 I hg hm ⟨v,H,I,r,h⟩ hd
def ct_9{x:Str}{v:V}{u:Value}{pos:Pos}(hg:Gl X x)(hm:X.mg x=none)(hv:bootBuiltins x=some u)(r:RelV v u)(hn:x≠ "__name__" :=by decide)(hd:AG x:=by decide):PE X (.Name x pos) (tC v):=
 λ_ _ _ H _ I h=>l_6 I hg hm hv ⟨v,H,I,r,h⟩ hn hd
variable{a b:Expr}{ta tb:TE}{pos:Pos}
variable{tA tB':TT}{v_2:List Expr}
def tAnd(t u:TT):TT:=λ σ H Q=>t σ H λc H1=>if c=true then u σ H1 Q else Q false H1
def tOr(t u:TT):TT:=λ σ H Q=>t σ H λc H1=>if c=true then Q true H1 else u σ H1 Q
def tNot(t:TT):TT:=λ σ H Q=>t σ H λc H1=>Q (!c) H1
def cu_0(ha:PT X a tA):PW X (.BoolOp .And [a] pos) tA:=by
 intro wh zd s σ H Q I h;refine isTrue_and (Ax (ha zd s σ H Q I h) λc s1 e=> ?_);cases c with
 |true=>exact isTrue_and_nil e
 |false=>exact e
def dg_5(ha:PT X a tA):PW X (.BoolOp .Or [a] pos) tA:=by
 intro wh zd s σ H Q I h;refine isTrue_or (Ax (ha zd s σ H Q I h) λc s1 e=> ?_);cases c with
 |false=>exact isTrue_or_nil e
 |true=>exact e
def dg_6(ha:PT X a tA)(hb:PW X (.BoolOp .And (b::v_2) pos) tB'):PW X (.BoolOp .And (a::b::v_2) pos) (tAnd tA tB'):=by
 intro wh zd s σ H Q I h;refine isTrue_and (Ax (ha zd s σ H _ I h) λc s1 ⟨H1,I1,q1⟩=> ?_);cases c with
 |true=>exact hb wh zd s1 σ H1 Q I1 q1
 |false=>exact⟨H1,I1,q1⟩
def dn_5(ha:PT X a tA)(hb:PW X (.BoolOp .Or (b::v_2) pos) tB'):PW X (.BoolOp .Or (a::b::v_2) pos) (tOr tA tB'):=by
 intro wh zd s σ H Q I h;refine isTrue_or (Ax (ha zd s σ H _ I h) λc s1 ⟨H1,I1,q1⟩=> ?_);cases c with
 |true=>exact⟨H1,I1,q1⟩
 |false=>exact hb wh zd s1 σ H1 Q I1 q1
def dg_7(ha:PT X a tA):PT X (.UnaryOp .Not a pos) (tNot tA):=by
 intro zd s σ H Q I h;exact isTrue_not (ha zd s σ H (λc H1=>Q (!c) H1) I h)
def dn_6(ta tb:TE):TE:=λ σ H Q=>ta σ H λx H1=>∃c,x=.bl c/\if c=true then tb σ H1 Q else Q (.bl false) H1
def dn_7(ta:TE):TE:=λ σ H Q=>ta σ H λx H1=>∃c,x=.bl c/\Q (.bl (!c)) H1
def dg_8{op}{t:TE}(h:PE X a t):PE X (.BoolOp op [a] pos) t:=λzd s σ H Q I hw=>BoolOp_one (h zd s σ H Q I hw)
def dg_9(ha:PE X a ta)(hb:PE X (.BoolOp .And (b::v_2) pos) tb):PE X (.BoolOp .And (a::b::v_2) pos) (dn_6 ta tb):=by
 intro zd s σ H Q I h;refine BoolOp_and (Ax (ha zd s σ H _ I h) λv s1 ⟨x,H1,I1,r1,q1⟩=> ?_);obtain⟨c,rfl,q1⟩:=q1;cases r1;refine P8 ?_;cases c with
 |true=>exact hb zd s1 σ H1 Q I1 q1
 |false=>exact⟨.bl false,H1,I1,rfl,q1⟩
def dh_0(ha:PE X a ta):PE X (.UnaryOp .Not a pos) (dn_7 ta):=by
 intro zd s σ H Q I h;refine UnaryOp_ (Ax (ha zd s σ H _ I h) λv s1 ⟨x,H1,I1,r1,q1⟩=> ?_);obtain⟨c,rfl,q1⟩:=q1;cases r1;exact not_of (P8 ⟨.bl (!c),H1,I1,rfl,q1⟩)
end
def SqL(K:Frag)(H:Hp)(a:Addr)(xs:List V):Prop:=
 Rd H a (.lst xs)\/
  ∃(o:Obj) (its:Array Value) (n:Nat),K.lookup a=some o/\o.cls=.type "list" /\o.dict=none/\o.data=.seq its n/\its.size<=sizeLine/\Vals xs its.toList
def SqT(K:Frag)(H:Hp)(a:Addr)(xs:List V):Prop:=
 Rd H a (.tup xs)\/
  ∃(o:Obj) (its:Array Value) (n:Nat),K.lookup a=some o/\o.cls=.type "tuple" /\o.data=.seq its n/\its.size<=sizeLine/\Vals xs its.toList
def absV:Value->Option V
 | .none=>some .non
 | .bool b=>some (.bl b)
 | .int i _=>some (.int i)
 | .str x _=>some (.str x)
 | .bytes b _=>some (.byt b)
 | .float b _=>some (.flt b)
 | .ref a=>some (.ref a)
 | .type n=>some (.ty n)
 |_=>none
def RelV.abs{x:V}{u:Value}(r:RelV x u):absV u=some x:=by
 cases x with
 |non=>cases r;rfl
 |bl _=>cases r;rfl
 |int _=>obtain⟨t,rfl⟩:=r;rfl
 |str _=>obtain⟨t,rfl⟩:=r;rfl
 |byt _=>obtain⟨t,rfl⟩:=r;rfl
 |flt _=>obtain⟨t,rfl⟩:=r;rfl
 |ref _=>cases r;rfl
 |ty _=>cases r;rfl
theorem RelV.inj{x y:V}{u:Value}(r:RelV x u)(q:RelV y u):x=y:=K4 (r.abs.symm.trans q.abs)
theorem Vals.inj:∀{xs ys:List V} {us:List Value},Vals xs us->Vals ys us->xs=ys
 |_,_,_,.nil,.nil=>rfl
 |_,_,_,.cons r t,.cons r' t'=>by rw[r.inj r',Vals.inj t t']
section
variable{X:Cx}{zd:AE}{σ:St}{H:Hp}{s:Shared}{a:Addr}{xs ys:List V}
def SqL.of{K:Frag}(h:H a=some (.lst xs)):SqL K H a xs:=.inl (.inl h)
def SqT.of{K:Frag}(h:H a=some (.tup xs)):SqT K H a xs:=.inl (.inl h)
def Inv.list(I:Inv X zd σ H s)(h:SqL X.K H a xs):∃its:List Value,Vals xs its/\PlainL s.heap a its.toArray/\xs.length<=sizeLine:=by
 rcases h with h|⟨o,its,n,hk,hc,hd,hs,hz,r⟩
 ·obtain⟨z,its,n,r,e⟩:=h.ok I.hok;exact⟨its,r,⟨_,n,e,rfl,rfl,rfl⟩,z⟩
 ·refine⟨its.toList,r,⟨o,n,I.kIn a o hk,hc,hd,by simpa using hs⟩, ?_⟩;have e:=r.length;simp only[L5]at e;omega
def Inv.tuple(I:Inv X zd σ H s)(h:SqT X.K H a xs):∃its:List Value,Vals xs its/\IsTup s.heap a its.toArray/\xs.length<=sizeLine:=by
 rcases h with h|⟨o,its,n,hk,hc,hs,hz,r⟩
 ·obtain⟨z,its,r,p⟩:=h.ok I.hok;exact⟨its,r,p,z⟩
 ·refine⟨its.toList,r,⟨o,I.kIn a o hk,hc,n,by simpa using hs⟩, ?_⟩;have e:=r.length;simp only[L5]at e;omega
def Inv.list_inj(I:Inv X zd σ H s)(h:SqL X.K H a xs)(h':SqL X.K H a ys):xs=ys:=by
 obtain⟨its,r,⟨o,n,e,_,_,d⟩,_⟩:=I.list h;obtain⟨its',r',⟨o',n',e',_,_,d'⟩,_⟩:=I.list h';rw[e]at e';cases e';rw[d]at d';injection d' with d1 _
 have:its=its':=by simpa using K5 Array.toList d1
 subst this;exact r.inj r'
def Inv.tuple_inj(I:Inv X zd σ H s)(h:SqT X.K H a xs)(h':SqT X.K H a ys):xs=ys:=by
 obtain⟨its,r,⟨o,e,_,n,d⟩,_⟩:=I.tuple h;obtain⟨its',r',⟨o',e',_,n',d'⟩,_⟩:=I.tuple h';rw[e]at e';cases e';rw[d]at d';injection d' with d1 _
 have:its=its':=by simpa using K5 Array.toList d1
 subst this;exact r.inj r'
end
abbrev Cx.wish(X:Cx)(E:AA):Cx:={X with xe:=E}
abbrev Cx.nox(X:Cx):Cx:=X.wish λ_ _=>False
theorem Cx.Ok.wish{X:Cx}(ok:X.Ok)(E:AA):(X.wish E).Ok:=
 ⟨ok.mod,ok.kind,ok.glob,ok.blt,ok.above,ok.inj,ok.has,ok.cab,ok.hd,ok.frames,ok.stk,ok.exf,ok.bs,ok.bsz,ok.noex,ok.exfs,ok.funs,ok.frf,ok.tb⟩
def Cx.Ok.unwish{X:Cx}{E:AA}(ok:(X.wish E).Ok):X.Ok:=
 ⟨ok.mod,ok.kind,ok.glob,ok.blt,ok.above,ok.inj,ok.has,ok.cab,ok.hd,ok.frames,ok.stk,ok.exf,ok.bs,ok.bsz,ok.noex,ok.exfs,ok.funs,ok.frf,ok.tb⟩
section
variable{X:Cx}{zd:AE}{σ:St}{H:Hp}{s:Shared}{E:AA}
theorem Inv.wish(I:Inv X zd σ H s)(E:AA):Inv (X.wish E) zd σ H s:=⟨I.ok.wish E,I.os,I.bare,I.base,I.loc,I.cell,I.free,I.freeC,I.pin,I.hok,I.len⟩
theorem Inv.unwish(I:Inv (X.wish E) zd σ H s):Inv X zd σ H s:=⟨I.ok.unwish,I.os,I.bare,I.base,I.loc,I.cell,I.free,I.freeC,I.pin,I.hok,I.len⟩
theorem SP.unwish{D:Ends}{f:Flow}{s':Shared}(h:SP (X.wish E) zd D f s'):SP X zd D f s':=by
 cases f with
 |next=>obtain⟨σ',H',I,q⟩:=h;exact⟨σ',H',I.unwish,q⟩
 |brk=>obtain⟨σ',H',I,q⟩:=h;exact⟨σ',H',I.unwish,q⟩
 |cont=>obtain⟨σ',H',I,q⟩:=h;exact⟨σ',H',I.unwish,q⟩
 |ret u=>obtain⟨v,σ',H',I,r,q⟩:=h;exact⟨v,σ',H',I.unwish,r,q⟩
theorem PE.nox{e:Expr}{t:TE}(h:PE X.nox e t):PE X e t:=λzd s σ H Q I hw=>
 D1 (h zd s σ H Q (I.wish _) hw) (λ_ _ ⟨v,H',I',r,q⟩=>⟨v,H',I'.unwish,r,q⟩) λ_ _ z=>False.elim z
end
section
variable{X:Cx}{st:Stmt}{v_2:List Stmt}{t u:TS}{e:Expr}{te:TE}{pos:Pos}
def dn_8:TS:=λD σ H=>D.nx σ H
def tSeq(t u:TS):TS:=λD σ H=>t {D with nx:=u D} σ H
def cu_1:PSs X [] dn_8:=λ_ _ σ H _ I h=>T5 ⟨σ,H,I,h⟩
def cg_8(h1:PS X st t)(h2:PSs X v_2 u):PSs X (st::v_2) (tSeq t u):=by
 intro zd s σ H D I h;refine wpAny_execs_cons (Ax (h1 zd s σ H {D with nx:=u D} I h) λf s1 q=> ?_);cases f with
 |next=>
  obtain⟨σ',H',I',q⟩:=q;exact h2 zd s1 σ' H' D I' q
 |ret v=>exact q
 |brk=>exact q
 |cont=>exact q
def an_7(h1:PS X st t):PSs X [st] t:=by
 intro zd s σ H D I h;refine wpAny_execs_cons (Ax (h1 zd s σ H D I h) λf s1 q=> ?_);cases f with
 |next=>exact T5 q
 |ret v=>exact q
 |brk=>exact q
 |cont=>exact q
def Inv.quiet{zd:AE}{σ:St}{H:Hp}{s:Shared}(I:Inv X zd σ H s):interactive X.env=false:=by simp[interactive,I.ok.kind]
def dn_9(te:TE):TS:=λD σ H=>te σ H λ_ H1=>D.nx σ H1
def z_8(he:PE X e te)(hs:swapsWith e none pos.line X.env=pure false:=by rfl):PS X (.Expr e pos) (dn_9 te):=by
 intro zd s σ H D I h;exact wpAny_Expr_any (Ax (he zd s σ H _ I h) λv s1 ⟨x,H1,I1,r1,q1⟩=>⟨σ,H1,I1,q1⟩) I.quiet hs
def tRet(te:TE):TS:=λD σ H=>te σ H D.rt
def cg_9(he:PE X e te):PS X (.Return (some e) pos) (tRet te):=by
 intro zd s σ H D I h;exact wpAny_Return_some (Ax (he zd s σ H _ I h) λv s1 ⟨x,H1,I1,r1,q1⟩=>⟨x,σ,H1,I1,r1,q1⟩)
def tIfS(c:TT)(t u:TS):TS:=λD σ H=>c σ H λb H1=>if b=true then t D σ H1 else u D σ H1
def do_0{c:Expr}{a b:List Stmt}{tc:TT}(hc:PT X c tc)(ha:PSs X a t)(hb:PSs X b u):PS X (.If c a b pos) (tIfS tc t u):=by
 intro zd s σ H D I h;refine wpAny_If (Ax (hc zd s σ H _ I h) λd s1 ⟨H1,I1,q1⟩=> ?_);cases d with
 |true=>exact ha zd s1 σ H1 D I1 q1
 |false=>exact hb zd s1 σ H1 D I1 q1
end
abbrev TG:=V->St->Hp->(St->Hp->Prop)->Prop
abbrev TGs:=List V->St->Hp->(St->Hp->Prop)->Prop
def PG(X:Cx)(target:Expr)(t:TG):Prop:=
 ∀(zd:AE) (s:Shared) (σ:St) (H:Hp) (v:V) (u:Value) (Q:St->Hp->Prop),Inv X zd σ H s->RelV v u->t v σ H Q->
  wpAny (model X.prog X.w) X.A (assign target X.env u) (λ_ s'=>∃σ' H',Inv X zd σ' H' s'/\Q σ' H') X.xe s
def PGs(X:Cx)(ts:List Expr)(t:TGs):Prop:=
 ∀(zd:AE) (s:Shared) (σ:St) (H:Hp) (vs:List V) (us:List Value) (Q:St->Hp->Prop),Inv X zd σ H s->Vals vs us->t vs σ H Q->
  wpAny (model X.prog X.w) X.A (assignInOrder ((assignEach ts X.env).map (·.2)) us) (λ_ s'=>∃σ' H',Inv X zd σ' H' s'/\Q σ' H') X.xe s
abbrev TSet:=V->V->V->Hp->(Hp->Prop)->Prop
def PSet(X:Cx)(t:TSet):Prop:=
 ∀(zd:AE) (s:Shared) (σ:St) (H:Hp) (o i v:V) (ov iv u:Value) (Q:Hp->Prop),Inv X zd σ H s->RelV o ov->RelV i iv->RelV v u->t o i v H Q->
  wpAny (model X.prog X.w) X.A (setItem ov iv u) (λ_ s'=>∃H',Inv X zd σ H' s'/\Q H') X.xe s
section
variable{X:Cx}{pos:Pos}
def ax_5(i:Nat):TG:=λv σ H Q=>Q (σ.set i (some v)) H
def z_9{i:Nat}{x:Str}(hN:X.N.Nodup)(hi:X.N[i]? =some x)(hx:Loc X.env.scope x)(hf:X.fn x=true\/X.env.scope.names.lookup x=some .local:=by trivial):PG X (.Name x pos) (ax_5 i):=by
 intro zd s σ H v u Q I r h;exact Z2 (ap_3 I hN hi hx r (λs' I'=>⟨_,H,I',h⟩) hf)
def gNil:TGs:=λvs σ H Q=>vs= []/\Q σ H
def do_2(t:TG)(u:TGs):TGs:=λvs σ H Q=>∃v r,vs=v::r/\t v σ H λ σ' H'=>u r σ' H' Q
def bw_0:PGs X [] gNil:=by
 intro zd s σ H vs us Q I r h;obtain⟨e,h⟩:=h;subst e;cases r;exact assignInOrder_nil ⟨σ,H,I,h⟩
def ae_2{e:Expr}{es:List Expr}{t:TG}{u:TGs}(h1:PG X e t)(h2:PGs X es u)
  (hs:(assignEach (e::es) X.env).map (·.2)=assign e X.env::(assignEach es X.env).map (·.2):=by rfl):PGs X (e::es) (do_2 t u):=by
 intro zd s σ H vs us Q I r h;obtain⟨v,vr,e1,h⟩:=h;subst e1;cases r with
 |cons r rr=>
  rw[hs];refine assignInOrder_cons (Ax (h1 zd s σ H _ _ _ I r h) λ_ s1 ⟨σ1,H1,I1,q1⟩=> ?_);exact h2 zd s1 σ1 H1 _ _ Q I1 rr q1
def gTup(K:Frag)(n:Nat)(t:TGs):TG:=λv σ H Q=>∃a xs,v=.ref a/\SqT K H a xs/\xs.length=n/\t xs σ H Q
def ch_0{es:List Expr}{k:Nat}{t:TGs}{n:Nat}(hc:X.calm=true)(h:PGs X es t)
  (hn:(assignEach es X.env).length=n:=by rfl) (hst:(assignEach es X.env).findIdx? (·.1)=none:=by rfl):PG X (.Tuple es k pos) (gTup X.K n t):=by
 intro zd s σ H v u Q I r hw;obtain⟨a,xs,e1,hq,hl,hw⟩:=hw;subst e1;cases r;obtain⟨its,rv,ht,hz⟩:=I.tuple hq;refine assign_Tuple_tuple (I.ok.hd hc) ht (by simp[hn,<-hl,rv.length]) hst λh' hx=> ?_;have I1:Inv X zd σ H {s with heap:=h'}:=I.kept (t':=s.toks) λb o e=>hx b o (B4 (A6 e)) e;exact h zd _ σ H xs _ Q I1 (by simpa using rv) hw
def gSub(to ti:TE)(t:TSet):TG:=λv σ H Q=>to σ H λo H1=>ti σ H1 λi H2=>t o i v H2 λH3=>Q σ H3
def dh_2{o i:Expr}{to ti:TE}{t:TSet}(ho:PE X o to)(hi:PE X i ti)(hs:PSet X t)
  (ha:∀v,assign (.Subscript o i pos) X.env v=(do
   let ov<-holding [v] (eval o X.env)
   let iv<-holding [v,ov] (eval i X.env)
   standAt pos
   holding [v,ov,iv] (setItem ov iv v)
   release [v,ov,iv] []):=by intro _;rfl):PG X (.Subscript o i pos) (gSub to ti t):=by
 intro zd s σ H v u Q I r h;rw[ha];refine A4 (M7 (Ax (ho zd s σ H _ I h) λov s1 ⟨x,H1,I1,r1,q1⟩=> ?_));refine A4 (M7 (Ax (hi zd s1 σ H1 _ I1 q1) λiv s2 ⟨y,H2,I2,r2,q2⟩=> ?_));refine A4 (O6 (A4 (M7 (Ax (hs zd s2 σ H2 x y v ov iv u _ I2 r1 r2 r q2) λ_ s3 ⟨H3,I3,q3⟩=> ?_))));exact wpAny_release ⟨σ,H3,I3,q3⟩
def tAsg(te:TE)(g:TG):TS:=λD σ H=>te σ H λx H1=>g x σ H1 D.nx
def ch_1{tg e:Expr}{te:TE}{g:TG}(he:PE X e te)(hg:PG X tg g)(hs:swapsWithSole [tg] e pos.line X.env=pure false:=by rfl)(hw:swappedStores [tg] e X.env=pure none:=by rfl)
  (h1:(assignEach [tg] X.env).map (·.2)= [assign tg X.env]:=by rfl):PS X (.Assign [tg] e pos) (tAsg te g):=by
 intro zd s σ H D I h;refine wpAny_Assign_stores (Ax (he zd s σ H _ I h) λv s1 ⟨x,H1,I1,r1,q1⟩=> ?_) hs hw;rw[h1];exact Ax (hg zd s1 σ H1 x v _ I1 r1 q1) λ_ s2 q=>q
def ch_2{i:Nat}{x:Str}{e:Expr}{te:TE}{pos':Pos}(hN:X.N.Nodup)(hi:X.N[i]? =some x)(hx:Loc X.env.scope x)(he:PE X e te)(hs:swapsWith e (some (.Name x pos')) pos.line X.env=pure false:=by rfl)(hf:X.fn x=true\/X.env.scope.names.lookup x=some .local:=by trivial):
  PS X (.Assign [.Name x pos'] e pos) (tAsg te (ax_5 i)):=by
 intro zd s σ H D I h;refine wpAny_Assign_Name (Ax (he zd s σ H _ I h) λv s1 ⟨y,H1,I1,r1,q1⟩=> ?_) hs;exact ap_3 I1 hN hi hx r1 (λs2 I2=>⟨_,H1,I2,q1⟩) hf
end
section
variable{X:Cx}{pos:Pos}
def dh_3(c:TT)(tb:TS):TS:=λD σ H=>∃W:Nat->St->Hp->Prop,(∃m,W m σ H)/\∀m σ H,W m σ H->
 c σ H λb H1=>if b=true then∃N:St->Hp->Prop,(∀σ' H',N σ' H'->∃m',m' < m/\W m' σ' H')/\tb {D with nx:=N,ct:=N,bk:=D.nx} σ H1 else D.nx σ H1
def ch_3{c:Expr}{body:List Stmt}{tc:TT}{tb:TS}(hp:PassesOwn (model X.prog X.w) X.A X.env X.xe)(hc:PT X c tc)(hb:PSs X body tb):PS X (.While c body [] pos) (dh_3 tc tb):=by
 intro zd s σ H D I h;obtain⟨W,⟨m0,w0⟩,turn⟩:=h;refine wpAny_While (codeAny_whileLoop (λn s'=>∃σ' H',Inv X zd σ' H' s'/\W n σ' H') ?_ m0 ⟨σ,H,I,w0⟩)
 rintro n s1 ⟨σ1,H1,I1,w1⟩
 refine P3 hp (Ax (hc zd s1 σ1 H1 _ I1 (turn n σ1 H1 w1)) λb s2 ⟨H2,I2,q2⟩=> ?_);cases b with
 |true=>
  obtain⟨N,hN,q2⟩:=q2;rw[if_pos rfl];refine P3 hp (Ax (hb zd s2 σ1 H2 _ I2 q2) λf s3 q3=> ?_);cases f with
  |next=>
   obtain⟨σ3,H3,I3,n3⟩:=q3;obtain⟨m',hm,w3⟩:=hN σ3 H3 n3;exact⟨m',hm,σ3,H3,I3,w3⟩
  |cont=>
   obtain⟨σ3,H3,I3,n3⟩:=q3;obtain⟨m',hm,w3⟩:=hN σ3 H3 n3;exact⟨m',hm,σ3,H3,I3,w3⟩
  |brk=>exact q3
  |ret v=>exact q3
 |false=>
  rw[if_neg A7];exact T5 ⟨σ1,H2,I2,q2⟩
end
structure It where
 go:Nat->Hp->Prop
 yld:Nat->Hp->V->Hp->Prop
 stop:Nat->Hp->Prop
def Ea(X:Cx)(zd:AE)(H:Hp)(b:Addr):Prop:=
 H b=none/\b≠X.env.locals/\b∉X.fs/\(b∈X.ex\/X.s₀.heap.objs.size<=b)/\(∀x c,X.env.cells.lookup x=some c->c≠b)/\∀p∈X.pn ++ zd,p.1≠b
def Inv.fpOk{X:Cx}{zd:AE}{σ:St}{H H':Hp}{s:Shared}{b:Addr}(I:Inv X zd σ H s)(hb:s.heap.objs.size<=b)(hn:H' b=none):Ea X zd H' b:=by
 refine⟨hn,R6 (B9 I.lt hb),I.nofs hb,.inr (C7 I.sz hb),λx c e z=> ?_,λp hp z=> ?_⟩
 ·obtain⟨v,q⟩:=I.cell x c e;exact absurd (B9 q.lt (by rw[z];exact hb)) (E9 _)
 ·exact absurd (B9 (A6 (I.pin p hp).1) (by rw[z];exact hb)) (E9 _)
structure Turn(P:Program)(w:World)(K:Frag)(tg:Expr)(J:It)(fp:List Addr)(it:Addr)(tn:Nat->Heap->Prop):Prop where
 mem:it∈fp
 obj:∀i h,tn i h->∀b∈fp,∃o,h.get? b=some o/\∀v,o.data≠ .cell v
 keep:∀i h h',tn i h->(∀b∈fp,∀o,h.get? b=some o->h'.get? b=some o)->tn i h'
 item:∀(X:Cx),X.prog=P->X.w=w->X.K=K->X.calm=true->∀(i:Nat) (zd:AE) (s:Shared) (σ:St) (H:Hp) (E:AA),Inv X zd σ H s->(∀b∈fp,Ea X zd H b)->tn i s.heap->J.go i H->
  wpAny (model P w) X.A (pyNext (.ref it)) (λr s1=>∃u,r=some u/\
   wpAny (model P w) X.A (letOwnedTupleGo tg (.ref it) u) (λ_ s2=>∃x H',Inv X zd σ H' s2/\RelV x u/\J.yld i H x H'/\tn (i + 1) s2.heap/\∀b∈fp,H' b=none) E s1) E s
 done:∀(X:Cx),X.prog=P->X.w=w->X.K=K->X.calm=true->∀(i:Nat) (zd:AE) (s:Shared) (σ:St) (H:Hp) (E:AA),Inv X zd σ H s->(∀b∈fp,Ea X zd H b)->tn i s.heap->J.stop i H->
  wpAny (model P w) X.A (pyNext (.ref it)) (λr s1=>r=none/\Inv X zd σ H s1) E s
 self:∀(A:Around) (i:Nat) (s:Shared) (Q:AA) (E:AA),tn i s.heap->Q (.ref it) s->wpAny (model P w) A (pyIter (.ref it)) Q E s
abbrev TI:=St->Hp->(It->Hp->Prop)->Prop
def PIE(X:Cx)(zd:AE)(σ:St)(tg:Expr)(R:It->Hp->Prop)(itv:Value)(s2:Shared):Prop:=
 ∃(it:Addr) (fp:List Addr) (tn:Nat->Heap->Prop) (J:It) (H':Hp),itv=.ref it/\Inv X zd σ H' s2/\Turn X.prog X.w X.K tg J fp it tn/\tn 0 s2.heap/\(∀b∈fp,Ea X zd H' b)/\R J H'
def PI(X:Cx)(tg iter:Expr)(wi:TI):Prop:=
 ∀(zd:AE) (s:Shared) (σ:St) (H:Hp) (R:It->Hp->Prop),Inv X zd σ H s->wi σ H R->
  wpAny (model X.prog X.w) X.A (eval iter X.env) (λv s1=>wpAny (model X.prog X.w) X.A (pyIter v) (PIE X zd σ tg R) X.xe s1) X.xe s
def bj_3{M:Model}{A:Around}{E:AA}{s:Shared}{tg:Expr}{it:Addr}{u:Value}{o:Obj}{n:String}{vs:Array Value}{Q:Unit->Shared->Prop}(ho:s.heap.get? it=some o)(hc:o.cls=.type n)(hd:o.data=.fields vs)
  (hn: ["enumerate","zip","dict_itemiterator","dict_reverseitemiterator","odict_iterator","itertools.zip_longest","itertools.pairwise"].contains n=false) (hQ:Q .unit s):wpAny M A (letOwnedTupleGo tg (.ref it) u) Q E s:=by
 unfold letOwnedTupleGo;cases tg <;> first
  |exact C5 hQ
  | (cases u <;> first
    |exact C5 hQ
    | (refine A4 (wpAny_load ho ?_)
       rw[hc,hd];show wpAny M A (if(["enumerate","zip","dict_itemiterator","dict_reverseitemiterator","odict_iterator","itertools.zip_longest","itertools.pairwise"].contains n && vs[0]? ==some (rawInt _))=true then _ else _) Q E s;rw[if_neg (by intro h;rw[hn,Bool.false_and]at h;cases h)];exact C5 hQ))
def Itl(K:Frag)(a:Addr):It:=
 ⟨λi H=>∃xs x,SqL K H a xs/\xs[i]? =some x,λi H x H'=>H'=H/\∀xs,SqL K H a xs->xs[i]? =some x,λi H=>∃xs,SqL K H a xs/\xs.length<=i⟩
def Itt(K:Frag)(a:Addr):It:=
 ⟨λi H=>∃xs x,SqT K H a xs/\xs[i]? =some x,λi H x H'=>H'=H/\∀xs,SqT K H a xs->xs[i]? =some x,λi H=>∃xs,SqT K H a xs/\xs.length<=i⟩
def Itr(lo:Int)(n:Nat):It:=⟨λi _=>i < n,λi H x H'=>H'=H/\x=.int (lo + i),λi _=>n<=i⟩
def cb_6{P:Program}{w:World}{K:Frag}{tg:Expr}(a it:Addr):Turn P w K tg (Itl K a) [it] it (λi h=>h.IsListIter it a i) where
 mem:=by simp
 obj:=λi h st b hb=>by
  have e:b=it:=by simpa using hb
  subst e;obtain⟨o,e,c,d⟩:=st;exact⟨o,e,λv z=>by rw[d]at z;cases z⟩
 keep:=λi h h' st k=>st.at λo e=>k it (by simp) o e
 item:=by
  intro X hP hw hK hc i zd s σ H E I hf st hg;subst hP hw hK;obtain⟨xs,x,hq,hx⟩:=hg;obtain⟨its,rv,p,hz⟩:=I.list hq;obtain⟨u,hu,ru⟩:=rv.get hx;obtain⟨f0,f1,f2,f3,f4,f5⟩:=hf it (by simp);refine wpAny_pyNext_list_item st p.isList (x:=u) (by simpa using hu) λh' st' sb=> ?_;have I1:Inv X zd σ H {s with heap:=h'}:=I.turned (t':=s.toks) (λb o hb e=>(sb.2 b hb).trans e) f0 f1 f3 f4 f5;obtain⟨o,e,c,d⟩:=id st';exact⟨u,rfl,bj_3 (s:={s with heap:=h'}) e c d ⋯ ⟨x,H,I1,ru,⟨rfl,λys hy=>by rw[I.list_inj hy hq];exact hx⟩,st',λb hb=>(hf b hb).1⟩⟩
 done:=by
  intro X hP hw hK hc i zd s σ H E I hf st hg;subst hP hw hK;obtain⟨xs,hq,hx⟩:=hg;obtain⟨its,rv,p,hz⟩:=I.list hq;obtain⟨f0,f1,f2,f3,f4,f5⟩:=hf it (by simp);have hl:=rv.length;exact wpAny_pyNext_list_end (I.ok.hd hc) st p.isList (by simp;omega) λh' eb=>⟨rfl,I.turned (t':=s.toks) (λb o hb e=>eb b o hb e) f0 f1 f3 f4 f5⟩
 self:=λ_ _ _ _ _ st h=>wpAny_pyIter_listiter st h
def bq_7{P:Program}{w:World}{K:Frag}{tg:Expr}(a it:Addr):Turn P w K tg (Itt K a) [it] it (λi h=>h.IsTupleIter it a i) where
 mem:=by simp
 obj:=λi h st b hb=>by
  have e:b=it:=by simpa using hb
  subst e;obtain⟨o,e,c,d⟩:=st;exact⟨o,e,λv z=>by rw[d]at z;cases z⟩
 keep:=λi h h' st k=>st.at λo e=>k it (by simp) o e
 item:=by
  intro X hP hw hK hc i zd s σ H E I hf st hg;subst hP hw hK;obtain⟨xs,x,hq,hx⟩:=hg;obtain⟨its,rv,p,hz⟩:=I.tuple hq;obtain⟨u,hu,ru⟩:=rv.get hx;obtain⟨f0,f1,f2,f3,f4,f5⟩:=hf it (by simp);refine wpAny_pyNext_tuple_item st (show s.heap.IsTuple a its.toArray from p) (x:=u) (by simpa using hu) λh' st' sb=> ?_;have I1:Inv X zd σ H {s with heap:=h'}:=I.turned (t':=s.toks) (λb o hb e=>(sb.2 b hb).trans e) f0 f1 f3 f4 f5;obtain⟨o,e,c,d⟩:=id st';exact⟨u,rfl,bj_3 (s:={s with heap:=h'}) e c d ⋯ ⟨x,H,I1,ru,⟨rfl,λys hy=>by rw[I.tuple_inj hy hq];exact hx⟩,st',λb hb=>(hf b hb).1⟩⟩
 done:=by
  intro X hP hw hK hc i zd s σ H E I hf st hg;subst hP hw hK;obtain⟨xs,hq,hx⟩:=hg;obtain⟨its,rv,p,hz⟩:=I.tuple hq;obtain⟨f0,f1,f2,f3,f4,f5⟩:=hf it (by simp);have hl:=rv.length;exact wpAny_pyNext_tuple_end (I.ok.hd hc) st (show s.heap.IsTuple a its.toArray from p) (by simp;omega) λh' eb=>⟨rfl,I.turned (t':=s.toks) (λb o hb e=>eb b o hb e) f0 f1 f3 f4 f5⟩
 self:=λ_ _ _ _ _ st h=>wpAny_pyIter_tupleiter st h
def bq_8{P:Program}{w:World}{K:Frag}{tg:Expr}(it:Addr)(lo:Int)(n:Nat):Turn P w K tg (Itr lo n) [it] it (λi h=>IsRangeIter h it (lo + (i:Nat) * 1) ((n:Int) - (i:Nat)) 1) where
 mem:=by simp
 obj:=λi h st b hb=>by
  have e:b=it:=by simpa using hb
  subst e;exact⟨_,st,λv z=>by
   have z':Data.fields _=Data.cell v:=z;cases z'⟩
 keep:=λi h h' st k=>k it (by simp) _ st
 item:=by
  intro X hP hw hK hc i zd s σ H E I hf st hg;subst hP hw hK;obtain⟨f0,f1,f2,f3,f4,f5⟩:=hf it (by simp);have W:=Walks.range (prog:=X.prog) (w:=X.w) (I.ok.hd hc) it lo 1 n;refine W.item i s _ _ hg st λv h' tk hv st' kk=> ?_;obtain⟨t,rfl⟩:=hv;have I1:Inv X zd σ H {s with heap:=h',toks:=tk}:=I.turned (λb o hb e=>kk b o (by simpa using hb) e) f0 f1 f3 f4 f5;refine⟨_,rfl,bj_3 (s:={s with heap:=h',toks:=tk}) (n:= "range_iterator") st' rfl rfl ⋯ ⟨.int (lo + i),H,I1,⟨t, ?_⟩,⟨rfl,rfl⟩,st',λb hb=>(hf b hb).1⟩⟩;rw[Int.mul_one]
 done:=by
  intro X hP hw hK hc i zd s σ H E I hf st hg;subst hP hw hK;obtain⟨f0,f1,f2,f3,f4,f5⟩:=hf it (by simp);exact ZB1 (I.ok.hd hc) st (by have:n<=i:=hg;omega) λh' eb=>⟨rfl,I.turned (t':=s.toks) (λb o hb e=>eb b o hb e) f0 f1 f3 f4 f5⟩
 self:=λ_ _ _ _ _ st h=>ZB2 st h
section
variable{X:Cx}{tg:Expr}
def ch_4{zd:AE}{σ:St}{H:Hp}{s:Shared}{R:It->Hp->Prop}{E:AA}{lo hi:Int}{t u v:Tok}{tk:Nat}(I:Inv X zd σ H s)(h1: -(2 ^ 62)<=lo)(h2:lo < 2 ^ 62)(h3: -(2 ^ 62)<=hi)(h4:hi < 2 ^ 62)
  (q:R (Itr lo (hi - lo).toNat) H):wpAny (model X.prog X.w) X.A (pyIter (.ref s.heap.objs.size)) (PIE X zd σ tg R) E {s with heap:=s.heap.push {cls:=.type "range",data:=.fields #[.int lo t,.int hi u,.int 1 v]},toks:=tk}:=by
 refine wpAny_pyIter_range (IsRange.new ..) (small_one h1 h2 h3 h4) ?_;have I1:Inv X zd σ H {s with heap:=s.heap.push {cls:=.type "range",data:=.fields #[.int lo t,.int hi u,.int 1 v]},toks:=tk}:=I.kept λb o e=>A5 _ e;refine⟨(s.heap.push {cls:=.type "range",data:=.fields #[.int lo t,.int hi u,.int 1 v]}).objs.size,[(s.heap.push {cls:=.type "range",data:=.fields #[.int lo t,.int hi u,.int 1 v]}).objs.size],_,_,H,rfl,
  I1.kept (t':=tk) λb o e=>A5 _ e,bq_8 _ lo (hi - lo).toNat, ?_,λb hb=> ?_,q⟩
 ·have e1:lo + ((0:Nat):Int) * 1=lo:=by simp
  have e2:(((hi - lo).toNat:Nat):Int) - ((0:Nat):Int)=Builtin.Range.rangeSize lo hi 1:=by rw[rangeSize_one];split <;> omega
  show IsRangeIter _ _ (lo + ((0:Nat):Int) * 1) ((((hi - lo).toNat:Nat):Int) - ((0:Nat):Int)) 1;rw[e1,e2];exact B8 _ rfl
 ·have e:b=(s.heap.push {cls:=.type "range",data:=.fields #[.int lo t,.int hi u,.int 1 v]}).objs.size:=by simpa using hb
  subst e;exact I1.fpOk (A8 _) (I1.hok.fresh (A8 _))
def do_3(ta:TA):TI:=λ σ H R=>ta σ H λvs H1=>∃j:Int,vs= [.int j]/\ -(2 ^ 62)<=j/\j < 2 ^ 62/\R (Itr 0 j.toNat) H1
def cb_7{a:Expr}{ta:TA}{p pos:Pos}(hg:Gl X "range")(hm:X.mg "range" =none)(ha:PA X [a] ta)(hs:starEach [a] X.env= [(false,eval a X.env)]:=by rfl):PI X tg (.Call (.Name "range" p) [a] [] pos) (do_3 ta):=by
 intro zd s σ H R I h;refine Call_ (l_6 I hg hm boot_range (D6 (Ax (ha pos zd s σ H _ I h) λus s1 ⟨vs,H1,I1,r1,q1⟩=> ?_) hs rfl));obtain⟨j,e,q1,q2,q⟩:=q1;subst e;cases r1 with
 |cons r rr=>
  cases rr;obtain⟨t,rfl⟩:=r;exact ZD6 (ch_4 I1 () () q1 q2 (by simpa using q))
def tFor(wi:TI)(g:TG)(tb:TS):TS:=λD σ H=>wi σ H λJ H1=>∃W:Nat->Nat->St->Hp->Prop,(∃m,W 0 m σ H1)/\∀i m σ H,W i m σ H->
 (J.stop i H/\D.nx σ H)\/(J.go i H/\∃N:St->Hp->Prop,(∀σ' H',N σ' H'->∃m',m' < m/\W (i + 1) m' σ' H')/\∀x H',J.yld i H x H'->g x σ H' λ σ2 H2=>tb {D with nx:=N,ct:=N,bk:=D.nx} σ2 H2)
def ah_5(fp:List Addr)(h:Heap):AE:=fp.filterMap λb=>(h.get? b).map λo=>(b,o)
def o_1{fp:List Addr}{h:Heap}{b:Addr}{o:Obj}(hb:b∈fp)(e:h.get? b=some o):(b,o)∈ah_5 fp h:=List.mem_filterMap.mpr ⟨b,hb,by rw[e];rfl⟩
def cb_8{fp:List Addr}{h:Heap}{p:Addr×Obj}(hp:p∈ah_5 fp h):p.1∈fp/\h.get? p.1=some p.2:=by
 obtain⟨b,hb,e⟩:=List.mem_filterMap.mp hp;cases q:h.get? b with
 |none=>rw[q]at e;cases e
 |some o=>
  rw[q]at e;have e':(b,o)=p:=K4 e;subst e';exact⟨hb,q⟩
def Inv.pinned{zd:AE}{σ:St}{H:Hp}{s:Shared}{fp:List Addr}(I:Inv X zd σ H s)(hf:∀b∈fp,Ea X zd H b)(ho:∀b∈fp,∃o,s.heap.get? b=some o/\∀v,o.data≠ .cell v):Inv X (zd ++ ah_5 fp s.heap) σ H s:=
 I.pins_of λp hp=>(J7.mp hp).elim (λz=>I.pin p (A9 _ z)) λz=>by
  obtain⟨hb,e⟩:=cb_8 z;obtain⟨f0,f1,f2,_⟩:=hf p.1 hb;obtain⟨o,e',d⟩:=ho p.1 hb;rw[e]at e';cases e';exact⟨e,f0,f1,f2,d⟩
def Inv.unpinned{zd pl:AE}{σ:St}{H:Hp}{s:Shared}(I:Inv X (zd ++ pl) σ H s):Inv X zd σ H s:=I.pins_of λp hp=>I.pin p (A9 _ (M5 _ hp))
def dh_4{iter:Expr}{body:List Stmt}{wi:TI}{g:TG}{tb:TS}{pos:Pos}(hp:PassesOwn (model X.prog X.w) X.A X.env X.xe)(hc:X.calm=true)(hi:PI X tg iter wi)(hg:PG X tg g)(hb:PSs X body tb)
  (hs:∀x,foldedSetIterable iter X.env x=pure x:=by intro _;rfl):PS X (.For tg iter body [] pos) (tFor wi g tb):=by
 intro zd s σ H D I h;refine wpAny_For (Ax (hi zd s σ H _ I h) λv s1 h1=>Ax h1 λitv s2 h2=> ?_) hs;obtain⟨it,fp,tn,J,H2,e,I2,T,st2,f2,W,⟨m0,w0⟩,turn⟩:=h2;subst e
 
 have du:∀{H':Hp},(∀b∈fp,H' b=none)->∀b∈fp,Ea X zd H' b:=λhn b hb=>⟨hn b hb,(f2 b hb).2⟩;refine codeAny_forLoop_any (λn s'=>∃i σ' H',Inv X zd σ' H' s'/\tn i s'.heap/\(∀b∈fp,H' b=none)/\W i n σ' H') ?_ m0 ⟨0,σ,H2,I2,st2,λb hb=>(f2 b hb).1,w0⟩
 rintro n s3 ⟨i,σ3,H3,I3,st3,fr3,w3⟩
 rcases turn i n σ3 H3 w3 with⟨stop,qn⟩|⟨go,N,hN,step⟩
 ·refine P3 hp (Ax (T.done X rfl rfl rfl hc i zd s3 σ3 H3 X.xe I3 (du fr3) st3 stop) λr s4 ⟨hr,I4⟩=> ?_);subst hr;exact T5 ⟨σ3,H3,I4,qn⟩
 ·refine P3 hp (Ax (T.item X rfl rfl rfl hc i zd s3 σ3 H3 X.xe I3 (du fr3) st3 go) λr s4 ⟨u,hr,h4⟩=> ?_);subst hr;refine P3 hp (Ax h4 λ_ s5 ⟨x,H5,I5,r5,y5,st5,fr5⟩=> ?_);have I5':=I5.pinned (du fr5) (T.obj _ _ st5);refine P3 hp (Ax (hg _ s5 σ3 H5 x u _ I5' r5 (step x H5 y5)) λ_ s6 ⟨σ6,H6,I6,q6⟩=> ?_);refine P3 hp (Ax (hb _ s6 σ6 H6 _ I6 q6) λf s7 q7=> ?_);have again:∀{σ7:St} {H7:Hp},Inv X (zd ++ ah_5 fp s5.heap) σ7 H7 s7->N σ7 H7->∃m,m < n/\∃i σ' H',Inv X zd σ' H' s7/\tn i s7.heap/\(∀b∈fp,H' b=none)/\W i m σ' H':=λ{σ7 H7} I7 n7=>by
   obtain⟨m',hm,w7⟩:=hN σ7 H7 n7;refine⟨m',hm,i + 1,σ7,H7,I7.unpinned,T.keep _ _ _ st5 λb hb o e=>(I7.pin (b,o) (A9 _ (A9 _ (o_1 hb e)))).1,λb hb=> ?_,w7⟩;obtain⟨o,e,d⟩:=T.obj _ _ st5 b hb;exact(I7.pin (b,o) (A9 _ (A9 _ (o_1 hb e)))).2.1
  cases f with
  |next=>obtain⟨σ7,H7,I7,n7⟩:=q7;exact again I7 n7
  |cont=>obtain⟨σ7,H7,I7,n7⟩:=q7;exact again I7 n7
  |brk=>obtain⟨σ7,H7,I7,q7⟩:=q7;exact⟨σ7,H7,I7.unpinned,q7⟩
  |ret v=>obtain⟨x7,σ7,H7,I7,r7,q7⟩:=q7;exact⟨x7,σ7,H7,I7.unpinned,r7,q7⟩
end
abbrev R2:=V->V->Hp->VK->Prop
def OpR(X:Cx)(f:Value->Value->Sem Value)(r:R2):Prop:=
 ∀(zd:AE) (s:Shared) (σ:St) (H:Hp) (x y:V) (v u:Value) (Q:VK),Inv X zd σ H s->RelV x v->RelV y u->r x y H Q->
  wpAny (model X.prog X.w) X.A (f v u) (EP X zd σ Q) X.xe s
def UnR(X:Cx)(f:Value->Sem Value)(r:V->Hp->VK->Prop):Prop:=
 ∀(zd:AE) (s:Shared) (σ:St) (H:Hp) (x:V) (v:Value) (Q:VK),Inv X zd σ H s->RelV x v->r x H Q->
  wpAny (model X.prog X.w) X.A (f v) (EP X zd σ Q) X.xe s
def CallR(X:Cx)(f:Value)(r:List V->Hp->VK->Prop):Prop:=
 ∀(zd:AE) (s:Shared) (σ:St) (H:Hp) (xs:List V) (us:List Value) (Q:VK),Inv X zd σ H s->Vals xs us->r xs H Q->
  wpAny (model X.prog X.w) X.A (call f us) (EP X zd σ Q) X.xe s
def TruR(X:Cx)(r:V->Hp->(Bool->Hp->Prop)->Prop):Prop:=
 ∀(zd:AE) (s:Shared) (σ:St) (H:Hp) (x:V) (v:Value) (Q:Bool->Hp->Prop),Inv X zd σ H s->RelV x v->r x H Q->
  wpAny (model X.prog X.w) X.A (truthy v) (TP X zd σ Q) X.xe s
def tOp(r:R2)(ta tb:TE):TE:=λ σ H Q=>ta σ H λx H1=>tb σ H1 λy H2=>r x y H2 Q
def tUn(r:V->Hp->VK->Prop)(ta:TE):TE:=λ σ H Q=>ta σ H λx H1=>r x H1 Q
def rI(C:Int->Int->Prop)(g:Int->Int->V):R2:=λx y H Q=>∃i j,x=.int i/\y=.int j/\C i j/\Q (g i j) H
def rI0(g:Int->Int->V):R2:=λx y H Q=>∃i j,x=.int i/\y=.int j/\Q (g i j) H
def rU(g:Int->V):V->Hp->VK->Prop:=λx H Q=>∃i,x=.int i/\Q (g i) H
section
variable{X:Cx}{a b c:Expr}{ta tb tc:TE}{pos:Pos}
def binT(ha:PE X a ta)(hb:PE X b tb){zd:AE}{s:Shared}{σ:St}{H:Hp}{R:V->V->Hp->Prop}(I:Inv X zd σ H s)
  (h:ta σ H λx H1=>tb σ H1 λy H2=>R x y H2) {Q:AA} {f:Value->Value->Sem Value}
  (hf:∀v u s2 x y H2,Inv X zd σ H2 s2->RelV x v->RelV y u->R x y H2->wpAny (model X.prog X.w) X.A (f v u) Q X.xe s2):
  wpAny (model X.prog X.w) X.A (eval a X.env) (λv s₁=>wpAny (model X.prog X.w) X.A (eval b X.env) (λu s₂=>wpAny (model X.prog X.w) X.A (f v u) Q X.xe s₂) X.xe s₁) X.xe s:=by
 refine Ax (ha zd s σ H _ I h) λv s1 ⟨x,H1,I1,r1,q1⟩=> ?_;refine Ax (hb zd s1 σ H1 _ I1 q1) λu s2 ⟨y,H2,I2,r2,q2⟩=> ?_;exact hf v u s2 x y H2 I2 r1 r2 q2
def de_2{op:Operator}{r:R2}(ho:OpR X (binaryOp op) r)(ha:PE X a ta)(hb:PE X b tb):PE X (.BinOp a op b pos) (tOp r ta tb):=by
 intro zd s σ H Q I h;exact wpAny_BinOp (binT ha hb I h λv u s2 x y H2 I2 rx ry q=>ho zd s2 σ H2 x y v u Q I2 rx ry q)
def do_4{op:UnaryOp}{r:V->Hp->VK->Prop}(ho:UnR X (unaryOp op) r)(ha:PE X a ta):PE X (.UnaryOp op a pos) (tUn r ta):=by
 intro zd s σ H Q I h;exact UnaryOp_ (Ax (ha zd s σ H _ I h) λv s1 ⟨x,H1,I1,r1,q1⟩=>ho zd s1 σ H1 x v Q I1 r1 q1)
def opI{f:Value->Value->Sem Value}{C:Int->Int->Prop}{g:Int->Int->Int}
  (rule:∀(i j:Int) (t u:Tok) (s:Shared) (Q:AA) (E:AA),C i j->Q (.int (g i j) s.toks) {s with toks:=s.toks + 1}->wpAny (model X.prog X.w) X.A (f (.int i t) (.int j u)) Q E s):
  OpR X f (rI C λi j=> .int (g i j)):=by
 intro zd s σ H x y v u Q I rx ry h;obtain⟨i,j,rfl,rfl,hc,q⟩:=h;obtain⟨t,rfl⟩:=rx;obtain⟨t',rfl⟩:=ry;exact rule i j t t' s _ _ hc ⟨.int (g i j),H,I.tok _,⟨_,rfl⟩,q⟩
def opI0{f:Value->Value->Sem Value}{g:Int->Int->Int}
  (rule:∀(i j:Int) (t u:Tok) (s:Shared) (Q:AA) (E:AA),Q (.int (g i j) s.toks) {s with toks:=s.toks + 1}->wpAny (model X.prog X.w) X.A (f (.int i t) (.int j u)) Q E s):
  OpR X f (rI0 λi j=> .int (g i j)):=by
 intro zd s σ H x y v u Q I rx ry h;obtain⟨i,j,rfl,rfl,q⟩:=h;obtain⟨t,rfl⟩:=rx;obtain⟨t',rfl⟩:=ry;exact rule i j t t' s _ _ ⟨.int (g i j),H,I.tok _,⟨_,rfl⟩,q⟩
def opB0{f:Value->Value->Sem Value}{g:Int->Int->Bool}
  (rule:∀(i j:Int) (t u:Tok) (s:Shared) (Q:AA) (E:AA),Q (.bool (g i j)) s->wpAny (model X.prog X.w) X.A (f (.int i t) (.int j u)) Q E s):
  OpR X f (rI0 λi j=> .bl (g i j)):=by
 intro zd s σ H x y v u Q I rx ry h;obtain⟨i,j,rfl,rfl,q⟩:=h;obtain⟨t,rfl⟩:=rx;obtain⟨t',rfl⟩:=ry;exact rule i j t t' s _ _ ⟨.bl (g i j),H,I,rfl,q⟩
def CPow(i j:Int):Prop:=0<=j/\j<=1000000/\i.natAbs < 2 ^ 64
def CMul(i j:Int):Prop:=(-(2 ^ 64) < i/\i < 2 ^ 64)\/(-(2 ^ 64) < j/\j < 2 ^ 64)
def CMul.ok{i j:Int}(h:CMul i j):IntMulOk i j:=by
 rcases h with⟨h1,h2⟩|⟨h1,h2⟩
 ·exact .of_left (intBits_le_64 h1 h2)
 ·exact .of_right (intBits_le_64 h1 h2)
def dh_7:OpR X (binaryOp .Add) (rI0 λi j=> .int (i + j)):=opI0 λ_ _ _ _ _ _ _ q=>add_int q
def dh_8:OpR X (binaryOp .Mult) (rI CMul λi j=> .int (i * j)):=opI λ_ _ _ _ _ _ _ hc q=>mul_int q hc.ok
def dh_9:OpR X (binaryOp .Mod) (rI (λ_ j=>0 < j) λi j=> .int (i % j)):=opI λi j _ _ _ _ _ hc q=>by
 have h1:(0:Int) < j:=hc;exact mod_int' () (by rw[Int.fmod_eq_emod_of_nonneg i ()];exact q)
def di_0:OpR X (binaryOp .Pow) (rI CPow λi j=> .int (i ^ j.toNat)):=opI λ_ _ _ _ _ _ _ hc q=>pow_int_small hc.1 hc.2.1 hc.2.2 q
def unI{f:Value->Sem Value}{g:Int->Int}
  (rule:∀(i:Int) (t:Tok) (s:Shared) (Q:AA) (E:AA),Q (.int (g i) s.toks) {s with toks:=s.toks + 1}->wpAny (model X.prog X.w) X.A (f (.int i t)) Q E s):
  UnR X f (rU λi=> .int (g i)):=by
 intro zd s σ H x v Q I rx h;obtain⟨i,rfl,q⟩:=h;obtain⟨t,rfl⟩:=rx;exact rule i t s _ _ ⟨.int (g i),H,I.tok _,⟨_,rfl⟩,q⟩
def di_1:UnR X (unaryOp .USub) (rU λi=> .int (-i)):=unI λ_ _ _ _ _ q=>neg_int q
end
def scal:V->V->Bool
 | .non,.non=>true| .non,.int _=>true| .int _,.non=>true| .non,.bl _=>true| .bl _,.non=>true| .non,.str _=>true| .str _,.non=>true
 | .int _,.int _=>true| .bl _,.bl _=>true| .str _,.str _=>true| .byt _,.byt _=>true
 | .int _,.str _=>true| .str _,.int _=>true| .bl _,.str _=>true| .str _,.bl _=>true
 |_,_=>false
def rEq:R2:=λx y H Q=>scal x y=true/\Q (.bl (decide (x=y))) H
def rNe:R2:=λx y H Q=>scal x y=true/\Q (.bl (!decide (x=y))) H
def bw_1{i j:Int}:decide (V.int i=V.int j)=(i ==j):=by
 rw[P4];simp
def ch_5{i j:Bool}:decide (V.bl i=V.bl j)=(i ==j):=by
 rw[P4];simp
def bw_2{i j:Str}:decide (V.str i=V.str j)=(i ==j):=by
 rw[P4];simp
def bw_3{i j:Array UInt8}:decide (V.byt i=V.byt j)=(i.toList ==j.toList):=by
 rw[P4];cases i;cases j;simp
section
variable{X:Cx}{a b c:Expr}{ta tb tc:TE}{pos:Pos}
def Dc{zd:AE}{σ:St}{H:Hp}{s:Shared}{Q:VK}{k k':Bool}(I:Inv X zd σ H s)(q:Q (.bl k) H)(e:k=k'):EP X zd σ Q (.bool k') s:=by
 subst e;exact⟨.bl k,H,I,rfl,q⟩
def do_7:OpR X (compareOp .Eq) rEq:=by
 intro zd s σ H x y v u Q I rx ry h;obtain⟨hs,q⟩:=h;cases x with
 |non=>
  cases rx;cases y with
  |non=>cases ry;exact PySem.EqNone.eq_none_none (Dc I q (by simp))
  |bl j=>cases ry;exact PySem.EqNone.eq_none_bool (Dc I q (by simp))
  |int j=>obtain⟨t',rfl⟩:=ry;exact PySem.EqNone.eq_none_int (Dc I q (by simp))
  |str j=>obtain⟨t',rfl⟩:=ry;exact PySem.EqNone.eq_none_str (Dc I q (by simp))
  |_=>exact absurd (show false=true from hs) A7
 |bl i=>
  cases rx;cases y with
  |non=>cases ry;exact PySem.EqNone.eq_bool_none (Dc I q (by simp))
  |bl j=>cases ry;exact eq_bool (Dc I q ch_5)
  |str j=>obtain⟨t',rfl⟩:=ry;exact PySem.EqMixed.eq_bool_str (Dc I q (by simp))
  |_=>exact absurd (show false=true from hs) A7
 |int i=>
  obtain⟨t,rfl⟩:=rx;cases y with
  |non=>cases ry;exact PySem.EqNone.eq_int_none (Dc I q (by simp))
  |int j=>obtain⟨t',rfl⟩:=ry;exact eq_int (Dc I q bw_1)
  |str j=>obtain⟨t',rfl⟩:=ry;exact PySem.EqMixed.eq_int_str (Dc I q (by simp))
  |_=>exact absurd (show false=true from hs) A7
 |str i=>
  obtain⟨t,rfl⟩:=rx;cases y with
  |non=>cases ry;exact PySem.EqNone.eq_str_none (Dc I q (by simp))
  |bl j=>cases ry;exact PySem.EqMixed.eq_str_bool (Dc I q (by simp))
  |int j=>obtain⟨t',rfl⟩:=ry;exact PySem.EqMixed.eq_str_int (Dc I q (by simp))
  |str j=>obtain⟨t',rfl⟩:=ry;exact eq_str (Dc I q bw_2)
  |_=>exact absurd (show false=true from hs) A7
 |byt i=>
  obtain⟨t,rfl⟩:=rx;cases y with
  |byt j=>obtain⟨t',rfl⟩:=ry;exact eq_bytes (Dc I q bw_3)
  |_=>exact absurd (show false=true from hs) A7
 |_=>cases y <;> exact absurd (show false=true from hs) A7
def do_8:OpR X (compareOp .NotEq) rNe:=by
 intro zd s σ H x y v u Q I rx ry h;obtain⟨hs,q⟩:=h;cases x with
 |non=>
  cases rx;cases y with
  |non=>cases ry;exact PySem.EqNone.ne_none_none (Dc I q (by simp))
  |bl j=>cases ry;exact PySem.EqNone.ne_none_bool (Dc I q (by simp))
  |int j=>obtain⟨t',rfl⟩:=ry;exact PySem.EqNone.ne_none_int (Dc I q (by simp))
  |str j=>obtain⟨t',rfl⟩:=ry;exact PySem.EqNone.ne_none_str (Dc I q (by simp))
  |_=>exact absurd (show false=true from hs) A7
 |bl i=>
  cases rx;cases y with
  |non=>cases ry;exact PySem.EqNone.ne_bool_none (Dc I q (by simp))
  |bl j=>cases ry;exact ne_bool (Dc I q (K5 not ch_5))
  |str j=>obtain⟨t',rfl⟩:=ry;exact PySem.EqMixed.ne_bool_str (Dc I q (by simp))
  |_=>exact absurd (show false=true from hs) A7
 |int i=>
  obtain⟨t,rfl⟩:=rx;cases y with
  |non=>cases ry;exact PySem.EqNone.ne_int_none (Dc I q (by simp))
  |int j=>obtain⟨t',rfl⟩:=ry;exact ne_int (Dc I q (K5 not bw_1))
  |str j=>obtain⟨t',rfl⟩:=ry;exact PySem.EqMixed.ne_int_str (Dc I q (by simp))
  |_=>exact absurd (show false=true from hs) A7
 |str i=>
  obtain⟨t,rfl⟩:=rx;cases y with
  |non=>cases ry;exact PySem.EqNone.ne_str_none (Dc I q (by simp))
  |bl j=>cases ry;exact PySem.EqMixed.ne_str_bool (Dc I q (by simp))
  |int j=>obtain⟨t',rfl⟩:=ry;exact PySem.EqMixed.ne_str_int (Dc I q (by simp))
  |str j=>obtain⟨t',rfl⟩:=ry;exact ne_str (Dc I q (K5 not bw_2))
  |_=>exact absurd (show false=true from hs) A7
 |byt i=>
  obtain⟨t,rfl⟩:=rx;cases y with
  |byt j=>obtain⟨t',rfl⟩:=ry;exact ne_bytes (Dc I q (K5 not bw_3))
  |_=>exact absurd (show false=true from hs) A7
 |_=>cases y <;> exact absurd (show false=true from hs) A7
def do_9:OpR X (compareOp .Lt) (rI0 λi j=> .bl (decide (i < j))):=opB0 λ_ _ _ _ _ _ _ q=>lt_int q
def dp_0:OpR X (compareOp .LtE) (rI0 λi j=> .bl (decide (i<=j))):=opB0 λ_ _ _ _ _ _ _ q=>le_int q
def dp_1:OpR X (compareOp .Gt) (rI0 λi j=> .bl (decide (j < i))):=opB0 λ_ _ _ _ _ _ _ q=>gt_int q
def cb_9:OpR X (compareOp .In) (λx y H Q=>∃i j,x=.str i/\y=.str j/\Q (.bl (!(Builtin.Str.occurrences j i 0 j.length 1).isEmpty)) H):=by
 intro zd s σ H x y v u Q I rx ry h;obtain⟨i,j,rfl,rfl,q⟩:=h;obtain⟨t,rfl⟩:=rx;obtain⟨t',rfl⟩:=ry;exact in_str (Dc I q rfl)
def di_2:OpR X (compareOp .Is) (λx y H Q=>y=.non/\Q (.bl (decide (x=.non))) H):=by
 intro zd s σ H x y v u Q I rx ry h;obtain⟨rfl,q⟩:=h;cases ry;refine is_none_gen (Dc I q ?_);cases x <;> first
  |(cases rx;rfl)
  |(obtain⟨t,rfl⟩:=rx;rfl)
def OpR.or{f:Value->Value->Sem Value}{r r':R2}(h:OpR X f r)(h':OpR X f r'):OpR X f (λx y H Q=>r x y H Q\/r' x y H Q):=by
 intro zd s σ H x y v u Q I rx ry q;rcases q with q|q
 ·exact h zd s σ H x y v u Q I rx ry q
 ·exact h' zd s σ H x y v u Q I rx ry q
def Dr(b:Expr){op:CmpOp}(h:op≠ .In:=by decide)(h2:op≠ .NotIn:=by decide):behindInMarks op b=false:=by
 have e1:(op ==CmpOp.In)=false:=by cases op <;> first|rfl|exact absurd rfl h
 have e2:(op ==CmpOp.NotIn)=false:=by cases op <;> first|rfl|exact absurd rfl h2
 cases b <;> simp[behindInMarks,e1,e2]
def cu_2{op:CmpOp}{r:R2}(ho:OpR X (compareOp op) r)(ha:PE X a ta)(hb:PE X b tb)(hm:behindInMarks op b=false):PE X (.Compare a [op] [b] pos) (tOp r ta tb):=by
 intro zd s σ H Q I h;exact wpAny_Compare1 (binT ha hb I h λv u s2 x y H2 I2 rx ry q=>ho zd s2 σ H2 x y v u Q I2 rx ry q) hm
def dp_2(t:TE):TT:=λ σ H Q=>t σ H λx H'=>∃k,x=.bl k/\Q k H'
def cu_3{op:CmpOp}{r:R2}(ho:OpR X (compareOp op) r)(ha:PE X a ta)(hb:PE X b tb)(hm:behindInMarks op b=false):PT X (.Compare a [op] [b] pos) (dp_2 (tOp r ta tb)):=by
 intro zd s σ H Q I h;refine wpAny_isTrue_Compare1 (Ax (ha zd s σ H _ I h) λv s1 ⟨x,H1,I1,r1,q1⟩=>Ax (hb zd s1 σ H1 _ I1 q1) λu s2 ⟨y,H2,I2,r2,q2⟩=>
  Ax (ho zd s2 σ H2 x y v u _ I2 r1 r2 q2) λc s3 ⟨z,H3,I3,r3,k,e,q3⟩=> ?_) hm
 subst e;cases r3;exact P8 ⟨H3,I3,q3⟩
def ch_6(r r':R2)(ta tb tc:TE):TE:=λ σ H Q=>ta σ H λx H1=>tb σ H1 λy H2=>r x y H2 λz H3=>∃k,z=.bl k/\
 (if k=true then tc σ H3 λw' H4=>r' y w' H4 Q else Q (.bl false) H3)
def ch_7{op op':CmpOp}{r r':R2}(ho:OpR X (compareOp op) r)(ho':OpR X (compareOp op') r')(ha:PE X a ta)(hb:PE X b tb)(hc:PE X c tc)
  (hm:lastMarks [op,op'] [b,c]=false:=by with_unfolding_all rfl):PE X (.Compare a [op,op'] [b,c] pos) (ch_6 r r' ta tb tc):=by
 intro zd s σ H Q I h;refine Compare_chain (Ax (ha zd s σ H _ I h) λv s1 ⟨x,H1,I1,r1,q1⟩=>chain_link (Ax (hb zd s1 σ H1 _ I1 q1) λu s2 ⟨y,H2,I2,r2,q2⟩=>
  Ax (ho zd s2 σ H2 x y v u _ I2 r1 r2 q2) λd s3 ⟨z,H3,I3,r3,k,e,q3⟩=> ?_)) hm
 subst e;cases r3;refine P8 ?_;cases k with
 |false=>exact ite_ff ⟨.bl false,H3,I3,rfl,q3⟩
 |true=>exact ite_tt (chain_last (Ax (hc zd s3 σ H3 _ I3 q3) λw' s4 ⟨z',H4,I4,r4,q4⟩=>ho' zd s4 σ H4 y z' u w' Q I4 r2 r4 q4))
def TruV(K:Frag)(x:V)(H:Hp)(k:Bool):Prop:=
 match x with
 | .non=>k=false
 | .bl b=>k=b
 | .int i=>k=(i != 0)
 | .str y=>y.length<=sizeLine/\k=((y.length:Int) != 0)
 | .byt y=>y.size<=sizeLine/\k=((y.size:Int) != 0)
 | .ref p=>(∃xs,SqL K H p xs/\k= !xs.isEmpty)\/(∃xs,SqT K H p xs/\k= !xs.isEmpty)\/∃kvs,H p=some (.dK kvs)/\k= !kvs.isEmpty
 |_=>False
def bq_9{κ:Type}{kvs:List (κ×V)}{vs:List (κ×Value)}(r:KV kvs vs):(!vs.isEmpty)= !kvs.isEmpty:=by
 cases r <;> rfl
def ap_4{xs:List V}{its:List Value}(r:Vals xs its):(!its.toArray.isEmpty)= !xs.isEmpty:=by
 cases r <;> simp
def ad_0:(sizeLine:Nat) < 2 ^ 63:=by rw[D2];decide
def di_4:TruR X (λx H Q=>∃k,TruV X.K x H k/\Q k H):=by
 intro zd s σ H x v Q I rx h;obtain⟨k,e,q⟩:=h;have hl:=ad_0;have hs:sizeLine=16777216:=D2;cases x with
 |non=>
  cases rx;have e':k=false:=e;subst e';exact truthy_none ⟨H,I,q⟩
 |bl b=>
  cases rx;have e':k=b:=e;subst e';exact P8 ⟨H,I,q⟩
 |int i=>
  obtain⟨t,rfl⟩:=rx;have e':k=(i != 0):=e;subst e';exact PySem.P.truthy_int ⟨H,I,q⟩
 |str y=>
  obtain⟨t,rfl⟩:=rx;obtain⟨hy,e'⟩:y.length<=sizeLine/\k=((y.length:Int) != 0):=e;subst e';exact PySem.P.truthy_str () ⟨H,I.tok _,q⟩
 |byt y=>
  obtain⟨t,rfl⟩:=rx;obtain⟨hy,e'⟩:y.size<=sizeLine/\k=((y.size:Int) != 0):=e;subst e';exact truthy_bytes () ⟨H,I.tok _,q⟩
 |ref p=>
  cases rx;have e':(∃xs,SqL X.K H p xs/\k= !xs.isEmpty)\/(∃xs,SqT X.K H p xs/\k= !xs.isEmpty)\/∃kvs,H p=some (.dK kvs)/\k= !kvs.isEmpty:=e;rcases e' with⟨xs,hx,e'⟩|⟨xs,hx,e'⟩|⟨kvs,hx,e'⟩
  ·subst e';obtain⟨its,r,pl,hz⟩:=I.list hx;have zk:=r.length;exact wpAny_truthy_list pl.isList (by simp only[C1];omega) ⟨H,I.tok _,by rw[ap_4 r];exact q⟩
  ·subst e';obtain⟨its,r,pl,hz⟩:=I.tuple hx;have zk:=r.length;exact truthy_tuple pl (by simp only[C1];omega) ⟨H,I.tok _,by rw[ap_4 r];exact q⟩
  ·subst e';obtain⟨hz,hS,vs,r,m⟩:kvs.length<=sizeLine/\(p ==sysModules)=false/\∃vs,KV kvs vs/\s.heap.DictOf (f_9 X.prog X.w) p vs:=I.hok p _ hx;have zk:kvs.length=vs.length:=S0 r;exact wpAny_truthy_dict hS m () ⟨H,I.tok _,by rw[bq_9 r];exact q⟩
 |_=>exact(show False from e).elim
def ch_8(ha:PE X a ta)(he:∀whole,isTrue a X.env whole=(do let v<-whole;standAt a.pos;holding [v] (truthy v))):
  PT X a (λ σ H Q=>ta σ H λx H'=>∃k,TruV X.K x H' k/\Q k H'):=by
 intro zd s σ H Q I h;exact isTrue_plain (Ax (ha zd s σ H _ I h) λv s1 ⟨x,H1,I1,r1,q1⟩=>di_4 zd s1 σ H1 x v Q I1 r1 q1) (he _)
def br_0:OpR X (binaryOp .Add) (λx y H Q=>∃i j,x=.str i/\y=.str j/\i.length + j.length<=sizeLine/\Q (.str (i ++ j)) H):=by
 intro zd s σ H x y v u Q I rx ry h;obtain⟨i,j,rfl,rfl,hz,q⟩:=h;obtain⟨t,rfl⟩:=rx;obtain⟨t',rfl⟩:=ry;exact add_str (λt' tk=>⟨.str (i ++ j),H,I.tok _,⟨_,rfl⟩,q⟩) hz
def bj_4{x:V}{us:List Value}(r:Vals [x] us):∃u,us= [u]/\RelV x u:=by
 cases r with
 |cons r1 r2=>cases r2;exact⟨_,rfl,r1⟩
def de_3{x y:V}{us:List Value}(r:Vals [x,y] us):∃u w',us= [u,w']/\RelV x u/\RelV y w':=by
 cases r with
 |cons r1 r2=>
  cases r2 with
  |cons r3 r4=>cases r4;exact⟨_,_,rfl,r1,r3⟩
def cc_0(hc:X.calm=true):CallR X (.builtin "max") (λxs H Q=>∃i j,xs= [.int i,.int j]/\Q (.int (if j > i then j else i)) H):=by
 intro zd s σ H xs us Q I r h;obtain⟨i,j,rfl,q⟩:=h;obtain⟨u,w',rfl,⟨t,rfl⟩,⟨t',rfl⟩⟩:=de_3 r;refine max_two_ints (I.ok.hd hc) λh' tk k=>⟨_,H,I.kept k, ?_,q⟩
 by_cases hj:j > i
 ·rw[if_pos hj,if_pos hj];exact⟨_,rfl⟩
 ·rw[if_neg hj,if_neg hj];exact⟨_,rfl⟩
def cc_1(hc:X.calm=true):CallR X (.builtin "min") (λxs H Q=>∃i j,xs= [.int i,.int j]/\Q (.int (if j < i then j else i)) H):=by
 intro zd s σ H xs us Q I r h;obtain⟨i,j,rfl,q⟩:=h;obtain⟨u,w',rfl,⟨t,rfl⟩,⟨t',rfl⟩⟩:=de_3 r;refine min_two_ints (I.ok.hd hc) λh' tk k=>⟨_,H,I.kept k, ?_,q⟩
 by_cases hj:j < i
 ·rw[if_pos hj,if_pos hj];exact⟨_,rfl⟩
 ·rw[if_neg hj,if_neg hj];exact⟨_,rfl⟩
def ax_6:CallR X (.type "int") (λxs H Q=>(∃i,xs= [.int i]/\Q (.int i) H)\/∃k,xs= [.bl k]/\Q (.int (if k then 1 else 0)) H):=by
 intro zd s σ H xs us Q I r h;rcases h with⟨i,rfl,q⟩|⟨k,rfl,q⟩
 ·obtain⟨u,rfl,t,rfl⟩:=bj_4 r;exact call_int_int ⟨.int i,H,I,⟨_,rfl⟩,q⟩
 ·obtain⟨u,rfl,r1⟩:=bj_4 r;cases r1;exact call_int_bool ⟨.int (if k then 1 else 0),H,I.tok _,⟨_,rfl⟩,q⟩
end
structure ObjM(h:Heap)(x dx C:Addr)(mA:AB):Prop where
 obj:h.get? x=some (instObj C dx)
 ns:h.Ns1 dx mA
 ne:dx≠x
def ax_7{h:Heap}{dx:Addr}{mA:AB}(n:h.Ns1 dx mA):∃od,h.get? dx=some od/\∀name,lookIn name od=some (mA name):=by
 obtain⟨o,es,ep,ho,hd,hk,_,hm⟩:=n;refine⟨o,ho,λname=> ?_⟩;have e:=hm name;unfold nsFind findBy at e;rw[<-Array.find?_toList]at e;unfold lookIn;rw[hd];dsimp only
 split
 ·rename_i y q;rw[q]at e;exact K5 some e
 ·rename_i q;rw[q]at e;have a:es.toList.any (·.refKey)=false:=by
   rw[Z3];intro y hy;obtain⟨z,t,gm⟩:=hk y (Array.mem_toList_iff.mp hy);simp[DictEntry.refKey,gm]
  have a':¬es.toList.any (·.refKey)=true:=by rw[a];exact A7
  rw[if_neg a'];exact K5 some e
def ObjM.look{h:Heap}{x dx C:Addr}{mA:AB}(I:ObjM h x dx C mA):∃od,InstAt h x (instObj C dx) C (some od)/\∀name,lookIn name od=some (mA name):=
 let⟨od,ho,hl⟩:=ax_7 I.ns
 ⟨od,⟨I.obj,rfl,rfl,ho⟩,hl⟩
section
variable{prog:Program}{w:World}{A:Around}{E:AA}{s:Shared}{K:Frag}{x dx C f:Addr}{mA:AB}{name:Str}{v:Value}
def cu_4{expr:Bool}{Q:AA}(X:K.In s.heap)(I:ObjM s.heap x dx C mA)(hg:plainGet K C name=true)(hh:hasDictIn K C=true)
  (ha:findIn K (.ref C) name=some none) (hv:mA name=some v) (hv':handedIn v=true) (h:Q v {s with toks:=s.toks + 1}):
  wpAny (model prog w) A (getAttr (.ref x) name expr) Q E s:=by
 obtain⟨od,J,hl⟩:=I.look;exact get_value X J (ZD2 hg).1 (findObj_own hh ha rfl (by rw[hl,hv])) hv' h
def ch_9{pl:Sem Bool}{Q:Value×List Value->Shared->Prop}(X:K.In s.heap)(I:ObjM s.heap x dx C mA)(hg:plainGet K C name=true)
  (hf:findIn K (.ref C) name=some (some (.ref f))) (ht:isFn K (.ref f)=true) (hv:mA name=none) (h:Q (.ref f,[.ref x]) s):
  wpAny (model prog w) A (getMethod (.ref x) name pl) Q E s:=by
 obtain⟨od,J,hl⟩:=I.look;exact method_fn X J (ZD2 hg).1 (ZD2 hg).2 hf (L6.mp ht) (by show(lookIn name od).map (·.isSome)=some false;rw[hl,hv];rfl) h
def cu_5{ns:List Str}{Q:Unit->Shared->Prop}(X:K.In s.heap)(I:ObjM s.heap x dx C mA)
  (hs:findIn K (.ref C) "__setattr__" =some (some (.builtin "object.__setattr__"))) (hp:plainOver K C=true) (ht:takerIn K C name=some none) (hh:hasDictIn K C=true)
  (hw:PySem.Within mA ns) (hsz:ns.length<=sizeLine)
  (h:∀h',ObjM h' x dx C (λy=>if y=name then some v else mA y)->Heap.SameBut dx s.heap h'->Q .unit {s with heap:=h',toks:=s.toks + 2}):
  wpAny (model prog w) A (setAttr (.ref x) name v) Q E s:=by
 obtain⟨od,J,hl⟩:=I.look;refine set_plain X J hs (osa_open (s:={s with toks:=s.toks + 1}) (r:=none) X J hp ht λb=> ?_);obtain⟨cd,hc,hd'⟩:=any_some hh;have hx:s.heap.get? x=some ⟨.ref C,some dx,.plain, #[]⟩:=I.obj;refine A4 (C5 (A4 (A4 (wpAny_loadPart hx (A4 (ZD5 (s:={s with toks:=s.toks + 1}) (ZD1 X hc) ?_))))));rw[hd'];refine C5 (a:=some dx) (A4 (C5 (A4 ?_)));refine wpAny_nsSet1 (s:={s with toks:=s.toks + 1}) I.ns λh' hn2 hs2=> ?_;obtain⟨oD,esD,epD,hoD,hdD,hcD⟩:=hn2.count (PySem.Within.cons name v hw);refine A4 (wpAny_lookBehind hoD (by rw[hdD];exact pastItsLine_dict (C7 hcD (by rw[C6];omega))) ?_);exact C5 (h _ ⟨(hs2.2 _ (Ne.symm I.ne)).trans I.obj,hn2,I.ne⟩ hs2)
def ci_0{R:Result->Shared->Prop}{vs:List Value}{kw:List (Str×Value)}(X:K.In s.heap)(hm:makesIn K C=true)
  (hi:findIn K (.ref C) "__init__" =some (some (.ref f))) (hf:typeIn K (.ref f)=some (.type "function"))
  (h:codeAny (model prog w) (A.under (.builtin "type.__call__" ⟨.ref C::vs,kw⟩)) (.call (.ref f) ⟨.ref (s.heap.objs.size + 1)::vs,kw⟩) (InitBack (s.heap.objs.size + 1) R)
   {s with heap:=(s.heap.push emptyDict).push (instObj C s.heap.objs.size)}):
  codeAny (model prog w) A (.call (.ref C) ⟨vs,kw⟩) R s:=by
 obtain⟨hh,g,d,t,os⟩:=s;exact make_core (makes_of X hm) (X9 X hi) (λself=>bind_fn X self hf) (.inl rfl) h
end
def v_3(f:Str)(v:V):List (Str×V)->List (Str×V)
 | []=> [(f,v)]
 |(g,x)::r=>if g=f then(g,v)::r else(g,x)::v_3 f v r
theorem aj_8(f g:Str)(v:V):∀fs:List (Str×V),(v_3 f v fs).lookup g=if g=f then some v else fs.lookup g
 | []=>by
  show List.lookup g [(f,v)]=_
  by_cases h:g=f
  ·have hb:(g ==f)=true:=L6.mpr h;simp only[List.lookup,hb,if_pos h]
  ·have hb:(g ==f)=false:=N4.mpr h;simp only[List.lookup,hb,if_neg h]
 |(k,x)::r=>by
  have ih:=aj_8 f g v r;rw[show v_3 f v ((k,x)::r)=(if k=f then(k,v)::r else(k,x)::v_3 f v r) from rfl]
  by_cases hk:k=f
  ·rw[if_pos hk]
   by_cases h:g=k
   ·have hb:(g ==k)=true:=L6.mpr h;simp only[List.lookup,hb,if_pos (h.trans hk)]
   ·have hb:(g ==k)=false:=N4.mpr h;simp only[List.lookup,hb,if_neg (λe:g=f=>h (e.trans hk.symm))]
  ·rw[if_neg hk]
   by_cases h:g=k
   ·have hb:(g ==k)=true:=L6.mpr h;simp only[List.lookup,hb,if_neg (λe:g=f=>hk (h.symm.trans e))]
   ·have hb:(g ==k)=false:=N4.mpr h;simp only[List.lookup,hb];exact ih
theorem ah_6(f:Str)(v:V):∀fs:List (Str×V),f∈(v_3 f v fs).map (·.1)/\∀g,g∈fs.map (·.1)->g∈(v_3 f v fs).map (·.1)
 | []=>⟨by simp[v_3],λg h=>by simp at h⟩
 |(k,x)::r=>by
  obtain⟨i1,i2⟩:=ah_6 f v r;rw[show v_3 f v ((k,x)::r)=(if k=f then(k,v)::r else(k,x)::v_3 f v r) from rfl]
  by_cases hk:k=f
  ·rw[if_pos hk];subst hk;exact⟨by simp,λg h=>by simpa using h⟩
  ·rw[if_neg hk];refine⟨?_,λg h=> ?_⟩
   ·rw[B1];exact D3 _ i1
   ·rw[B1]at h⊢;rcases C4.mp h with e|e
    ·exact C4.mpr (.inl e)
    ·exact D3 _ (i2 g e)
theorem aj_9(f:Str)(v:V):∀fs:List (Str×V),(v_3 f v fs).length<=fs.length + 1
 | []=>by simp[v_3]
 |(k,x)::r=>by
  have ih:=aj_9 f v r;rw[show v_3 f v ((k,x)::r)=(if k=f then(k,v)::r else(k,x)::v_3 f v r) from rfl]
  by_cases hk:k=f
  ·rw[if_pos hk,C6,C6];omega
  ·rw[if_neg hk,C6,C6];omega
def RelO.some_of{v:V}{o:Option Value}(r:RelO (some v) o):∃u,o=some u/\RelV v u:=by
 cases o with
 |none=>exact(show False from r).elim
 |some u=>exact⟨u,rfl,r⟩
def RelO.none_of{o:Option Value}(r:RelO none o):o=none:=by
 cases o with
 |none=>rfl
 |some u=>exact(show False from r).elim
def ax_8{v:V}{u:Value}(r:RelV v u):handedIn u=true:=by
 cases v with
 |non=>cases(show u=Value.none from r);rfl
 |bl b=>cases(show u=Value.bool b from r);rfl
 |int i=>obtain⟨t,e⟩:=(show∃t,u=Value.int i t from r);cases e;rfl
 |str x=>obtain⟨t,e⟩:=(show∃t,u=Value.str x t from r);cases e;rfl
 |byt b=>obtain⟨t,e⟩:=(show∃t,u=Value.bytes b t from r);cases e;rfl
 |flt b=>obtain⟨t,e⟩:=(show∃t,u=Value.float b t from r);cases e;rfl
 |ref a=>cases(show u=Value.ref a from r);rfl
 |ty n=>cases(show u=Value.type n from r);rfl
section
variable{P:Program}{w:World}{H H':Hp}{h h':Heap}{a C dx:Addr}{fs fs':List (Str×V)}
def bc_8(hok:HOk P w H h)(e:H a=some (.ins C dx fs)):∃mA,ObjM h a dx C mA/\(∀f,RelO (fs.lookup f) (mA f))/\PySem.Within mA (fs.map (·.1))/\fs.length<=1000/\H dx=some (.own a):=by
 obtain⟨d,z,ne,ob,mA,n,r,q⟩:=(show ObjOk P w H h a (.ins C dx fs) from hok a _ e);exact⟨mA,⟨ob,n,ne⟩,r,q,z,d⟩
end
structure Cls(K:Frag)(C:Addr):Prop where
 pg:plainGet K C Str.empty=true
 hd:hasDictIn K C=true
 po:plainOver K C=true
 sa:findIn K (.ref C) "__setattr__" =some (some (.builtin "object.__setattr__"))
def Cls.get{K:Frag}{C:Addr}(c:Cls K C)(f:Str):plainGet K C f=true:=c.pg
def NoAttr(K:Frag)(C:Addr)(f:Str):Prop:=findIn K (.ref C) f=some none
def NoAttr.taker{K:Frag}{C:Addr}{f:Str}(n:NoAttr K C f):takerIn K C f=some none:=by
 unfold takerIn;rw[show findIn K (.ref C) f=some none from n];rfl
structure Con(K:Frag)(C:Addr)(f:Str)(v:V)(u:Value):Prop where
 at_:findIn K (.ref C) f=some (some u)
 rel:RelV v u
 get:specialIn K u "__get__" =some none
 cp:PySem.W.copiedNames.contains f=false
structure Meth(K:Frag)(C:Addr)(m:Str)(f:Addr):Prop where
 at_:findIn K (.ref C) m=some (some (.ref f))
 fn:isFn K (.ref f)=true
 kp:keepIn K (.ref f)=true
section
variable{X:Cx}{zd:AE}{σ:St}{H:Hp}{s:Shared}{a C dx:Addr}{fs:List (Str×V)}{f:Str}{v:V}{A:Around}{E:AA}
def br_1{b:Bool}{Q:AA}(I:Inv X zd σ H s)(e:H a=some (.ins C dx fs))(c:Cls X.K C)(n:NoAttr X.K C f)(l:fs.lookup f=some v)
  (h:∀u s',Inv X zd σ H s'->RelV v u->Q u s'):wpAny (model X.prog X.w) A (getAttr (.ref a) f b) Q E s:=by
 obtain⟨mA,O,r,_,_,_⟩:=bc_8 I.hok e;obtain⟨u,hu,ru⟩:=RelO.some_of (v:=v) (o:=mA f) (by rw[<-l];exact r f);exact cu_4 I.kIn O (c.get f) c.hd n hu (ax_8 ru) (h u _ (I.tok _) ru)
def ap_5{m:Str}{g:Addr}{pl:Sem Bool}{Q:Value×List Value->Shared->Prop}(I:Inv X zd σ H s)(e:H a=some (.ins C dx fs))(c:Cls X.K C)(k:Meth X.K C m g)(l:fs.lookup m=none)
  (h:Q (.ref g,[.ref a]) s):wpAny (model X.prog X.w) A (getMethod (.ref a) m pl) Q E s:=by
 obtain⟨mA,O,r,_,_,_⟩:=bc_8 I.hok e;have hn:mA m=none:=RelO.none_of (by rw[<-l];exact r m);exact ch_9 I.kIn O (c.get m) k.at_ k.fn hn h
def br_2{y:V}{u:Value}{Q:Unit->Shared->Prop}(I:Inv X zd σ H s)(e:H a=some (.ins C dx fs))(c:Cls X.K C)(n:NoAttr X.K C f)(hl:fs.length < 1000)(ry:RelV y u)
  (h:∀s',Inv X zd σ (upd H a (.ins C dx (v_3 f y fs))) s'->Q .unit s'):wpAny (model X.prog X.w) A (setAttr (.ref a) f u) Q E s:=by
 obtain⟨mA,O,r,wi,_,ho⟩:=bc_8 I.hok e;have hz:(fs.map (·.1)).length<=sizeLine:=by rw[A3,D2];omega
 refine cu_5 I.kIn O c.sa c.po n.taker c.hd wi hz λh' O' sb=>h _ ?_;have hd:∃o,h'.get? dx=some o:=let⟨o,_,_,e',_⟩:=O'.ns;⟨o,e'⟩;refine I.write (x:=a) (e:=dx) (by rw[e];exact True.intro) (.inr ho) (λb q hb z=>(sb.2 b hb).trans z) hd ?_;refine⟨by rw[Aq O.ne];exact ho, ?_,O.ne,O'.obj,_,O'.ns,λg=> ?_,λg hg=> ?_⟩
 ·have:=aj_9 f y fs;omega
 ·show RelO ((v_3 f y fs).lookup g) (if g=f then some u else mA g);rw[aj_8]
  by_cases q:g=f
  ·rw[if_pos q,if_pos q];exact ry
  ·rw[if_neg q,if_neg q];exact r g
 ·by_cases q:g=f
  ·rw[q];exact(ah_6 f y fs).1
  ·refine(ah_6 f y fs).2 g (wi g λz=>hg ?_);show(if g=f then some u else mA g)=none;rw[if_neg q];exact z
def Inv.made(I:Inv X zd σ H s):Inv X zd σ (upd (upd H s.heap.objs.size (.own (s.heap.objs.size + 1))) (s.heap.objs.size + 1) (.ins C s.heap.objs.size []))
  {s with heap:=(s.heap.push emptyDict).push (instObj C s.heap.objs.size)}:=by
 have e1:(s.heap.push emptyDict).get? s.heap.objs.size=some emptyDict:=B8 s.heap rfl;have e2:((s.heap.push emptyDict).push (instObj C s.heap.objs.size)).get? (s.heap.objs.size + 1)=some (instObj C s.heap.objs.size):=by
  have:=B8 (s.heap.push emptyDict) (o:=instObj C s.heap.objs.size) rfl
  rwa[K9]at this
 have e3:(s.heap.push emptyDict).Ns s.heap.objs.size (λ_=>none):=⟨emptyDict, #[],_,e1,rfl,(λe he=>absurd he (by simp)),λ_=>rfl⟩;have I1:=I.laid (a:=s.heap.objs.size) (o:=.own (s.heap.objs.size + 1)) (h':=s.heap.push emptyDict) (t':=s.toks) (λb u q=>A5 _ q) (A8 _) ⟨_,e1⟩;refine I1.laid (a:=s.heap.objs.size + 1) (o:=.ins C s.heap.objs.size []) (t':=s.toks) (λb u q=>A5 _ q) (P9 (K9 _ _)) ?_;have ne:s.heap.objs.size≠s.heap.objs.size + 1:=B4 (Q7 _);refine⟨by rw[Aq ne,Bp],F7 _,ne,e2,λ_=>none,(Heap.Ns1.of_empty e3).at λo q=>A5 _ q,λ_=>True.intro,λy hy=>absurd rfl hy⟩
def bw_4{prog:Program}{w:World}{env:Env}{e:Expr}{f:Str}{pos:Pos}{s:Shared}{Q:AA}(hb:attributeBase e f env (eval e env)=eval e env)
  (h:wpAny (model prog w) A (eval e env) (λo s₁=>wpAny (model prog w) A (getAttr o f true) Q E s₁) E s):wpAny (model prog w) A (eval (.Attribute e f pos) env) Q E s:=
 Attribute_any_ h (by rw[arm_eval_Attribute,hb])
end
def tFld(K:Frag)(ta:TE)(f:Str):TE:=λ σ H Q=>ta σ H λx H1=>∃a C dx fs v,x=.ref a/\H1 a=some (.ins C dx fs)/\Cls K C/\NoAttr K C f/\fs.lookup f=some v/\Q v H1
def sFld(K:Frag)(ta tv:TE)(f:Str):TS:=λD σ H=>tv σ H λy H1=>ta σ H1 λx H2=>∃a C dx fs,x=.ref a/\H2 a=some (.ins C dx fs)/\Cls K C/\NoAttr K C f/\fs.length < 1000/\
 D.nx σ (upd H2 a (.ins C dx (v_3 f y fs)))
section
variable{X:Cx}{o e value:Expr}{f:Str}{pos pos' zi:Pos}{ta tv:TE}
def di_5(he:PE X e ta)(hb:attributeBase e f X.env (eval e X.env)=eval e X.env):PE X (.Attribute e f pos) (tFld X.K ta f):=by
 intro zd s σ H Q I h;refine bw_4 hb (Ax (he zd s σ H _ I h) λu s1 ⟨x,H1,I1,rx,a,C,dx,fs,v,ex,ea,c,n,l,q⟩=> ?_);subst ex;obtain rfl:u=Value.ref a:=rx;exact br_1 I1 ea c n l λu' s2 I2 ru=>⟨v,H1,I2,ru,q⟩
def di_6(ha:PE X o ta)(hv:PE X value tv)(hs:swapsWith value (some (.Attribute o f pos')) pos.line X.env=pure false):PS X (.Assign [.Attribute o f pos'] value pos) (sFld X.K ta tv f):=by
 intro zd s σ H D I h;refine V5 (Ax (hv zd s σ H _ I h) λu s1 ⟨y,H1,I1,ry,q⟩=>Ax (ha zd s1 σ H1 _ I1 q) λov s2 ⟨x,H2,I2,rx,a,C,dx,fs,ex,ea,c,n,l,q2⟩=> ?_) hs;subst ex;obtain rfl:ov=Value.ref a:=rx;exact br_2 I2 ea c n l ry λs3 I3=>⟨σ,_,I3,q2⟩
end
section
variable{X:Cx}{zd:AE}{σ:St}{H:Hp}{s:Shared}{A:Around}{E:AA}{Q:AA}{c:Value}{b:Bool}
inductive TyOf(K:Frag)(H:Hp):V->Value->Prop where
 |non:TyOf K H .non (.type "NoneType")
 |bl (x:Bool):TyOf K H (.bl x) (.type "bool")
 |int (i:Int):TyOf K H (.int i) (.type "int")
 |str (x:Str):TyOf K H (.str x) (.type "str")
 |flt (x:UInt64):TyOf K H (.flt x) (.type "float")
 |lst {a:Addr} {xs:List V} (e:H a=some (.lst xs)):TyOf K H (.ref a) (.type "list")
 |frz {a:Addr} {o:Obj} {xs:List V} (e:H a=some (.frz o (.lst xs))):TyOf K H (.ref a) (.type "list")
 |tup {a:Addr} {xs:List V} (e:H a=some (.tup xs)):TyOf K H (.ref a) (.type "tuple")
 |dK {a:Addr} {kvs:List (Ak×V)} (e:H a=some (.dK kvs)):TyOf K H (.ref a) (.type "dict")
 |dT {a:Addr} {kvs:List (List Ak×V)} (e:H a=some (.dT kvs)):TyOf K H (.ref a) (.type "dict")
 |ins {a C dx:Addr} {fs:List (Str×V)} (e:H a=some (.ins C dx fs)) (cl:Cls K C) (ha:findIn K (.ref C) "__class__" =some (some (.builtin "object.__class__")))
   (hn:specialIn K (.builtin "object.__class__") "__get__" =some (some (.builtin "getset_descriptor.__get__"))) (htk:takesIn K (.builtin "object.__class__")=some true)
   (hm:mroIn K C (.type "object")=some true):TyOf K H (.ref a) (.ref C)
end
structure Room(k:Nat)(A:Around):Prop where
 hd:A.handled=none
 dp:A.depth + 3 * k + 5 < recursionLimit
 un:A.units + 16 * k + 200 < cLine
theorem Room.in1{k:Nat}{A:Around}(r:Room (k + 1) A):Room k A.in1:=
 ⟨r.hd,by have:=r.dp;show A.depth + 3 * k + 5 < _;omega,by have:=r.un;show A.units + 1 + 16 * k + 200 < _;omega⟩
def br_3{A:Around}{C:Addr}{us:List Value}{kw:List (Str×Value)}:(A.under (.builtin "type.__call__" ⟨.ref C::us,kw⟩)).depth=A.depth + 1:=by
 first|rfl|simp[Around.under,Code.weight,Code.isCreation,Code.isGuard,Code.isCaller,Code.frames,Code.isFrame,guardIds]
def br_4{A:Around}{C:Addr}{us:List Value}{kw:List (Str×Value)}:(A.under (.builtin "type.__call__" ⟨.ref C::us,kw⟩)).units=A.units + 1:=by
 first|rfl|simp[Around.under,Code.cUnits,Code.frames,Code.isFrame]
theorem Room.depth{k:Nat}{A:Around}(r:Room k A):A.depth < recursionLimit:=by have:=r.dp;omega
def tNil:TA:=λ_ H Q=>Q [] H
def ci_1(ta:TE)(tr:TA):TA:=λ σ H Q=>ta σ H λx H1=>tr σ H1 λxs H2=>Q (x::xs) H2
section
variable{X:Cx}{e:Expr}{es:List Expr}{te:TE}{t:TA}{pos:Pos}
def p_4:PA X [] tNil:=λ_ _ _ _ H Q I h=>M8 ⟨[],H,I,.nil,h⟩
def j_9(ha:PE X e te)(hr:PA X es t)(hs:starEach (e::es) X.env=(false,eval e X.env)::starEach es X.env:=by rfl):PA X (e::es) (ci_1 te t):=by
 intro pos zd s σ H Q I h;rw[hs];show wpAny _ _ (spliced ((false,eval e X.env)::backTo pos (starEach es X.env))) _ _ s;refine K6 (Ax (ha zd s σ H _ I h) λu s1 ⟨x,H1,I1,r1,q1⟩=> ?_);exact Ax (hr pos zd s1 σ H1 _ I1 q1) λus s2 ⟨xs,H2,I2,r2,q2⟩=>⟨x::xs,H2,I2,.cons r1 r2,q2⟩
def tTup(t:TA):TE:=λ σ H Q=>t σ H λxs H1=>xs.length<=sizeLine/\∀p,H1 p=none->Q (.ref p) (upd H1 p (.tup xs))
def tLst(t:TA):TE:=λ σ H Q=>t σ H λxs H1=>xs.length<=sizeLine/\∀p,H1 p=none->Q (.ref p) (upd H1 p (.lst xs))
def di_7{x1}(h:PA X es t):PE X (.Tuple es x1 pos) (tTup t):=by
 intro zd s σ H Q I hq;refine wpAny_Tuple_spliced (Ax (h pos zd s σ H _ I hq) λus s1 ⟨xs,H1,I1,r,z,q⟩=>⟨by rw[<-r.length];exact z, ?_⟩);have hf:H1 s1.heap.objs.size=none:=I1.hok.fresh (A8 _);refine⟨.ref s1.heap.objs.size,upd H1 s1.heap.objs.size (.tup xs),I1.laid (t':=s1.toks) (λb u e=>A5 _ e) (A8 _) ?_,rfl,q _ hf⟩;exact⟨z,us,r,⟨_,B8 _ rfl,rfl,_,rfl⟩⟩
def br_5(h:PA X es t):PE X (.List es pos) (tLst t):=by
 intro zd s σ H Q I hq;refine wpAny_List_spliced (Ax (h pos zd s σ H _ I hq) λus s1 ⟨xs,H1,I1,r,z,q⟩=>⟨by rw[<-r.length];exact z, ?_⟩);have hf:H1 s1.heap.objs.size=none:=I1.hok.fresh (A8 _);refine⟨.ref s1.heap.objs.size,upd H1 s1.heap.objs.size (.lst xs),I1.laid (t':=s1.toks) (λb u e=>A5 _ e) (A8 _) ?_,rfl,q _ hf⟩;exact⟨z,us,0,r,B8 _ rfl⟩
end
abbrev Sp:=List V->Hp->VK->XK->Prop
abbrev CXT:=List Env->Hp->Shared->XK->Value->Shared->Prop
structure Env0(P:Program)(w:World)(K:Frag)(mg:AB)(base:Heap)(A:Around)(outer:List Env)(s:Shared)(H:Hp):Prop where
 frames:A.frames=some outer
 mod:Mod K mg base
 bs:∀b o,base.get? b=some o->s.heap.get? b=some o/\H b=none
 bsz:base.objs.size<=s.heap.objs.size
 funs:s.heap.FunFrames base outer
 frf:∀b∈frs outer,H b=none
 hok:HOk P w H s.heap
 bare:AllBare s.gens
 tb:TabH K H
def CE(outer:List Env)(P:Program)(w:World)(H:Hp)(s:Shared)(Q:VK)(u:Value)(s':Shared):Prop:=
 ∃v H',s'.os=s.os/\AllBare s'.gens/\Un (frs outer) [] H H' s.heap s'.heap/\HOk P w H' s'.heap/\RelV v u/\Q v H'
def CR(CX:CXT)(outer:List Env)(P:Program)(w:World)(H:Hp)(s:Shared)(Q:VK)(E:XK)(r:Result)(s':Shared):Prop:=
 match r with
 | .ok (.ret u)=>CE outer P w H s Q u s'
 | .ok _=>False
 | .error e=>CX outer H s E e s'
structure FnOk(P:Program)(w:World)(K:Frag)(mg:AB)(base:Heap)(CX:CXT)(k:Nat)(f:Addr)(fd:FuncData)(ps:List Str)(sp:Sp):Prop where
 len:∀vs H Q E,sp vs H Q E->vs.length=ps.length
 run:∀(A:Around) (outer:List Env) (s:Shared) (H:Hp) (args:Args) (us:List Value) (vs:List V) (Q:VK) (E:XK),Room k A->Env0 P w K mg base A outer s H->BindsTo s fd args (ps.zip us)->Vals vs us->sp vs H Q E->
  codeAny (model P w) A (.call (.ref f) args) (CR CX outer P w H s Q E) s
def Env0.make{P:Program}{w:World}{K:Frag}{mg:AB}{base:Heap}{A:Around}{outer:List Env}{s:Shared}{H:Hp}(e:Env0 P w K mg base A outer s H)(C:Addr)(us:List Value)(kw:List (Str×Value)):
  Env0 P w K mg base (A.under (.builtin "type.__call__" ⟨.ref C::us,kw⟩)) outer s H:=⟨by first|exact e.frames|(simpa[Around.under,Code.envs,Code.isFrame,pushEnvs] using e.frames),e.mod,e.bs,e.bsz,e.funs,e.frf,e.hok,e.bare,e.tb⟩
theorem Env0.in1{P:Program}{w:World}{K:Frag}{mg:AB}{base:Heap}{A:Around}{outer:List Env}{s:Shared}{H:Hp}(e:Env0 P w K mg base A outer s H):
  Env0 P w K mg base A.in1 outer s H:=⟨e.frames,e.mod,e.bs,e.bsz,e.funs,e.frf,e.hok,e.bare,e.tb⟩
section
variable{X:Cx}{zd:AE}{σ:St}{H:Hp}{s s':Shared}
def Inv.tab(I:Inv X zd σ H s):TabH X.K H:=λc P e=>let⟨_,z⟩:=I.ok.tb c P e;let⟨_,y⟩:=I.base.tbls _ _ z;⟨_,y⟩
def Inv.env0(I:Inv X zd σ H s):Env0 X.prog X.w X.K X.mg X.base X.A X.stack s H:=
 ⟨I.ok.frames,I.ok.mod,I.bs,C7 I.ok.bsz I.sz,I.stack,I.stkFree,I.hok,I.bare,I.tab⟩
def Inv.after{Q:VK}{u:Value}(I:Inv X zd σ H s)(h:CE X.stack X.prog X.w H s Q u s'):EP X zd σ Q u s':=by
 obtain⟨v,H',os,bare,un,hok,r,q⟩:=h;obtain⟨hh,g,d,t,os'⟩:=s';obtain rfl:os'=s.os:=os;exact⟨v,H',I.call (h':=hh) (g':=g) (d':=d) (t':=t) (ch:=[]) un hok bare (λb z=>absurd z (by simp)),r,q⟩
end
def Binds(K:Frag)(fd:FuncData)(ps:List Str)(ds:List Value):Prop:=
 ∀(s:Shared) (us:List Value),K.In s.heap->(us ++ ds).length=ps.length->BindsTo s fd ⟨us,[]⟩ (ps.zip (us ++ ds))
def Binds.all{K:Frag}{fd:FuncData}{ps:List Str}(h:∀us:List Value,us.length=ps.length->bindArgs fd ⟨us,[]⟩=pure (ps.zip us)):Binds K fd ps []:=λs us _ hl=>by
 rw[D7]at hl⊢;exact .of_eq (h us hl)
section
variable{X:Cx}{CX:CXT}{k:Nat}{f C:Addr}{fd:FuncData}{ps:List Str}{sp:Sp}{dvs:List V}{ds:List Value}{E:XK}{x m:Str}{p pos zh:Pos}{e o:Expr}{es:List Expr}{ta:TE}{t:TA}
structure Mk(K:Frag)(C f:Addr):Prop where
 makes:makesIn K C=true
 init:findIn K (.ref C) "__init__" =some (some (.ref f))
 fn:isFn K (.ref f)=true
 kp:keepIn K (.ref C)=true
end
section
variable{X:Cx}{CX:CXT}{k:Nat}{f C:Addr}{fd:FuncData}{ps ks:List Str}{sp:Sp}{E:XK}{x m:Str}{p pos zh jn:Pos}{e o:Expr}{es:List Expr}{kws:List Keyword}{te ta:TE}{t tk:TA}{nm:Option Str}
structure KBinds(K:Frag)(fd:FuncData)(ps ks:List Str)(g:List Value->List Value->List Value)(gV:List V->List V->List V):Prop where
 to:∀(s:Shared) (us ws:List Value),K.In s.heap->(g us ws).length=ps.length->BindsTo s fd ⟨us,ks.zip ws⟩ (ps.zip (g us ws))
 rel:∀{vs:List V} {us:List Value} {zs:List V} {ws:List Value},Vals vs us->Vals zs ws->Vals (gV vs zs) (g us ws)
variable{g:List Value->List Value->List Value}{gV:List V->List V->List V}
end
structure FnScope(N P:List Str)(sc:Scope):Prop where
 kind:sc.kind=.function
 co:sc.isCoroutine=false
 gen:sc.isGenerator=false
 nd:N.Nodup
 pre:N.take P.length=P
 par:∀x∈P,sc.names.lookup x=some .local\/sc.names.lookup x=some .cell
 nofree:∀y∈sc.names,y.2≠ .free
theorem ax_9{kindOf:Str->Option NameKind}{x:Str}:∀{binds:List (Str×Value)} {m:AB},(∀v,(x,v)∉binds)->bindL kindOf binds m x=m x
 | [],_,_=>rfl
 |(n,v)::r,m,h=>by
  unfold bindL;rw[ax_9 λw hw=>h w (D3 _ hw)]
  split
  ·have:x≠n:=by rintro rfl;exact h v K2
   simp[this]
  ·rfl
theorem ay_0{kindOf:Str->Option NameKind}{x:Str}:∀{binds:List (Str×Value)} {m:AB},(∀v,(x,v)∉binds)->bindC kindOf binds m x=m x
 | [],_,_=>rfl
 |(n,v)::r,m,h=>by
  unfold bindC;rw[ay_0 λw hw=>h w (D3 _ hw)]
  split
  ·rfl
  ·have:x≠n:=by rintro rfl;exact h v K2
   simp[this]
theorem ay_1{kindOf:Str->Option NameKind}{x:Str}{v:Value}:∀{P:List Str} {vs:List Value} {i:Nat} {m:AB},P.Nodup->P[i]? =some x->vs[i]? =some v->kindOf x=some .local->
  bindL kindOf (P.zip vs) m x=some v
 | [],_,_,_,_,h,_,_=>by simp at h
 |_::_,[],_,_,_,_,h,_=>by simp at h
 |p::P,w::vs,0,m,nd,h1,h2,hk=>by
  simp at h1 h2;subst h1;subst h2;show bindL kindOf ((p,w)::P.zip vs) m p=_;unfold bindL;rw[ax_9 λv hv=>(J8.mp nd).1 (ZC4 hv).1,if_pos hk];simp
 |p::P,w::vs,i + 1,m,nd,h1,h2,hk=>by
  show bindL kindOf ((p,w)::P.zip vs) m x=_;unfold bindL;exact ay_1 (i:=i) (J8.mp nd).2 (by simpa using h1) (by simpa using h2) hk
theorem ay_2{kindOf:Str->Option NameKind}{x:Str}{v:Value}:∀{P:List Str} {vs:List Value} {i:Nat} {m:AB},P.Nodup->P[i]? =some x->vs[i]? =some v->kindOf x≠some .local->
  bindC kindOf (P.zip vs) m x=some v
 | [],_,_,_,_,h,_,_=>by simp at h
 |_::_,[],_,_,_,_,h,_=>by simp at h
 |p::P,w::vs,0,m,nd,h1,h2,hk=>by
  simp at h1 h2;subst h1;subst h2;show bindC kindOf ((p,w)::P.zip vs) m p=_;unfold bindC;rw[ay_0 λv hv=>(J8.mp nd).1 (ZC4 hv).1,if_neg hk];simp
 |p::P,w::vs,i + 1,m,nd,h1,h2,hk=>by
  show bindC kindOf ((p,w)::P.zip vs) m x=_;unfold bindC;exact ay_2 (i:=i) (J8.mp nd).2 (by simpa using h1) (by simpa using h2) hk
def p_7(N:List Str)(vs:List V):St:=vs.map some ++ List.replicate (N.length - vs.length) none
def En(CX:CXT)(P:Program)(w:World)(K:Frag)(mg:AB)(base:Heap)(N:List Str)(qual:Str)(scope:Scope)(f:Addr)(cd:Value)(A:Around)(outer:List Env)(s:Shared)(H:Hp)(E:XK):Cx where
 prog:=P
 w:=w
 K:=K
 mg:=mg
 base:=base
 A:=A.deeper (envOfC qual scope s.heap.objs.size f cd)
 N:=N
 s₀:=s
 H₀:=H
 env:=envOfC qual scope s.heap.objs.size f cd
 outer:=outer
 stack:=envOfC qual scope s.heap.objs.size f cd::outer
 ex:=[]
 calm:=true
 fn:=λ_=>true
 pn:=[]
 xe:=λe s'=>wpAny (model P w) (A.deeper (envOfC qual scope s.heap.objs.size f cd)) (leaving (envOfC qual scope s.heap.objs.size f cd) e) (λ_ s''=>CX outer H s E e s'') (λe' s''=>CX outer H s E e' s'') s'
def bj_5{sc:Scope}{n:Nat}{x:Str}(h:sc.names.lookup x=some .cell):∃c,(cellsFrom n sc.names []).lookup x=some c:=by
 have q:=ZD0 sc.names n [] (.inl h);exact Q3.mp q
def cc_2{CX:CXT}{P:Program}{w:World}{K:Frag}{mg:AB}{base:Heap}{N ps:List Str}{qual:Str}{scope:Scope}{f:Addr}{cd:Value}{A:Around}{outer:List Env}{s s1:Shared}{H:Hp}{E:XK}{us:List Value}{vs:List V}
  (S:FnScope N ps scope) (hd:A.handled=none) (e0:Env0 P w K mg base A outer s H) (hl:vs.length=ps.length) (r:Vals vs us)
  (x:InCallC s s.heap.objs.size (bindL (envOfC qual scope s.heap.objs.size f cd).kindOf (ps.zip us) λ_=>none) (cellsFrom (s.heap.objs.size + 1) scope.names []) (bindC (envOfC qual scope s.heap.objs.size f cd).kindOf (ps.zip us) λ_=>none) s1):
  Inv (En CX P w K mg base N qual scope f cd A outer s H E) [] (p_7 N vs) H s1:=by
 have hpl:ps.length<=N.length:=by have:=K5 List.length S.pre;rw[S9]at this;omega
 obtain⟨h1,tk,rfl,hk⟩:=x.done;have noA:∀b:Addr,b∉(En CX P w K mg base N qual scope f cd A outer s H E).ex:=λb z=>absurd (show b∈([]:List Addr) from z) (by simp);refine⟨⟨e0.mod,S.kind,rfl,rfl,A8 _,λy z c h1 h2=> ?_,λy hy=> ?_,λy c _ h=> ?_,λ_=>hd,W8 e0.frames,.inr ⟨rfl,rfl⟩,λb z=>absurd z (noA b),e0.bs,e0.bsz,λb _ _=>noA b,λb z=>absurd z (noA b),e0.funs,e0.frf,e0.tb⟩,
  rfl,e0.bare,Un.kept hk,⟨_,x.toInCall.ns,λi y v h1 h2 h3=> ?_⟩,λy c h=>⟨_,x.cell y c h⟩,e0.hok.fresh (A8 _),λy c h=> ?_,λp hp=>absurd (show p∈([]:AE) from hp) (by simp),e0.hok.kept hk, ?_⟩
 ·exact name_of_addr x.apart (K3 h1) (K3 h2)
 ·have hy:scope.names.lookup y=some .cell\/scope.names.lookup y=some .free:=hy;rcases hy with hy|hy
  ·exact bj_5 hy
  ·exact absurd rfl (S.nofree _ (K3 hy))
 ·exact R5 (x.above y c (K3 h))
 ·have hi:i < vs.length:=by
   unfold p_7 at h2
   by_cases hi:i < vs.length
   ·exact hi
   ·rw[D0 (by simpa using hi)]at h2;rw[E8]at h2
    split at h2 <;> cases h2
  have ha:vs[i]? =some v:=by
   unfold p_7 at h2;rw[B7 (by simpa using hi),B3]at h2;cases e:vs[i]? with
   |none=>rw[e]at h2;cases h2
   |some a=>rw[e]at h2;cases h2;rfl
  obtain⟨u,hu,rv⟩:=r.get ha;have hp:ps[i]? =some y:=by
   rw[<-S.pre,List.getElem?_take_of_lt ()];exact h1
  have ndP:ps.Nodup:=by rw[<-S.pre];exact S.nd.sublist (List.take_sublist _ _)
  refine⟨u,rv, ?_⟩;rcases S.par y (M6 hp) with k|k
  ·exact .inl ⟨k,ay_1 ndP hp hu k⟩
  ·obtain⟨c,e⟩:=bj_5 (n:=s.heap.objs.size + 1) k;refine .inr ⟨.inl k,c,e, ?_⟩;have q:=x.cell y c e;rw[ay_2 ndP hp hu (by show scope.names.lookup y≠_;rw[k];decide)]at q;exact q
 ·exact e0.hok.fresh (R5 (x.above y c (K3 h)))
 ·unfold p_7;show _=N.length;rw[B5,A3,G6];omega
section
variable{X:Cx}{x:Str}{p pos:Pos}{e:Expr}{es:List Expr}{t:TA}{id T:String}{r:List V->Hp->VK->Prop}
def tCB(r:List V->Hp->VK->Prop)(t:TA):TE:=λ σ H Q=>t σ H λvs H1=>r vs H1 Q
def bj_6(hc:CallR X (.builtin id) r)(hg:Gl X x)(hm:X.mg x=none)(hv:bootBuiltins x=some (.builtin id))(ha:PA X (e::es) t)(hn:x≠ "__name__" :=by decide)(hdb:AG x:=by decide)
  (he:starEach (e::es) X.env=(false,eval e X.env)::starEach es X.env:=by rfl) (hpl:(backTo pos (starEach es X.env)).any (·.1)=false:=by rfl):PE X (.Call (.Name x p) (e::es) [] pos) (tCB r t):=by
 intro zd s σ H Q I h;refine O0 (l_6 I hg hm hv ?_ hn hdb);exact W2 (Ax (ha pos zd s σ H _ I h) λus s1 ⟨vs,H1,I1,r1,q1⟩=>hc zd s1 σ H1 vs us Q I1 r1 q1) he hpl
def cc_3(hc:CallR X (.type T) r)(hg:Gl X x)(hm:X.mg x=none)(hv:bootBuiltins x=some (.type T))(ha:PA X (e::es) t)(hn:x≠ "__name__" :=by decide)(hdb:AG x:=by decide)
  (he:starEach (e::es) X.env=(false,eval e X.env)::starEach es X.env:=by rfl) (hpl:(backTo pos (starEach es X.env)).any (·.1)=false:=by rfl):PE X (.Call (.Name x p) (e::es) [] pos) (tCB r t):=by
 intro zd s σ H Q I h;refine O0 (l_6 I hg hm hv ?_ hn hdb);exact D6 (Ax (ha pos zd s σ H _ I h) λus s1 ⟨vs,H1,I1,r1,q1⟩=>hc zd s1 σ H1 vs us Q I1 r1 q1) he hpl
end
end L2
namespace HT
open PySem PyProof.Rows
section
open PySem.SeqAt
open PySem.AutoSeq1 (wpAny_loadPart')
open PySem.MeetsSeq PySem.MeetsSeq2 PySem.MeetsSeq3
end
section
variable{prog:Program}{w:World}{A:Around}{E:AA}{s:Shared}
def sIx(n d:Nat):Option Int->Nat
 |none=>d
 |some v=>if v < 0 then(v + (n:Int)).toNat else min v.toNat n
end
end HT
namespace L2
open PySem PySem.Spec PyProof.Rows
abbrev TO:=St->Hp->(Option Int->Hp->Prop)->Prop
def PO(X:Cx)(e:Option Expr)(t:TO):Prop:=
 ∀(zd:AE) (s:Shared) (σ:St) (H:Hp) (Q:Option Int->Hp->Prop),Inv X zd σ H s->t σ H Q->
  wpAny (model X.prog X.w) X.A (evalPart e X.env) (λu s'=>∃o H',Inv X zd σ H' s'/\IsPart u o/\Q o H') X.xe s
def cu_7:TO:=λ_ H Q=>Q none H
def dp_3(t:TE):TO:=λ σ H Q=>t σ H λx H1=>∃i,x=.int i/\Q (some i) H1
section
variable{X:Cx}{e:Expr}{te:TE}{lo hi:Option Expr}{tl th:TO}{pos p2:Pos}
def cu_8:PO X none cu_7:=by
 intro zd s σ H Q I h;rw[evalPart_none];exact C5 ⟨none,H,I,.none,h⟩
def cu_9(h:PE X e te):PO X (some e) (dp_3 te):=by
 intro zd s σ H Q I hw;rw[evalPart_some];refine Ax (h zd s σ H _ I hw) λu s1 ⟨x,H1,I1,r1,q1⟩=> ?_;obtain⟨i,rfl,q⟩:=q1;obtain⟨t,rfl⟩:=r1;exact⟨some i,H1,I1,.int i t,q⟩
def SlR(X:Cx)(r:V->Option Int->Option Int->Hp->VK->Prop):Prop:=
 ∀(zd:AE) (s:Shared) (σ:St) (H:Hp) (x:V) (v vl vu:Value) (lo hi:Option Int) (sl:Addr) (Q:VK),Inv X zd σ H s->RelV x v->s.heap.IsSliceOf sl vl vu .none->IsPart vl lo->IsPart vu hi->r x lo hi H Q->
  ∃T id,typeLookup (.type T) "__getitem__" =pure (some (.builtin id))/\s.TypeIs v T/\wpAny (model X.prog X.w) X.A (getItem v (.ref sl)) (EP X zd σ Q) X.xe s
def SlR.or{r r':V->Option Int->Option Int->Hp->VK->Prop}(h:SlR X r)(h':SlR X r'):SlR X (λx lo hi H Q=>r x lo hi H Q\/r' x lo hi H Q):=by
 intro zd s σ H x v vl vu lo hi sl Q I rx hs pl pu q;rcases q with q|q
 ·exact h zd s σ H x v vl vu lo hi sl Q I rx hs pl pu q
 ·exact h' zd s σ H x v vl vu lo hi sl Q I rx hs pl pu q
def tSl(r:V->Option Int->Option Int->Hp->VK->Prop)(te:TE)(tl th:TO):TE:=λ σ H Q=>te σ H λx H1=>tl σ H1 λl H2=>th σ H2 λu H3=>r x l u H3 Q
def ci_2{r:V->Option Int->Option Int->Hp->VK->Prop}(hr:SlR X r)(he:PE X e te)(hl:PO X lo tl)(hu:PO X hi th):PE X (.Subscript e (.Slice lo hi none p2) pos) (tSl r te tl th):=by
 intro zd s σ H Q I h;refine Subscript_ (Ax (he zd s σ H _ I h) λv s1 ⟨x,H1,I1,r1,q1⟩=> ?_);refine wpAny_Slice (Ax (hl zd s1 σ H1 _ I1 q1) λvl s2 ⟨l,H2,I2,pl,q2⟩=>Ax (hu zd s2 σ H2 _ I2 q2) λvu s3 ⟨u,H3,I3,pu,q3⟩=> ?_);rw[evalPart_none];refine C5 ?_;have I4:Inv X zd σ H3 {s3 with heap:=s3.heap.push {cls:=.type "slice",data:=.fields #[vl,vu,.none]}}:=I3.kept (t':=s3.toks) λb ob q=>A5 _ q;obtain⟨T,id,hT,ht,hg⟩:=hr zd {s3 with heap:=s3.heap.push {cls:=.type "slice",data:=.fields #[vl,vu,.none]}} σ H3 x v vl vu l u s3.heap.objs.size Q I4 r1 (Heap.IsSliceOf.new ..) pl pu q3;show wpAny (model X.prog X.w) X.A (subscriptTail e (.Slice lo hi none p2) v (.ref s3.heap.objs.size)) (EP X zd σ Q) X.xe {s3 with heap:=s3.heap.push {cls:=.type "slice",data:=.fields #[vl,vu,.none]}};exact tail_any (ops:=[.ref s3.heap.objs.size,v]) ht hT hg (by with_unfolding_all rfl)
def cutV(xs:List V)(lo hi:Option Int):List V:=(xs.drop (HT.sIx xs.length 0 lo)).take (HT.sIx xs.length xs.length hi - HT.sIx xs.length 0 lo)
def bj_7(xs:List V)(lo hi:Option Int):(cutV xs lo hi).length<=xs.length:=by
 unfold cutV;rw[S9,List.length_drop];omega
end
def ixN(n:Nat)(i:Int):Option Nat:=if 0<=i then(if i < n then some i.toNat else none) else if -(n:Int)<=i then some (i + n).toNat else none
def atI{α:Type}(xs:List α)(i:Int):Option α:=(ixN xs.length i).bind λj=>xs[j]?
def bw_5{n:Nat}{i:Int}{j:Nat}(h:ixN n i=some j):seqIndex? i n=some j/\j < n/\ -(n:Int)<=i/\i < n:=by
 unfold ixN at h
 by_cases h0:0<=i
 ·rw[if_pos h0]at h
  by_cases h1:i < n
  ·rw[if_pos h1]at h;have e:i.toNat=j:=K4 h;exact⟨by rw[seqIndex_of h0 h1,e],by omega,by omega,h1⟩
  ·rw[if_neg h1]at h;cases h
 ·rw[if_neg h0]at h
  by_cases h1: -(n:Int)<=i
  ·rw[if_pos h1]at h;have e:(i + n).toNat=j:=K4 h;exact⟨by rw[ZD7 () h1,e],by omega,h1,by omega⟩
  ·rw[if_neg h1]at h;cases h
def bc_9{α:Type}{xs:List α}{i:Int}{v:α}(h:atI xs i=some v):∃j,seqIndex? i xs.length=some j/\xs[j]? =some v/\j < xs.length/\ -(xs.length:Int)<=i/\i < xs.length:=by
 unfold atI at h;cases e:ixN xs.length i with
 |none=>rw[e]at h;cases h
 |some j=>
  rw[e]at h;obtain⟨h1,h2,h3,h4⟩:=bw_5 e;exact⟨j,h1,h,h2,h3,h4⟩
def bd_0(b:Expr):Prop:=∀o i,subscripted b false o i=operate [o,i] (getItem o i)
def IxR(X:Cx)(r:R2):Prop:=
 ∀(value slice:Expr) (zd:AE) (s:Shared) (σ:St) (H:Hp) (x y:V) (v u:Value) (Q:VK),Inv X zd σ H s->RelV x v->RelV y u->r x y H Q->
  subscripted slice false v u=operate [v,u] (getItem v u)->wpAny (model X.prog X.w) X.A (subscriptTail value slice v u) (EP X zd σ Q) X.xe s
def MtR(X:Cx)(id:String)(r:V->List V->Hp->VK->Prop):Prop:=
 ∀(zd:AE) (s:Shared) (σ:St) (H:Hp) (x:V) (xs:List V) (v:Value) (us:List Value) (Q:VK),Inv X zd σ H s->RelV x v->Vals xs us->r x xs H Q->
  wpAny (model X.prog X.w) X.A (call (.builtin id) (v::us)) (EP X zd σ Q) X.xe s
section
variable{X:Cx}{a b:Expr}{ta tb:TE}{pos:Pos}
def IxR.or{r r':R2}(h:IxR X r)(h':IxR X r'):IxR X (λx y H Q=>r x y H Q\/r' x y H Q):=by
 intro value slice zd s σ H x y v u Q I rx ry q hs;rcases q with q|q
 ·exact h value slice zd s σ H x y v u Q I rx ry q hs
 ·exact h' value slice zd s σ H x y v u Q I rx ry q hs
def MtR.or{id:String}{r r':V->List V->Hp->VK->Prop}(h:MtR X id r)(h':MtR X id r'):MtR X id (λx xs H Q=>r x xs H Q\/r' x xs H Q):=by
 intro zd s σ H x xs v us Q I rx rs q;rcases q with q|q
 ·exact h zd s σ H x xs v us Q I rx rs q
 ·exact h' zd s σ H x xs v us Q I rx rs q
def de_4{r:R2}(hr:IxR X r)(ha:PE X a ta)(hb:PE X b tb)(hs:bd_0 b):PE X (.Subscript a b pos) (tOp r ta tb):=by
 intro zd s σ H Q I h;exact Subscript_ (binT ha hb I h λv u s2 x y H2 I2 rx ry q=>hr a b zd s2 σ H2 x y v u Q I2 rx ry q (hs _ _))
def rIxL(K:Frag):R2:=λx y H Q=>∃p xs i v,x=.ref p/\y=.int i/\SqL K H p xs/\atI xs i=some v/\Q v H
def rIxT(K:Frag):R2:=λx y H Q=>∃p xs i v,x=.ref p/\y=.int i/\SqT K H p xs/\atI xs i=some v/\Q v H
def rIxS:R2:=λx y H Q=>∃z i c,x=.str z/\y=.int i/\z.length<=sizeLine/\atI z.cps.toList i=some c/\Q (.str ⟨#[c]⟩) H
def bw_6:IxR X (rIxL X.K):=by
 intro value slice zd s σ H x y v u Q I rx ry h hs;obtain⟨p,xs,i,z,rfl,rfl,hq,he,q⟩:=h;cases rx;obtain⟨t,rfl⟩:=ry;obtain⟨its,r,pl,hz⟩:=I.list hq;obtain⟨j,h1,h2,h3,h4,h5⟩:=bc_9 he;obtain⟨w,ew,rw'⟩:=r.get h2;have hl:=r.length;have hn:=ad_0;have fin:EP X zd σ Q w s:=⟨z,H,I,rw',q⟩
 by_cases h0:0<=i
 ·have hj:i.toNat=j:=by
   rw[seqIndex_of h0 h5]at h1;exact K4 h1
  exact item_listR pl.isList h0 () (by rw[hj];simpa using ew) fin hs
 ·have hj:(i + (its.toArray.size:Int)).toNat=j:=by
   rw[ZD7 () h4]at h1;rw[C1,<-hl];exact K4 h1
  exact ZB3 (x:=w) pl.isList.typeIs slot_list_getitem.lookup
   (wpAny_getItem_list_neg (Q:=λr s'=>r=w/\EP X zd σ Q r s') pl.isList () (by rw[C1] <;> omega) () (by rw[hj];simpa using ew) ⟨rfl,fin⟩) hs
def ci_3:IxR X (rIxT X.K):=by
 intro value slice zd s σ H x y v u Q I rx ry h hs;obtain⟨p,xs,i,z,rfl,rfl,hq,he,q⟩:=h;cases rx;obtain⟨t,rfl⟩:=ry;obtain⟨its,r,pl,hz⟩:=I.tuple hq;obtain⟨j,h1,h2,h3,h4,h5⟩:=bc_9 he;obtain⟨w,ew,rw'⟩:=r.get h2;have hl:=r.length;have hn:=ad_0;have fin:EP X zd σ Q w s:=⟨z,H,I,rw',q⟩;exact ZB3 (x:=w) pl.typeIs slot_tuple_getitem.lookup
  (getItem_tuple (j:=j) (Q:=λr s'=>r=w/\EP X zd σ Q r s') pl () () (by rw[C1,<-hl];exact h1) (by simpa using ew) ⟨rfl,fin⟩) hs
def di_8:IxR X rIxS:=by
 intro value slice zd s σ H x y v u Q I rx ry h hs;obtain⟨z,i,c,rfl,rfl,hz,he,q⟩:=h;obtain⟨t,rfl⟩:=rx;obtain⟨t',rfl⟩:=ry;obtain⟨j,h1,h2,h3,h4,h5⟩:=bc_9 he;have hl:z.cps.toList.length=z.length:=by simp[Str.length]
 rw[hl]at h1 h4 h5;have hn:=ad_0;exact tail_any (typeIs_str s z t) slot_str_getitem.lookup (getItem_str (c:=c) (by
  have e1:decide (i < -(2 ^ 63:Int))=false:=F8 ();have e2:decide (i≥2 ^ 63)=false:=F8 ();rw[e1,e2,Bool.or_false]) (by rw[h1];simpa using h2) ⟨.str ⟨#[c]⟩,H,I.tok _,⟨_,rfl⟩,q⟩) hs
def br_6(its:List Value)(n j:Nat)(u:Value):Obj.mapSeq (·.setIfInBounds j u) {cls:=.type "list",data:=.seq its.toArray n}={cls:=.type "list",data:=.seq (its.set j u).toArray n}:=by
 simp[Obj.mapSeq]
theorem Inv.lst{zd:AE}{σ:St}{H:Hp}{s:Shared}{p:Addr}{xs:List V}(I:Inv X zd σ H s)(h:H p=some (.lst xs)):
  ∃(its:List Value) (n:Nat),Vals xs its/\s.heap.get? p=some {cls:=.type "list",data:=.seq its.toArray n}/\xs.length<=sizeLine:=by
 obtain⟨z,its,n,r,e⟩:=I.hok p _ h;exact⟨its,n,r,e,z⟩
def Inv.lstUpd{zd:AE}{σ:St}{H:Hp}{s:Shared}{p:Addr}{xs ys:List V}{its its':List Value}{n n':Nat}{f:Obj->Obj}(I:Inv X zd σ H s)(h:H p=some (.lst xs))
  (ho:s.heap.get? p=some {cls:=.type "list",data:=.seq its.toArray n}) (hf:f {cls:=.type "list",data:=.seq its.toArray n}={cls:=.type "list",data:=.seq its'.toArray n'}) (r:Vals ys its') (hz:ys.length<=sizeLine) (t:Nat):
  Inv X zd σ (upd H p (.lst ys)) {s with heap:=s.heap.update p f,toks:=t}:=by
 have e:(s.heap.update p f).get? p=some {cls:=.type "list",data:=.seq its'.toArray n'}:=by
  rw[N7 f ho (by rw[hf] <;> rfl),hf]
 refine I.write (x:=p) (e:=p) (by rw[h];trivial) (.inl rfl) (λb u hb q=>(F3 _ _ (Ne.symm hb)).trans q) ⟨_,e⟩ ?_;exact⟨hz,its',n',r,e⟩
def dp_6:V->V->V->Hp->(Hp->Prop)->Prop:=λo i v H Q=>∃p xs k j,o=.ref p/\i=.int k/\H p=some (.lst xs)/\ixN xs.length k=some j/\Q (upd H p (.lst (xs.set j v)))
def ci_4:PSet X dp_6:=by
 intro zd s σ H o i v ov iv u Q I ro ri rv h;obtain⟨p,xs,k,j,rfl,rfl,hp,hj,q⟩:=h;cases ro;obtain⟨t,rfl⟩:=ri;obtain⟨its,n,r,ho,hz⟩:=I.lst hp;obtain⟨h1,h2,h3,h4⟩:=bw_5 hj;have hl:=r.length;have hn:=ad_0;have I':Inv X zd σ (upd H p (.lst (xs.set j v))) {s with heap:=s.heap.update p (Obj.mapSeq (·.setIfInBounds j u))}:=
  I.lstUpd hp ho (br_6 its n j u) (r.set rv j) (by rw[F9];exact hz) s.toks
 by_cases h0:0<=k
 ·have hk:k.toNat=j:=by
   rw[seqIndex_of h0 h4]at h1;exact K4 h1
  exact ki_setAt ho h0 () (by rw[C1,<-hl];exact h4) (by rw[hk];exact⟨_,I',q⟩)
 ·have hk:(k + (its.toArray.size:Int)).toNat=j:=by
   rw[ZD7 () h3]at h1;rw[C1,<-hl];exact K4 h1
  exact ki_setBack ho () (by rw[C1,<-hl];exact h3) () (by rw[hk];exact⟨_,I',q⟩)
def bd_1(lo hi:Option Int)(n:Nat):(sliceBounds lo hi none n).1=((HT.sIx n 0 lo:Nat):Int)/\(sliceBounds lo hi none n).2.1=((HT.sIx n n hi:Nat):Int)/\(sliceBounds lo hi none n).2.2=1:=by
 refine⟨?_, ?_,rfl⟩
 ·cases lo with
  |none=>simp[sliceBounds,HT.sIx]
  |some i=>
   simp only[sliceBounds,HT.sIx,ZA2,show(1:Int) > 0 by decide,if_true]
   by_cases h:i < 0
   ·simp only[h,if_true] <;> omega
   ·simp only[h,L9] <;> omega
 ·cases hi with
  |none=>simp[sliceBounds,HT.sIx]
  |some i=>
   simp only[sliceBounds,HT.sIx,ZA2,show(1:Int) > 0 by decide,if_true]
   by_cases h:i < 0
   ·simp only[h,if_true] <;> omega
   ·simp only[h,L9] <;> omega
def av_3(its:List Value)(lo hi:Option Int):slicePick its.toArray lo hi none=((its.drop (HT.sIx its.length 0 lo)).take (HT.sIx its.length its.length hi - HT.sIx its.length 0 lo)).toArray:=by
 obtain⟨h1,h2,h3⟩:=bd_1 lo hi its.toArray.size;unfold slicePick;rw[h1,h2,h3];simp only[sliceRange_one,pick_run,C1] <;> rfl
def rSlL(K:Frag):V->Option Int->Option Int->Hp->VK->Prop:=λx lo hi H Q=>∃a xs,x=.ref a/\SqL K H a xs/\∀p,H p=none->Q (.ref p) (upd H p (.lst (cutV xs lo hi)))
def cv_0:SlR X (rSlL X.K):=by
 intro zd s σ H x v vl vu lo hi sl Q I rx hs pl pu h;obtain⟨a,xs,rfl,hx,q⟩:=h;cases rx;obtain⟨its,r,ht,hz⟩:=I.list hx;have zk:=r.length;refine⟨"list",_,slot_list_getitem.lookup,ht.isList.typeIs, ?_⟩;refine wpAny_getItem_list_slice ht.isList hs pl pu .none (by simp) ?_ (by rw[C1] <;> omega);rw[av_3,<-zk];refine⟨.ref s.heap.objs.size,_,I.laid (t':=s.toks) (o:=.lst (cutV xs lo hi)) (λb ob q=>A5 _ q) (A8 _) ?_,rfl,q _ (I.hok.fresh (A8 _))⟩;exact⟨C7 (bj_7 xs lo hi) hz,_,0,(r.drop (HT.sIx xs.length 0 lo)).take (HT.sIx xs.length xs.length hi - HT.sIx xs.length 0 lo),B8 _ rfl⟩
def Fc:V->Bool
 | .non=>true
 | .bl _=>true
 | .int _=>true
 | .str _=>true
 |_=>false
def eqV:V->V->Bool
 | .non,.non=>true
 | .bl a,.bl b=>a ==b
 | .bl a,.int b=>(if a then 1 else 0) ==b
 | .int a,.bl b=>a ==(if b then 1 else 0)
 | .int a,.int b=>a ==b
 | .str a,.str b=>a ==b
 |_,_=>false
def di_9{A:Around}{s:Shared}{y x:V}{u v:Value}(ry:RelV y u)(rx:RelV x v)(fy:Fc y=true)(fx:Fc x=true):SeqAt.EqAt A s u v (eqV y x):=by
 cases y with
 |non=>
  cases ry;cases x with
  |non=>cases rx;exact SeqAt.EqAt.same _
  |bl b=>cases rx;exact SeqAt.EqAt.none_bool b
  |int b=>obtain⟨t,rfl⟩:=rx;exact SeqAt.EqAt.none_int b t
  |str b=>obtain⟨t,rfl⟩:=rx;exact SeqAt.EqAt.none_str b t
  |_=>exact absurd (show false=true from fx) A7
 |bl a=>
  cases ry;cases x with
  |non=>cases rx;exact SeqAt.EqAt.bool_none a
  |bl b=>cases rx;exact SeqAt.EqAt.bool_bool a b
  |int b=>obtain⟨t,rfl⟩:=rx;exact SeqAt.EqAt.bool_int a b t
  |str b=>obtain⟨t,rfl⟩:=rx;exact SeqAt.EqAt.bool_str a b t
  |_=>exact absurd (show false=true from fx) A7
 |int a=>
  obtain⟨t',rfl⟩:=ry;cases x with
  |non=>cases rx;exact SeqAt.EqAt.int_none a t'
  |bl b=>cases rx;exact SeqAt.EqAt.int_bool a t' b
  |int b=>obtain⟨t,rfl⟩:=rx;exact SeqAt.EqAt.int_int a t' b t
  |str b=>obtain⟨t,rfl⟩:=rx;exact SeqAt.EqAt.int_str a t' b t
  |_=>exact absurd (show false=true from fx) A7
 |str a=>
  obtain⟨t',rfl⟩:=ry;cases x with
  |non=>cases rx;exact SeqAt.EqAt.str_none a t'
  |bl b=>cases rx;exact SeqAt.EqAt.str_bool a t' b
  |int b=>obtain⟨t,rfl⟩:=rx;exact SeqAt.EqAt.str_int a t' b t
  |str b=>obtain⟨t,rfl⟩:=rx;exact SeqAt.EqAt.str_str a t' b t
  |_=>exact absurd (show false=true from fx) A7
 |_=>exact absurd (show false=true from fy) A7
def eqU(x:V)(u:Value):Bool:=match u with
 | .none=>eqV .non x
 | .bool b=>eqV (.bl b) x
 | .int i _=>eqV (.int i) x
 | .str z _=>eqV (.str z) x
 |_=>false
def ci_5{x y:V}{u:Value}(r:RelV y u)(f:Fc y=true):eqU x u=eqV y x:=by
 cases y with
 |non=>cases r;rfl
 |bl b=>cases r;rfl
 |int i=>obtain⟨t,rfl⟩:=r;rfl
 |str z=>obtain⟨t,rfl⟩:=r;rfl
 |_=>exact absurd (show false=true from f) A7
theorem ae_3{x:V}:∀{xs:List V} {us:List Value},Vals xs us->xs.all Fc=true->us.any (eqU x)=xs.any λy=>eqV y x
 |_,_,.nil,_=>rfl
 |y::xs,u::us,.cons r t,f=>by
  rw[W7,C9]at f;rw[S3,S3,ci_5 r f.1,ae_3 t f.2]
theorem x_6{A:Around}{s:Shared}{x:V}{v:Value}(rx:RelV x v)(fx:Fc x=true):∀{xs:List V} {us:List Value},Vals xs us->xs.all Fc=true->∀u∈us,SeqAt.EqAt A s u v (eqU x u)
 |_,_,.nil,_=>λu hu=>by cases hu
 |y::xs,u::us,.cons r t,f=>λu' hu=>by
  rw[W7,C9]at f;rcases C4.mp hu with rfl|hu
  ·rw[ci_5 r f.1];exact di_9 r rx f.1 fx
  ·exact x_6 rx fx t f.2 u' hu
def inV(x:V)(xs:List V):Bool:=xs.any λy=>eqV y x
def rIn(K:Frag)(neg:Bool):R2:=λx y H Q=>∃p xs,y=.ref p/\(SqL K H p xs\/SqT K H p xs)/\Fc x=true/\xs.all Fc=true/\Q (.bl (if neg then !inV x xs else inV x xs)) H
def cc_5:OpR X (compareOp .In) (rIn X.K false):=by
 intro zd s σ H x y v u Q I rx ry h;obtain⟨p,xs,rfl,hq,fx,fs,q⟩:=h;cases ry;rcases hq with hq|hq
 ·obtain⟨its,r,pl,hz⟩:=I.list hq;refine SeqAt.in_listAt (eqU x) pl.isList (λw hw=>x_6 rx fx r fs w (by simpa using hw)) ⟨.bl _,H,I,rfl, ?_⟩;rw[show its.toArray.any (eqU x)=its.any (eqU x) by simp,ae_3 r fs];exact q
 ·obtain⟨its,r,pl,hz⟩:=I.tuple hq;refine SeqAt.in_tupleAt (eqU x) pl (λw hw=>x_6 rx fx r fs w (by simpa using hw)) ⟨.bl _,H,I,rfl, ?_⟩;rw[show its.toArray.any (eqU x)=its.any (eqU x) by simp,ae_3 r fs];exact q
def bd_2:OpR X (compareOp .NotIn) (rIn X.K true):=by
 intro zd s σ H x y v u Q I rx ry h;obtain⟨p,xs,rfl,hq,fx,fs,q⟩:=h;cases ry;rcases hq with hq|hq
 ·obtain⟨its,r,pl,hz⟩:=I.list hq;refine SeqAt.notIn_listAt (eqU x) pl.isList (λw hw=>x_6 rx fx r fs w (by simpa using hw)) ⟨.bl _,H,I,rfl, ?_⟩;rw[show its.toArray.any (eqU x)=its.any (eqU x) by simp,ae_3 r fs];exact q
 ·obtain⟨its,r,pl,hz⟩:=I.tuple hq;refine SeqAt.notIn_tupleAt (eqU x) pl (λw hw=>x_6 rx fx r fs w (by simpa using hw)) ⟨.bl _,H,I,rfl, ?_⟩;rw[show its.toArray.any (eqU x)=its.any (eqU x) by simp,ae_3 r fs];exact q
def bd_3:OpR X (compareOp .NotIn) (λx y H Q=>∃i j,x=.str i/\y=.str j/\Q (.bl (!(!(Builtin.Str.occurrences j i 0 j.length 1).isEmpty))) H):=by
 intro zd s σ H x y v u Q I rx ry h;obtain⟨i,j,rfl,rfl,q⟩:=h;obtain⟨t,rfl⟩:=rx;obtain⟨t',rfl⟩:=ry;exact notIn_str ⟨.bl _,H,I,rfl,q⟩
def ae_4:CallR X (.builtin "len") (λxs H Q=>∃p ys,xs= [.ref p]/\(SqL X.K H p ys\/SqT X.K H p ys)/\Q (.int ys.length) H):=by
 intro zd s σ H xs us Q I r h;obtain⟨p,ys,rfl,hq,q⟩:=h;obtain⟨u,rfl,rx⟩:=bj_4 r;cases rx;have hn:=ad_0;rcases hq with hq|hq
 ·obtain⟨its,r',pl,hz⟩:=I.list hq;have zk:=r'.length;exact Calls.call_len_list pl.isList (by simp only[C1] <;> omega) ⟨.int ys.length,H,I.tok _,⟨s.toks + 1,by rw[C1,zk]⟩,q⟩
 ·obtain⟨its,r',pl,hz⟩:=I.tuple hq;have zk:=r'.length;exact len_tuple pl (by simp only[C1] <;> omega) ⟨.int ys.length,H,I.tok _,⟨s.toks + 1,by rw[C1,zk]⟩,q⟩
def bd_4:CallR X (.builtin "len") (λxs H Q=>∃z,xs= [.str z]/\z.length<=sizeLine/\Q (.int z.length) H):=by
 intro zd s σ H xs us Q I r h;obtain⟨z,rfl,hz,q⟩:=h;obtain⟨u,rfl,t,rfl⟩:=bj_4 r;have hn:=ad_0;exact len_str () ⟨.int z.length,H,I.tok _,⟨_,rfl⟩,q⟩
def CallR.or{f:Value}{r r':List V->Hp->VK->Prop}(h:CallR X f r)(h':CallR X f r'):CallR X f (λxs H Q=>r xs H Q\/r' xs H Q):=by
 intro zd s σ H xs us Q I rs q;rcases q with q|q
 ·exact h zd s σ H xs us Q I rs q
 ·exact h' zd s σ H xs us Q I rs q
def ae_5:CallR X (.type "list") (λxs H Q=>∃p ys,xs= [.ref p]/\(SqL X.K H p ys\/SqT X.K H p ys)/\∀l,H l=none->Q (.ref l) (upd H l (.lst ys))):=by
 intro zd s σ H xs us Q I r h;obtain⟨p,ys,rfl,hq,q⟩:=h;obtain⟨u,rfl,rx⟩:=bj_4 r;cases rx;have fin:∀(its:List Value),Vals ys its->ys.length<=sizeLine->∀(h':Heap) (c':Nat),(∀b o',s.heap.get? b=some o'->h'.get? b=some o')->
   h'.get? s.heap.objs.size=some {cls:=.type "list",dict:=none,data:=.seq its.toArray c',slots:= #[]}->EP X zd σ Q (.ref s.heap.objs.size) {s with heap:=h'}:=λits r' hz h' c' kp e=>
  ⟨.ref s.heap.objs.size,_,I.laid (t':=s.toks) kp (A8 _) (show ObjOk X.prog X.w _ h' _ (.lst ys) from⟨hz,its,c',r',e⟩),rfl,q _ (I.hok.fresh (A8 _))⟩
 rcases hq with hq|hq
 ·obtain⟨its,r',pl,hz⟩:=I.list hq;have zk:=r'.length;obtain⟨o,ho,hc,n,hd⟩:=pl.isList;exact call_list_seq p (.inl rfl) ho hc hd (λh' c' kp e=>fin its r' hz h' c' kp e) (by simp only[C1] <;> omega)
 ·obtain⟨its,r',pl,hz⟩:=I.tuple hq;have zk:=r'.length;obtain⟨o,ho,hc,n,hd⟩:=pl;exact call_list_seq p (.inr rfl) ho hc hd (λh' c' kp e=>fin its r' hz h' c' kp e) (by simp only[C1] <;> omega)
def tyV(K:Frag)(T:String)(x:V)(H:Hp):Prop:=match x with
 | .str _=>T= "str"
 | .int _=>T= "int"
 | .ref p=>(T= "list" /\∃xs,SqL K H p xs)\/(T= "tuple" /\∃o,K.lookup p=some o/\o.cls=.type "tuple" /\o.dict=none)\/
   (T= "dict" /\((∃kvs,H p=some (.dK kvs))\/∃kvs,H p=some (.dT kvs)))\/(T= "set" /\∃S n,H p=some (.set S n))
 |_=>False
def dj_0{zd:AE}{σ:St}{H:Hp}{s:Shared}{T:String}{x:V}{v:Value}(I:Inv X zd σ H s)(r:RelV x v)(ty:tyV X.K T x H):
  s.TypeIs v T/\∀a,v=.ref a->∃ob,s.heap.get? a=some ob/\ob.dict=none:=by
 cases x with
 |str z=>
  obtain⟨t,rfl⟩:=r;cases(show T= "str" from ty);exact⟨typeIs_str s z t,λ_ e=>nomatch e⟩
 |int i=>
  obtain⟨t,rfl⟩:=r;cases(show T= "int" from ty);exact⟨typeIs_int s i t,λ_ e=>nomatch e⟩
 |ref p=>
  cases r;rcases ty with⟨rfl,xs,hq⟩|⟨rfl,o,hk,hc,hd⟩|⟨rfl,hk⟩|⟨rfl,S,n,hk⟩
  ·obtain⟨its,_,pl,_⟩:=I.list hq;refine⟨pl.isList.typeIs,λa e=> ?_⟩;cases e;obtain⟨o,n,e,c,hd,_⟩:=pl;exact⟨o,e,hd⟩
  ·refine⟨⟨o,I.kIn p o hk,hc⟩,λa e=> ?_⟩;cases e;exact⟨o,I.kIn _ o hk,hd⟩
  ·have z:∃o,s.heap.get? p=some o/\o.ExactDict:=by
    rcases hk with⟨kvs,hk⟩|⟨kvs,hk⟩
    ·obtain⟨_,_,_,_,o,_,_,e,ex,_⟩:=I.hok p _ hk;exact⟨o,e,ex⟩
    ·obtain⟨_,_,_,_,o,_,_,e,ex,_⟩:=I.hok p _ hk;exact⟨o,e,ex⟩
   obtain⟨o,e,ex⟩:=z;refine⟨⟨o,e,ex.1⟩,λa e2=> ?_⟩;cases e2;exact⟨o,e,ex.2.1⟩
  ·obtain⟨o,_,_,_,e,ex,_⟩:=I.hok p _ hk;refine⟨⟨o,e,ex.1⟩,λa e2=> ?_⟩;cases e2;exact⟨o,e,ex.2.1⟩
 |_=>exact False.elim ty
def tBM(K:Frag)(T:String)(r:V->List V->Hp->VK->Prop)(to:TE)(t:TA):TE:=λ σ H Q=>to σ H λx H1=>tyV K T x H1/\t σ H1 λxs H2=>r x xs H2 Q
variable{o e:Expr}{es:List Expr}{to:TE}{t:TA}{name:Str}{zh zf:Pos}{T id:String}{r:V->List V->Hp->VK->Prop}
def bj_8(pa:PlainAttrs T)(slot:Slot T name id)(hty:typeOf (.builtin id)=pure (.type "method_descriptor"))(hm:MtR X id r)(ho:PE X o to)(ha:PA X (e::es) t)
  (ag:attributeBase o name X.env (eval o X.env)=eval o X.env:=by rfl)
  (ax:((backTo zf (starEach (e::es) X.env)).all (λx=> !x.1) && (backToKw zf (keywordEach [] X.env)).all (λx=>x.1.isSome)
   && decide ((e::es).length + ([]:List Keyword).length + (if([]:List Keyword).isEmpty then 0 else 1) < 30))=true:=by rfl)
  (af:(zh.endLine ==zf.line)=true:=by rfl) (hs:starEach (e::es) X.env=(false,eval e X.env)::starEach es X.env:=by rfl) (aa:(backTo zf (starEach es X.env)).any (·.1)=false:=by rfl):
  PE X (.Call (.Attribute o name zh) (e::es) [] zf) (tBM X.K T r to t):=by
 intro zd s σ H Q I h;refine wpAny_Call_method_late ag ax af rfl (Ax (ho zd s σ H _ I h) λv s1 ⟨x,H1,I1,r1,ty,q1⟩=> ?_);obtain⟨h1,h2⟩:=dj_0 I1 r1 ty;refine⟨T,id,pa,slot,hty,h1,h2, ?_⟩;have hA:=ha zf zd s1 σ H1 _ I1 q1;rw[hs]at hA⊢;refine U5 (by show(false || (backTo zf (starEach es X.env)).any (·.1))=false;rw[aa] <;> rfl) (W9 ?_);exact Ax hA λus s2 ⟨vs,H2,I2,r2,q2⟩=>hm zd s2 σ H2 x vs v us Q I2 r1 r2 q2
end
def MtM(X:Cx)(id:String)(r:V->List V->Hp->VK->Prop):Prop:=
 ∀(zd:AE) (s:Shared) (σ:St) (H:Hp) (x:V) (xs:List V) (v:Value) (us:List Value) (Q:VK),Inv X zd σ H s->RelV x v->Vals xs us->r x xs H Q->
  wpAny (model X.prog X.w) X.A (call (.builtin id) (v::us)) (EP X zd σ Q) X.xe s
def Vals.one:∀{x:V} {us:List Value},Vals [x] us->∃u,us= [u]/\RelV x u
 |_,_,.cons r .nil=>⟨_,rfl,r⟩
def Vals.two{x y:V}{us:List Value}(h:Vals [x,y] us):∃u v,us= [u,v]/\RelV x u/\RelV y v:=by
 cases h with
 |cons r t=>
  cases t with
  |cons q t=>
   cases t;exact⟨_,_,rfl,r,q⟩
def Vals.zero:∀{us:List Value},Vals [] us->us= []
 |_,.nil=>rfl
theorem Vals.reverse{xs:List V}{us:List Value}(h:Vals xs us):Vals xs.reverse us.reverse:=by
 induction h with
 |nil=>exact .nil
 |cons r t ih=>rw[Q0,Q0];exact Vals.append ih (.cons r .nil)
theorem Vals.rep{xs:List V}{us:List Value}(h:Vals xs us):∀k:Nat,Vals (List.replicate k xs).flatten (List.replicate k us).flatten
 |0=> .nil
 |k + 1=>by
  rw[L7,L7,Q1,Q1];exact Vals.append h (Vals.rep h k)
theorem ay_3(its:List Value):∀(k:Nat) (zn:List Value),
  List.foldl (λx1 x2=>x1 ++ x2) zn.toArray (List.replicate k its.toArray)=(zn ++ (List.replicate k its).flatten).toArray
 |0,zn=>by simp
 |k + 1,zn=>by
  have e:zn.toArray ++ its.toArray=(zn ++ its).toArray:=by simp
  have e2:(zn ++ its) ++ (List.replicate k its).flatten=zn ++ (List.replicate (k + 1) its).flatten:=by
   rw[L7,Q1,M9]
  rw[<-e2,<-ay_3 its k (zn ++ its),<-e,L7,ZC6]
section
variable{X:Cx}{zd:AE}{σ:St}{H:Hp}{s:Shared}{l b:Addr}{xs ys zs:List V}
def Inv.lset{its its':List Value}{n:Nat}{f:Array Value->Array Value}{t':Nat}(I:Inv X zd σ H s)(hH:H l=some (.lst xs))
  (e:s.heap.get? l=some {cls:=.type "list",data:=.seq its.toArray n}) (hf:f its.toArray=its'.toArray) (hv:Vals ys its') (hz:ys.length<=sizeLine):
  Inv X zd σ (upd H l (.lst ys)) {s with heap:=s.heap.update l (Obj.mapSeq f),toks:=t'}:=by
 have q:=PySem.IsL.update e f;rw[hf]at q;refine I.write (x:=l) (e:=l) (by rw[hH];exact trivial) (.inl rfl) (λb' u hb hu=>(F3 s.heap (Obj.mapSeq f) (Ne.symm hb)).trans hu) ⟨_,q⟩ ?_;exact⟨hz,its',_,hv,q⟩
def Inv.lnew{its:List Value}{t':Nat}(I:Inv X zd σ H s)(hv:Vals ys its)(hz:ys.length<=sizeLine):
  Inv X zd σ (upd H s.heap.objs.size (.lst ys)) {s with heap:=s.heap.push {cls:=.type "list",data:=.seq its.toArray},toks:=t'}:=
 I.laid (λ_ _ q=>A5 _ q) (A8 _) ⟨hz,its,0,hv,B8 _ rfl⟩
theorem Inv.fresh(I:Inv X zd σ H s):H s.heap.objs.size=none:=I.hok.fresh (A8 _)
def Inv.lstM(I:Inv X zd σ H s)(hH:H l=some (.lst xs)):xs.length<=sizeLine/\∃(its:List Value) (n:Nat),Vals xs its/\xs.length=its.length/\s.heap.get? l=some {cls:=.type "list",data:=.seq its.toArray n}:=by
 obtain⟨z,its,n,r,e⟩:=I.hok l _ hH;exact⟨z,its,n,r,r.length,e⟩
def ci_6{n:Nat}(h:n<=sizeLine):Builtin.List.listTooLong n=false:=by
 unfold Builtin.List.listTooLong;exact F8 ()
end
section
variable{X:Cx}
def bd_5:V->List V->Hp->VK->Prop:=λx vs H Q=>∃l xs y,x=.ref l/\vs= [y]/\H l=some (.lst xs)/\xs.length < sizeLine/\Q .non (upd H l (.lst (xs ++ [y])))
def q_8:MtM X "list.append" bd_5:=by
 intro zd s σ H x vs v us Q I rx rv h;obtain⟨l,xs,y,rfl,rfl,hH,hz,q⟩:=h;cases rx;obtain⟨u,rfl,ru⟩:=rv.one;obtain⟨z,its,n,r,hl,e⟩:=I.lstM hH;refine call_meets F.slot_list_append ⟨_,e,rfl⟩ F.entry_list_append (F.args_list_append_2 _ _) (PySem.list_append l its.toArray n u (by rw[C1];omega)) ⟨e, ?_⟩;refine⟨.non,_,I.lset (its':=its ++ [u]) hH e (by simp) (r.append (.cons ru .nil)) ?_,rfl,q⟩;rw[B5,L8];omega
def rRep:R2:=λx y H Q=>∃l k xs,x=.ref l/\y=.int k/\H l=some (.lst xs)/\ -(2 ^ 63)<=k/\k < 2 ^ 63/\xs.length * k.toNat<=sizeLine/\
 ∀p,H p=none->Q (.ref p) (upd H p (.lst (List.replicate k.toNat xs).flatten))
def cv_1{α:Type}(xs:List α)(k:Nat):(List.replicate k xs).flatten.length=k * xs.length:=by
 induction k with
 |zero=>simp
 |succ k ih=>rw[L7,Q1,B5,ih,Nat.succ_mul,Nat.add_comm]
def dj_1:OpR X (binaryOp .Mult) rRep:=by
 intro zd s σ H x y v u Q I rx ry h;obtain⟨l,k,xs,rfl,rfl,hH,h1,h2,hz,q⟩:=h;cases rx;obtain⟨t,rfl⟩:=ry;obtain⟨z,its,n,r,hl,e⟩:=I.lstM hH;have zk:its.toArray.size * k.toNat<=sizeLine:=by rw[C1,<-hl];exact hz
 have iw:¬its.toArray.size * k.toNat > (2 ^ 63 - 1) / 8:=by
  have:(sizeLine:Nat)<=(2 ^ 63 - 1) / 8:=by decide
  omega
 have ib:¬(!Builtin.List.listFitsIndex k)=true:=by
  rw[fitsIndex_both h1 h2];exact A7
 have dn:¬Builtin.List.listTooLong (its.toArray.size * k.toNat)=true:=by
  rw[ci_6 zk];exact A7
 have ig:List.foldl (λx1 x2=>x1 ++ x2) #[] (List.replicate (if its.toArray.isEmpty=true then 0 else k.toNat) its.toArray)=(List.replicate k.toNat its).flatten.toArray:=by
  have f0:∀m:Nat,List.foldl (λx1 x2=>x1 ++ x2) #[] (List.replicate m its.toArray)=(List.replicate m its).flatten.toArray:=λm=>by
   have:=ay_3 its m [];rw[P5]at this;exact this
  rw[f0];cases its with
  |nil=>simp
  |cons a r'=>rw[if_neg (by simp)]
 refine wpAny_binaryOp_repeat_ref (T:= "list") (U:= "int") ⋯ ⟨_,e,rfl⟩ (λs'=>typeIs_int s' k t) noFill_list_mul F.fills_int_mul F.slot_int_rmul repeat_list F.slot_int_index.lookup
  (call_meets F.slot_int_rmul (typeIs_int s k t) F.entry_int_rmul (F.args_int_rmul_2 _ _) (int___rmul___int_list k t l its.toArray n)
   ⟨e,rfl,⟨_,e,rfl⟩,call_meets F.slot_list_mul ⟨_,e,rfl⟩ F.entry_list_mul (F.args_list_mul_2 _ _) (AutoListH.list___mul___list_int_3 l its.toArray n k t ib iw dn) ⟨e, ?_⟩⟩)
 rw[ig];exact⟨.ref _,_,I.lnew (t':=s.toks) (r.rep k.toNat) (by rw[cv_1,Nat.mul_comm];exact hz),rfl,q _ I.fresh⟩
end
section
variable{prog:Program}{w:World}{A:Around}{E:AA}{s:Shared}
end
section
variable{X:Cx}
end
end L2
namespace Att
open PySem PySem.W PySem.Calls PyProof.Rows
def am_9{P:Params}{h:Heap}:∀(ns:List Int) (vs:List Value),WellAll P h vs (ns.map WData.int)->IntsAre vs ns:=by
 intro ns
 induction ns with
 |nil=>
  intro vs w;rw[M3]at w;cases w;exact .nil
 |cons n ns ih=>
  intro vs w;rw[B1]at w;cases w with
  |cons a b=>
   cases a;exact .cons _ _ (ih _ b)
def cc_6{l:OpenLaw}{n:Nat}(hn:l.most=some n){P:Params}{h:Heap}{args:List WData}{vals:List Value}
  (cj:l.row.toRowW.claim.pre args=true) (hwl:WellAll P h vals args):
  ∃a vs ns,vals= [Value.ref a]/\args= [WData.list (ns.map WData.int)]/\h.get? a=some {cls:=.type "list",data:=.seq vs.toArray}/\IntsAre vs ns/\ns.length<=n:=by
 have hsh:WShape.hasAll [] args [.list .int]=true:=(pre_splitW cj).1;have hc:l.pre.holds [] {args:=args}=true:=(pre_splitW cj).2;obtain⟨d,r,rfl,h1,h2⟩:=hasAllW_cons hsh;obtain rfl:=hasAllW_nil h2;obtain⟨xs,rfl,h3⟩:=hasW_list h1;obtain⟨ns,rfl⟩:=items_int h3;have zk:ns.length<=n:=by
  unfold OpenLaw.pre at hc;have h4:(WTm.not (.lt (.lit (.int (n:Int))) (.len (.arg 0)))).holds [] {args:=[.list (ns.map .int)]}=true:=by
   have h4:=(holds_andW hc).1;rw[hn]at h4;exact h4
  have h5:=condW_of h4 (w_not (w_lt w_lit (w_len_list (w_arg rfl))));rw[A3]at h5;refine Nat.le_of_not_lt λq=> ?_;have q':(n:Int) < ((ns.length:Nat):Int):=by omega
  first
   |(rw[F5 q']at h5;exact absurd h5 ⋯)
   |(simp at h5;omega)
 cases hwl with
 |cons w1 w2=>
  cases w2;cases w1 with
  |list ho bj=>exact⟨_,_,ns,rfl,rfl,ho,am_9 ns _ bj,zk⟩
def cc_7(l:OpenLaw)(args:List WData):l.row.toRowW.claim.post args (.bool true) args=true:=
 postW_of (r:=l.row.toRowW) (X:=(true ==true))
  (show WShape.has [] (.bool true) .bool=true by first|rfl|decide|simp[WShape.has,WShape.arms,WShape.armsAll])
  (show(WTm.eq .res (.lit (.bool true))).value [] {args:=args,res:=some (.bool true),after:=args}=some (.bool (true ==true)) from w_eq_bool (w_res rfl) w_lit) rfl
def attach_call{l:OpenLaw}{n:Nat}{q:Program}{loose:List Str}{XP:(AB)->Heap->Prop}{YP:World->Heap->Prop}{d:DefRec}
  (hn:l.most=some n) (hdf:d.params.defaults= [])
  (call:∀(w:World) (s₀ s₁:Shared) (mg mb:AB) (fa:Addr) (o:Obj) (pm cd doc:Value) (a:Addr) (vs:List Value) (ns:List Int),
   Ground q loose [] XP w s₀ mg mb s₁.heap->YP w s₁.heap->
   s₁.heap.get? fa=some o->o.data=.func (docDef d.name d.params d.body d.scope pm cd doc)->s₁.heap.CodeRec cd d.name->mg d.name=some (.ref fa)->
   s₁.heap.get? a=some {cls:=.type "list",data:=.seq vs.toArray}->IntsAre vs ns->ns.length<=n->s₁.gens= #[]->
   codeAny (model l.prog w) callerA (.call (.ref fa) ⟨[.ref a],[]⟩) (λr s'=>r=.ok (.ret (.bool true))/\OldK s₁.heap s'.heap/\s'.os=s₁.os/\AllBare s'.gens) s₁):
  WalkO q loose XP YP l.row.toRowW d [] (λf vs=>PySem.call f vs):=by
 intro w s₀ s₁ mg mb G Y fa o pm cd doc dV kV ho hd hcd hD hmg hg args vals as cj hlay hrd hwl hlo;obtain rfl:dV=.none:=Dflts.none hD hdf;obtain rfl:kV=.none:=Dflts.noKw hD;obtain⟨a,vs,ns,rfl,rfl,bq,hints,zk⟩:=cc_6 hn cj hwl;refine enter_call (R7 (call w s₀ s₁ mg mb fa o pm cd doc a vs ns G Y ho (fd_plain hd) hcd hmg bq hints zk hg) λr s' hq=> ?_);obtain⟨rfl,h2,h3,h4⟩:=hq;exact⟨.inl ⟨.bool true,.bool true,[],rfl,λ_=>rfl,.bool true,cc_7 l _,λ_=>⟨List.Pairwise.nil,λ_ hm=>(nomatch hm)⟩⟩,h2,h3,h4⟩
section
variable{prog:Program}{w:World}{A:Around}{E:AA}{s:Shared}{K:Frag}
end
end Att
namespace L2
open PySem PySem.Spec PyProof.Rows
theorem ay_4:∀{vs:List Value} {ns:List Int},IntsAre vs ns->Vals (ns.map V.int) vs
 |_,_,.nil=> .nil
 |_,_,.cons n t h=> .cons ⟨t,rfl⟩ (ay_4 h)
def Only(H:Hp):Prop:=∀b,H b=none\/(∃o xs,H b=some (.frz o (.lst xs)))\/H b=some (.tbl #[])
def ci_7{P:Program}{w:World}{K:Frag}{mg mb:AB}{CX:CXT}{k:Nat}{fa a:Addr}{fd:FuncData}{x:Str}{sp:Sp}{s₁:Shared}{vs:List Value}{ns:List Int}
  (KX:K.In s₁.heap) (hns:s₁.heap.Ns mainGlobals mg) (hb:s₁.heap.Ns builtinsNs mb) (hbb:∀x:Str,x≠ "__name__" ->mb x=bootBuiltins x) (fw:s₁.heap.NoLimit) (hg:s₁.gens= #[])
  (ha:s₁.heap.get? a=some {cls:=.type "list",data:=.seq vs.toArray}) (hi:IntsAre vs ns) (hl:ns.length<=sizeLine) (hr:Room k callerA) (hbm:∃bm o,mg "__builtins__" =some (.ref bm)/\bm≠builtinsNs/\s₁.heap.get? bm=some o/\o.cls=.type "module" /\o.dict=some builtinsNs/\o.data=.plain) (hT:∀c P,PySem.W.tabIn K "numbers_by_bucket" =some (c,P)->isCodeTable s₁.heap P/\s₁.heap.get? P=some {cls:=.none,data:=.fields #[]}/\K.lookup P=none)
  (F:∀base:Heap,K.In base->base.Ns mainGlobals mg->FnOk P w K mg base CX k fa fd [x] sp) (ak:∀(s:Shared) (u:Value),BindsTo s fd ⟨[u],[]⟩ [(x,u)])
  (hsp:∀H:Hp,Only H->SqL K H a (ns.map V.int)->sp [.ref a] H (λv _=>v=.bl true) λ_ _ _=>False)
  (hCX:∀H e s',CX [] H s₁ (λ_ _ _=>False) e s'->False):
  codeAny (model P w) callerA (.call (.ref fa) ⟨[.ref a],[]⟩) (λr s'=>r=.ok (.ret (.bool true))/\OldK s₁.heap s'.heap/\s'.os=s₁.os/\AllBare s'.gens) s₁:=by
 have rv:=ay_4 hi;have gr:=hi.length
 
 have core:∀H:Hp,Only H->SqL K H a (ns.map V.int)->HOk P w H s₁.heap->(∀b,H b≠none->b=a\/(H b=some (.tbl #[])/\isCodeTable s₁.heap b/\s₁.heap.get? b=some {cls:=.none,data:=.fields #[]}/\K.lookup b=none))->(H a≠none->K.lookup a=none)->TabH K H->
   codeAny (model P w) callerA (.call (.ref fa) ⟨[.ref a],[]⟩) (λr s'=>r=.ok (.ret (.bool true))/\OldK s₁.heap s'.heap/\s'.os=s₁.os/\AllBare s'.gens) s₁:=by
  intro H hO hS hok hA hK hTH;have ao:∀{b:Addr} {o:Obj},s₁.heap.get? b=some o->H b=none->(hidT s₁.heap H).get? b=some o:=λe n=>cg_6 e n;have noA:∀{b:Addr} {o:Obj} {es:Array DictEntry} {ep:Nat},s₁.heap.get? b=some o->o.data=.dict es ep->H b=none:=λ{b o es ep} e d=>by
   cases q:H b with
   |none=>rfl
   |some u=>
    rcases hA b (by rw[q];simp) with e'|⟨_,_,e',_⟩
    ·subst e';rw[ha]at e;cases e;have d':Data.seq vs.toArray _=Data.dict es ep:=d;cases d'
    ·rw[e']at e;cases e;have d':Data.fields #[]=Data.dict es ep:=d;cases d'
  have nsK:∀{b:Addr} {m:AB},s₁.heap.Ns b m->(hidT s₁.heap H).Ns b m:=λ{b m} ⟨o,es,ep,e,d,r⟩=>⟨o,es,ep,ao e (noA e d),d,r⟩;have hKb:K.In (hidT s₁.heap H):=λb o e=>ao (KX b o e) (by
   cases q:H b with
   |none=>rfl
   |some u=>
    rcases hA b (by rw[q];simp) with e'|⟨_,_,_,e'⟩
    ·subst e';rw[hK (by rw[q];simp)]at e;cases e
    ·rw[e']at e;cases e)
  have hM:Mod K mg (hidT s₁.heap H):=⟨hKb,nsK hns,⟨mb,nsK hb,hbb⟩,let⟨mc,h1,h2⟩:=fw;⟨mc,nsK h1,h2⟩,let⟨bm,o,b1,b2,b3,b4,b5,b6⟩:=hbm;⟨bm,o,b1,b2,ao b3 (by
   cases q:H bm with
   |none=>rfl
   |some u=>
    rcases hA bm (by rw[q];simp) with e'|⟨_,_,e',_⟩
    ·subst e';rw[ha]at b3;cases b3;have d':Data.seq vs.toArray _=Data.plain:=b6;cases d'
    ·rw[e']at b3;cases b3;have d':Data.fields #[]=Data.plain:=b6;cases d'),b4,b5,b6⟩⟩
  have e0:Env0 P w K mg (hidT s₁.heap H) callerA [] s₁ H:=⟨rfl,hM,λb o e=>ct_7 e,P9 (cb_4 _ _),trivial,λb hb=>absurd (show b∈([]:List Addr) from hb) (by simp),hok,.of_eq hg,hTH⟩;refine R7 ((F _ hKb (nsK hns)).run callerA [] s₁ H ⟨[.ref a],[]⟩ [.ref a] [.ref a] _ _ hr e0 (ak s₁ (.ref a)) (.cons rfl .nil) (hsp H hO hS)) λr s' h=> ?_;cases r with
  |error e=>exact(hCX H e s' h).elim
  |ok fl=>
   cases fl with
   |next=>exact False.elim h
   |brk=>exact False.elim h
   |cont=>exact False.elim h
   |ret u=>
    obtain⟨v,H',os,bare,un,ei,r',q⟩:=h;have q':v=.bl true:=q;subst q';obtain rfl:u=Value.bool true:=r';have old:∀b o,s₁.heap.get? b=some o->s'.heap.get? b=some o\/(isCodeTable s₁.heap b/\o={cls:=.none,data:=.fields #[]}/\∃vs,s'.heap.get? b=some {cls:=.none,data:=.fields vs}):=λb o e=>by
     cases q:H b with
     |none=>exact .inl (un.keep b o e q (by intro z;exact absurd (show b∈([]:List Addr) from z) (by simp)) (by simp))
     |some u=>
      rcases hO b with z|⟨ob,xs,z⟩|z
      ·rw[q]at z;cases z
      ·have z2:=un.frzs b ob _ z;obtain⟨e1,_⟩:=hok b _ z;obtain⟨e2,_⟩:=ei b _ z2;rw[e]at e1;cases e1;exact .inl e2
      ·obtain⟨m,z2⟩:=un.tbls b _ z;obtain⟨vs,e2,_⟩:=ei b _ z2;rcases hA b (by rw[q];simp) with e'|⟨_,c,e',_⟩
       ·subst e';obtain⟨_,e3,_⟩:=hok b _ z;rw[ha]at e3;cases e3
       ·rw[e]at e';cases e';exact .inr ⟨c,rfl,vs,e2⟩
    refine⟨rfl,⟨λb o e=> ?_,λb o e=> ?_⟩,os,bare⟩
    ·rcases old b o e with z|⟨c,rfl,vs,z⟩
     ·exact .inl z
     ·exact .inr (.inl ⟨c,rfl, #[],vs,rfl,by rw[z];simp⟩)
    ·rcases old b o e with z|⟨_,_,vs,z⟩
     ·exact⟨o,z⟩
     ·exact⟨_,z⟩
 have tr:TriplesOk (#[]:Array Value).toList:=trivial;have fq:∀(H:Hp) (b:Addr),s₁.heap.get? b=some {cls:=.none,data:=.fields #[]}->ObjOk P w H s₁.heap b (.tbl #[]):=λH b e=>⟨#[],e,tr,λpos cv q=>by simp[codeAmong]at q⟩
 
 let HT:Hp:=λb=>match PySem.W.tabIn K "numbers_by_bucket" with
  |some (_,P)=>if b=P then some (.tbl #[]) else none
  |none=>none
 have hHT:∀b u,HT b=some u->u=.tbl #[]/\isCodeTable s₁.heap b/\s₁.heap.get? b=some {cls:=.none,data:=.fields #[]}/\K.lookup b=none:=λb u z=>by
  dsimp only[HT]at z;cases q:PySem.W.tabIn K "numbers_by_bucket" with
  |none=>rw[q]at z;cases z
  |some cp=>
   obtain⟨c,p⟩:=cp;rw[q]at z;dsimp only at z
   split at z
   ·rename_i hb;cases z;subst hb;exact⟨rfl,hT c b q⟩
   ·cases z
 have bh:TabH K HT:=λc p e=>⟨#[],by dsimp only[HT];rw[e];dsimp only;rw[if_pos rfl]⟩;have neA:∀b,HT b≠none->b≠a:=λb z e=>by
  cases q:HT b with
  |none=>exact z q
  |some u=>
   have:=(hHT b u q).2.2.1;rw[e,ha]at this;cases this
 have bz:∀b,HT b=none\/HT b=some (.tbl #[]):=λb=>by
  cases q:HT b with
  |none=>exact .inl rfl
  |some u=>rw[(hHT b u q).1];exact .inr rfl
 cases hk:K.lookup a with
 |some o=>
  have e:=KX a o hk;rw[ha]at e;cases e;refine core HT (λb=>(bz b).imp_right .inr) (.inr ⟨_,vs.toArray,_,hk,rfl,rfl,rfl,by rw[C1,gr];exact hl,by simpa using rv⟩) (λb u z=> ?_) (λb z=> ?_) (λz=>absurd rfl (neA a z)) bh
  ·obtain⟨rfl,_,e,_⟩:=hHT b u z;exact fq _ _ e
  ·cases q:HT b with
   |none=>exact absurd q z
   |some u=>obtain⟨rfl,r⟩:=hHT b u q;exact .inr ⟨rfl,r⟩
 |none=>
  refine core (λb=>if b=a then some (.frz {cls:=.type "list",data:=.seq vs.toArray} (.lst (ns.map V.int))) else HT b) (λb=> ?_) (.inl (.inr ⟨{cls:=.type "list",data:=.seq vs.toArray},if_pos rfl⟩)) (λb u z=> ?_) (λb z=> ?_) (λ_=>hk) λc p e=> ?_
  ·by_cases hb:b=a
   ·exact .inr (.inl ⟨_,_,if_pos hb⟩)
   ·rcases bz b with z|z
    ·exact .inl ((if_neg hb).trans z)
    ·exact .inr (.inr ((if_neg hb).trans z))
  ·by_cases hb:b=a
   ·have z':=(if_pos hb).symm.trans z;cases z';subst hb;exact⟨ha,by rw[A3];exact hl,vs,_,rv,ha⟩
   ·have z':=(if_neg hb).symm.trans z;obtain⟨rfl,_,e,_⟩:=hHT b u z';exact fq _ _ e
  ·by_cases hb:b=a
   ·exact .inl hb
   ·have z':HT b≠none:=λq=>z ((if_neg hb).trans q);cases q:HT b with
    |none=>exact absurd q z'
    |some u=>obtain⟨rfl,r⟩:=hHT b u q;exact .inr ⟨if_neg hb,r⟩
  ·obtain⟨ps,z⟩:=bh c p e;exact⟨ps,(if_neg (neA p (by rw[z];simp))).trans z⟩
def cv_2{l:PySem.W.OpenLaw}{n k:Nat}{q:Program}{loose:List Str}{XP:(AB)->Heap->Prop}{YP:World->Heap->Prop}{d:DefRec}{K:Params->Frag}{CX:World->CXT}{sp:World->Sp}{x:Str}
  (hn:l.most=some n) (hn2:n<=sizeLine) (hdf:d.params.defaults= []) (hr:Room k callerA)
  (hY:∀(w:World) (h:Heap),YP w h->(K w.params).In h) (hT:∀(w:World) (h:Heap),YP w h->∀c P,PySem.W.tabIn (K w.params) "numbers_by_bucket" =some (c,P)->isCodeTable h P/\h.get? P=some {cls:=.none,data:=.fields #[]}/\(K w.params).lookup P=none)
  (F:∀(w:World) (mg:AB) (fa:Addr) (h:Heap),(K w.params).In h->h.Ns mainGlobals mg->mg d.name=some (.ref fa)->
   ∃fd:FuncData,(∀(s:Shared) (u:Value),BindsTo s fd ⟨[u],[]⟩ [(x,u)])/\
    ∀base:Heap,(K w.params).In base->base.Ns mainGlobals mg->FnOk l.prog w (K w.params) mg base (CX w) k fa fd [x] (sp w))
  (hsp:∀(w:World) (H:Hp) (a:Addr) (ns:List Int),ns.length<=n->Only H->SqL (K w.params) H a (ns.map V.int)->sp w [.ref a] H (λv _=>v=.bl true) λ_ _ _=>False)
  (hCX:∀(w:World) (H:Hp) (s:Shared) (e:Value) (s':Shared),CX w [] H s (λ_ _ _=>False) e s'->False):
  PySem.W.WalkO q loose XP YP l.row.toRowW d [] (λf vs=>PySem.call f vs):=by
 refine Att.attach_call hn hdf λw s₀ s₁ mg mb fa o pm cd doc a vs ns G Y ho hd hcd hmg bq hints zk hg=> ?_;have KX:=hY w _ Y;obtain⟨fd,hb,hF⟩:=F w mg fa _ KX G.T.g hmg;exact ci_7 KX G.T.g G.T.b G.T.builtins G.T.nolimit hg bq hints (C7 zk hn2) hr G.T.bmain (hT w _ Y) hF hb (λH hO hS=>hsp w H a ns zk hO hS) λH e s'=>hCX w H s₁ e s'
def i_3(s:Stmt):Arguments:=match s with
 | .FunctionDef _ a _ _ _ _ _ _ _ _=>a
 |_=>{posonlyargs:=[],args:=[],vararg:=none,kwonlyargs:=[],kw_defaults:=[],kwarg:=none,defaults:=[]}
def Fs(s:Stmt):List Stmt:=match s with
 | .FunctionDef _ _ b _ _ _ _ _ _ _=>b
 |_=> []
def Cc(s:Stmt):Scope:=match s with
 | .FunctionDef _ _ _ _ _ _ sc _ _ _=>sc
 |_=>{kind:=.function,names:=[],isGenerator:=false,isCoroutine:=false}
abbrev CX0:CXT:=λ_ _ _ _ _ _=>False
abbrev E0:XK:=λ_ _ _=>False
structure Fun(K:Frag)(x qual:Str)(st:Stmt)(f:Addr)(fd:FuncData):Prop where
 ex:∃(oc:Value) (od:Option Addr) (kV doc pm:Value) (an:Option Addr) (zp ct:Value) (osl:Array (Option Value)),
  fd=fnOf x qual (i_3 st) (Fs st) (Cc st) .none kV doc pm an zp ct/\K.lookup f=some ⟨oc,od,.func fd,osl⟩/\codeIn K zp qual=true
 kp:keepIn K (.ref f)=true
section
variable{P:Program}{w:World}{K:Frag}{mg:AB}{base:Heap}
def Fun.binds{x qual:Str}{st:Stmt}{f:Addr}{fd:FuncData}{ps:List Str}(F:Fun K x qual st f fd)
  (h:∀(kV doc pm:Value) (an:Option Addr) (zp ct:Value) (us:List Value),us.length=ps.length->bindArgs (fnOf x qual (i_3 st) (Fs st) (Cc st) .none kV doc pm an zp ct) ⟨us,[]⟩=pure (ps.zip us)):Binds K fd ps []:=by
 obtain⟨oc,od,kV,doc,pm,an,zp,ct,osl,rfl,lk,hcd⟩:=F.ex;exact .all (h kV doc pm an zp ct)
def br_7{x qual:Str}{st:Stmt}{f:Addr}{oc:Value}{od an:Option Addr}{osl:Array (Option Value)}{kV doc pm zp ct:Value}(l:K.lookup f=some ⟨oc,od,.func (fnOf x qual (i_3 st) (Fs st) (Cc st) .none kV doc pm an zp ct),osl⟩)
  (c:codeIn K zp qual=true) (k:keepIn K (.ref f)=true):Fun K x qual st f (fnOf x qual (i_3 st) (Fs st) (Cc st) .none kV doc pm an zp ct):=⟨⟨oc,od,kV,doc,pm,an,zp,ct,osl,rfl,l,c⟩,k⟩
end
section
variable{X:Cx}
end
def Same(H H':Hp):Prop:=∀b o,H b=some o->H' b=some o
def Same.refl(H:Hp):Same H H:=λ_ _ h=>h
def Same.trans{H H1 H2:Hp}(a:Same H H1)(b:Same H1 H2):Same H H2:=λc o h=>b c o (a c o h)
def Same.free{H H':Hp}(e:Same H H'){l:Addr}(h:H' l=Option.none):H l=Option.none:=by
 cases q:H l with
 |none=>rfl
 |some o=>
  rw[e l o q]at h;cases h
def Same.seq{K:Frag}{H H':Hp}{a:Addr}{xs:List V}(e:Same H H')(h:SqL K H a xs):SqL K H' a xs:=by
 rcases h with(h|⟨o,h⟩)|h
 ·exact .inl (.inl (e _ _ h))
 ·exact .inl (.inr ⟨o,e _ _ h⟩)
 ·exact .inr h
end L2
namespace L3
open PySem PySem.Spec PyProof.Rows L2
variable{K:Frag}{fd:FuncData}{mg:AB}{us:List Value}{base:Heap}{H:Hp}{X:Cx}{pos:Pos}
abbrev Sg:=L2.St
inductive D where
 |non|bl (b:Bool)|int (i:Int)|str (x:Str)|lst (ds:List D)|tup (ds:List D)|dic (kvs:List (Ak×D))
 |exn (c:Str) (ns:List Str) (vs:List D)|obj (c:Str) (ns:List Str) (vs:List D)
structure Xn where
 c:Str
 ns:List Str
 vs:List D
inductive R(α:Type) where
 |ok (a:α)|ex (x:Xn)|no
namespace R
def bind{α β:Type}(r:R α)(k:α->R β):R β:=match r with
 | .ok a=>k a
 | .ex x=> .ex x
 | .no=> .no
@[simp] theorem bind_ok{α β:Type}(a:α)(k:α->R β):(R.ok a).bind k=k a:=rfl
@[simp] theorem bind_ex{α β:Type}(x:Xn)(k:α->R β):(R.ex x).bind k=.ex x:=rfl
@[simp] theorem bind_no{α β:Type}(k:α->R β):(R.no).bind k=.no:=rfl
end R
inductive Tn where
 |sh (d:D)|lst (ts:List Tn)|tup (ts:List Tn)|dic (zm:List (Ak×Tn))|obj (c:Str) (ns:List Str) (ts:List Tn)
mutual
def Tn.d:Tn->D
 | .sh d=>d
 | .lst ts=> .lst (Tn.ds ts)
 | .tup ts=> .tup (Tn.ds ts)
 | .dic zm=> .dic (Tn.ks zm)
 | .obj c ns ts=> .obj c ns (Tn.ds ts)
def Tn.ds:List Tn->List D
 | []=> []
 |t::ts=>t.d::Tn.ds ts
def Tn.ks:List (Ak×Tn)->List (Ak×D)
 | []=> []
 |(k,t)::ts=>(k,t.d)::Tn.ks ts
end
def Tn.of:D->Tn
 | .lst ds=> .lst (ds.map .sh)
 | .dic kvs=> .dic (kvs.map λp=>(p.1,.sh p.2))
 | .obj c ns vs=> .obj c ns (vs.map .sh)
 |d=> .sh d
theorem Tn.ds_sh:∀ds:List D,Tn.ds (ds.map .sh)=ds
 | []=>rfl
 |d::ds=>by
  show(Tn.sh d).d::Tn.ds (ds.map .sh)=_;rw[Tn.ds_sh ds];rfl
theorem Tn.ks_sh:∀kvs:List (Ak×D),Tn.ks (kvs.map λp=>(p.1,Tn.sh p.2))=kvs
 | []=>rfl
 |(k,d)::kvs=>by
  show(k,(Tn.sh d).d)::Tn.ks (kvs.map λp=>(p.1,Tn.sh p.2))=_;rw[Tn.ks_sh kvs];rfl
theorem Tn.ks_fst:∀zm:List (Ak×Tn),(Tn.ks zm).map (·.1)=zm.map (·.1)
 | []=>rfl
 |(k,t)::zm=>by show k::(Tn.ks zm).map (·.1)=_;rw[Tn.ks_fst zm];rfl
theorem Tn.ks_snd:∀zm:List (Ak×Tn),(Tn.ks zm).map (·.2)=Tn.ds (zm.map (·.2))
 | []=>rfl
 |(k,t)::zm=>by show t.d::(Tn.ks zm).map (·.2)=_;rw[Tn.ks_snd zm];rfl
def Tn.of_d(d:D):(Tn.of d).d=d:=by
 cases d with
 |lst ds=>show D.lst (Tn.ds (ds.map .sh))=_;rw[Tn.ds_sh]
 |dic kvs=>show D.dic (Tn.ks (kvs.map λp=>(p.1,.sh p.2)))=_;rw[Tn.ks_sh]
 |obj c ns vs=>show D.obj c ns (Tn.ds (vs.map .sh))=_;rw[Tn.ds_sh]
 |_=>rfl
inductive W where
 |sh (d:D)|ow (d:D)|tr (t:Tn)
def W.d:W->D
 | .sh d=>d
 | .ow d=>d
 | .tr t=>t.d
@[simp] theorem W.d_sh(d:D):(W.sh d).d=d:=rfl
@[simp] theorem W.d_ow(d:D):(W.ow d).d=d:=rfl
@[simp] theorem W.d_tr(t:Tn):(W.tr t).d=t.d:=rfl
def ClsAt(K:Frag)(c:Str)(C:Addr):Prop:=PySem.W.nsIn K mainGlobals c=some (some (.ref C))
def XO(a C:Addr)(dx:Option Addr):HO:=.ext λh=>∃us sl,h.get? a=some ⟨.ref C,dx,.fields us,sl⟩/\us[2]? =some .none
mutual
inductive Has(K:Frag)(G:Hp):V->D->Prop where
 |non:Has K G .non .non
 |bl (b:Bool):Has K G (.bl b) (.bl b)
 |int (i:Int):Has K G (.int i) (.int i)
 |str (x:Str):Has K G (.str x) (.str x)
 |lst {a:Addr} {vs:List V} {ds:List D} (h:SqL K G a vs) (r:HasL K G vs ds):Has K G (.ref a) (.lst ds)
 |tup {a:Addr} {vs:List V} {ds:List D} (h:SqT K G a vs) (r:HasL K G vs ds):Has K G (.ref a) (.tup ds)
 |exn0 {a C:Addr} {o:Obj} {c:Str} (hc:ClsAt K c C) (h:G a=some (.frz o (XO a C none))):Has K G (.ref a) (.exn c [] [])
 |exn1 {a C d:Addr} {o:Obj} {c:Str} {ns:List Str} {us:List V} {vs:List D} (hc:ClsAt K c C) (h:G a=some (.frz o (XO a C (some d)))) (hd:G d=some (.xd (ns.zip us))) (hl:ns.length=us.length) (r:HasL K G us vs):Has K G (.ref a) (.exn c ns vs)
 |dic {a:Addr} {kvs:List (Ak×V)} {kds:List (Ak×D)} (h:Rd G a (.dK kvs)) (hk:kvs.map (·.1)=kds.map (·.1)) (r:HasL K G (kvs.map (·.2)) (kds.map (·.2))):Has K G (.ref a) (.dic kds)
 |obj {a C dx:Addr} {c:Str} {ns:List Str} {us:List V} {vs:List D} (hc:ClsAt K c C) (h:G a=some (.ins C dx (ns.zip us))) (hl:ns.length=us.length) (r:HasL K G us vs):Has K G (.ref a) (.obj c ns vs)
inductive HasL(K:Frag)(G:Hp):List V->List D->Prop where
 |nil:HasL K G [] []
 |cons {v:V} {d:D} {vs:List V} {ds:List D} (h:Has K G v d) (r:HasL K G vs ds):HasL K G (v::vs) (d::ds)
end
abbrev AS:=Addr->Prop
mutual
inductive Ow(K:Frag)(G H:Hp):V->Tn->AS->Prop where
 |sh {v:V} {d:D} {S:AS} (h:Has K G v d):Ow K G H v (.sh d) S
 |lst {a:Addr} {vs:List V} {ts:List Tn} {S S1:AS} (h:H a=some (.lst vs)) (ha:S a) (sub:∀b,S1 b->S b/\b≠a) (r:OwL K G H vs ts S1):Ow K G H (.ref a) (.lst ts) S
 |tup {a:Addr} {vs:List V} {ts:List Tn} {S S1:AS} (h:H a=some (.tup vs)) (ha:S a) (sub:∀b,S1 b->S b/\b≠a) (r:OwL K G H vs ts S1):Ow K G H (.ref a) (.tup ts) S
 |dic {a:Addr} {kvs:List (Ak×V)} {zm:List (Ak×Tn)} {S S1:AS} (h:H a=some (.dK kvs)) (hk:kvs.map (·.1)=zm.map (·.1)) (ha:S a) (sub:∀b,S1 b->S b/\b≠a) (r:OwL K G H (kvs.map (·.2)) (zm.map (·.2)) S1):Ow K G H (.ref a) (.dic zm) S
 |obj {a C dx:Addr} {c:Str} {ns:List Str} {us:List V} {ts:List Tn} {S S1:AS} (hc:ClsAt K c C) (h:H a=some (.ins C dx (ns.zip us))) (hl:ns.length=us.length) (ha:S a) (sub:∀b,S1 b->S b/\b≠a) (r:OwL K G H us ts S1):Ow K G H (.ref a) (.obj c ns ts) S
inductive OwL(K:Frag)(G H:Hp):List V->List Tn->AS->Prop where
 |nil {S:AS}:OwL K G H [] [] S
 |cons {v:V} {t:Tn} {vs:List V} {ts:List Tn} {S S1 S2:AS} (h:Ow K G H v t S1) (r:OwL K G H vs ts S2) (dj:∀b,S1 b->S2 b->False) (s1:∀b,S1 b->S b) (s2:∀b,S2 b->S b):OwL K G H (v::vs) (t::ts) S
end
def Same.rdD{H H':Hp}{a:Addr}{u:HO}(e:Same H H')(h:Rd H a u):Rd H' a u:=by
 rcases h with h|⟨o,h⟩
 ·exact .inl (e _ _ h)
 ·exact .inr ⟨o,e _ _ h⟩
def Same.tupS{H H':Hp}{a:Addr}{xs:List V}(e:Same H H')(h:SqT K H a xs):SqT K H' a xs:=by
 rcases h with(h|⟨o,h⟩)|h
 ·exact .inl (.inl (e _ _ h))
 ·exact .inl (.inr ⟨o,e _ _ h⟩)
 ·exact .inr h
mutual
theorem Has.mono{G G':Hp}(e:Same G G'):∀{v:V} {d:D},Has K G v d->Has K G' v d
 |_,_,.non=> .non
 |_,_,.bl b=> .bl b
 |_,_,.int i=> .int i
 |_,_,.str x=> .str x
 |_,_,.lst h r=> .lst (e.seq h) (HasL.mono e r)
 |_,_,.tup h r=> .tup (Same.tupS e h) (HasL.mono e r)
 |_,_,.exn0 hc h=> .exn0 hc (e _ _ h)
 |_,_,.exn1 hc h hd hl r=> .exn1 hc (e _ _ h) (e _ _ hd) hl (HasL.mono e r)
 |_,_,.dic h hk r=> .dic (Same.rdD e h) hk (HasL.mono e r)
 |_,_,.obj hc h hl r=> .obj hc (e _ _ h) hl (HasL.mono e r)
theorem HasL.mono{G G':Hp}(e:Same G G'):∀{vs:List V} {ds:List D},HasL K G vs ds->HasL K G' vs ds
 |_,_,.nil=> .nil
 |_,_,.cons h r=> .cons (Has.mono e h) (HasL.mono e r)
end
theorem HasL.length{G:Hp}:∀{vs:List V} {ds:List D},HasL K G vs ds->vs.length=ds.length
 |_,_,.nil=>rfl
 |_,_,.cons _ r=>by rw[C6,C6,r.length]
theorem HasL.append{G:Hp}:∀{vs ws:List V} {ds es:List D},HasL K G vs ds->HasL K G ws es->HasL K G (vs ++ ws) (ds ++ es)
 |_,_,_,_,.nil,s=>s
 |_,_,_,_,.cons h r,s=> .cons h (r.append s)
theorem HasL.get{G:Hp}:∀{vs:List V} {ds:List D} {i:Nat} {d:D},HasL K G vs ds->ds[i]? =some d->∃v,vs[i]? =some v/\Has K G v d
 |_,_,_,_,.nil,e=>by simp at e
 |_,_,0,_,.cons h _,e=>by simp at e;subst e;exact⟨_,rfl,h⟩
 |_,_,i + 1,d,.cons _ r,e=>by
  obtain⟨u,h1,h2⟩:=HasL.get (i:=i) (d:=d) r (by simpa using e);exact⟨u,by simpa using h1,h2⟩
theorem HasL.take{G:Hp}:∀{vs:List V} {ds:List D} (n:Nat),HasL K G vs ds->HasL K G (vs.take n) (ds.take n)
 |_,_,0,_=> .nil
 |_,_,_ + 1,.nil=> .nil
 |_,_,n + 1,.cons h r=> .cons h (HasL.take n r)
theorem HasL.drop{G:Hp}:∀{vs:List V} {ds:List D} (n:Nat),HasL K G vs ds->HasL K G (vs.drop n) (ds.drop n)
 |_,_,0,r=>r
 |_,_,_ + 1,.nil=> .nil
 |_,_,n + 1,.cons _ r=>HasL.drop n r
theorem HasL.set{G:Hp}{v:V}{d:D}(h:Has K G v d):∀{vs:List V} {ds:List D} (i:Nat),HasL K G vs ds->HasL K G (vs.set i v) (ds.set i d)
 |_,_,_,.nil=> .nil
 |_,_,0,.cons _ r=> .cons h r
 |_,_,i + 1,.cons q r=> .cons q (HasL.set h i r)
mutual
theorem Ow.mono{G G' H H':Hp}(e:Same G G'):∀{v:V} {d:Tn} {S S':AS},Ow K G H v d S->(∀b o,S b->H b=some o->H' b=some o)->(∀b,S b->S' b)->Ow K G' H' v d S'
 |_,_,_,_,.sh h,_,_=> .sh (h.mono e)
 |_,_,_,_,.lst h ha sub r,f,i=> .lst (f _ _ ha h) (i _ ha) (λb hb=>⟨i b (sub b hb).1,(sub b hb).2⟩) (OwL.mono e r (λb o hb q=>f b o (sub b hb).1 q) λ_ q=>q)
 |_,_,_,_,.tup h ha sub r,f,i=> .tup (f _ _ ha h) (i _ ha) (λb hb=>⟨i b (sub b hb).1,(sub b hb).2⟩) (OwL.mono e r (λb o hb q=>f b o (sub b hb).1 q) λ_ q=>q)
 |_,_,_,_,.dic h hk ha sub r,f,i=> .dic (f _ _ ha h) hk (i _ ha) (λb hb=>⟨i b (sub b hb).1,(sub b hb).2⟩) (OwL.mono e r (λb o hb q=>f b o (sub b hb).1 q) λ_ q=>q)
 |_,_,_,_,.obj hc h hl ha sub r,f,i=> .obj hc (f _ _ ha h) hl (i _ ha) (λb hb=>⟨i b (sub b hb).1,(sub b hb).2⟩) (OwL.mono e r (λb o hb q=>f b o (sub b hb).1 q) λ_ q=>q)
theorem OwL.mono{G G' H H':Hp}(e:Same G G'):∀{vs:List V} {ds:List Tn} {S S':AS},OwL K G H vs ds S->(∀b o,S b->H b=some o->H' b=some o)->(∀b,S b->S' b)->OwL K G' H' vs ds S'
 |_,_,_,_,.nil,_,_=> .nil
 |_,_,_,_,.cons h r dj s1 s2,f,i=> .cons (Ow.mono e h (λb o hb q=>f b o (s1 b hb) q) λ_ q=>q) (OwL.mono e r (λb o hb q=>f b o (s2 b hb) q) λ_ q=>q) dj (λb q=>i b (s1 b q)) λb q=>i b (s2 b q)
end
mutual
theorem Ow.has{G G' H:Hp}(e:Same G G'):∀{v:V} {d:Tn} {S:AS},Ow K G H v d S->(∀b o,S b->H b=some o->G' b=some o)->Has K G' v d.d
 |_,_,_,.sh h,_=>h.mono e
 |_,_,_,.lst h ha sub r,f=> .lst (SqL.of (f _ _ ha h)) (OwL.has e r λb o hb q=>f b o (sub b hb).1 q)
 |_,_,_,.tup h ha sub r,f=> .tup (SqT.of (f _ _ ha h)) (OwL.has e r λb o hb q=>f b o (sub b hb).1 q)
 |_,_,_,.dic h hk ha sub r,f=> .dic (.inl (f _ _ ha h)) (by rw[Tn.ks_fst];exact hk) (by rw[Tn.ks_snd];exact OwL.has e r λb o hb q=>f b o (sub b hb).1 q)
 |_,_,_,.obj hc h hl ha sub r,f=> .obj hc (f _ _ ha h) hl (OwL.has e r λb o hb q=>f b o (sub b hb).1 q)
theorem OwL.has{G G' H:Hp}(e:Same G G'):∀{vs:List V} {ds:List Tn} {S:AS},OwL K G H vs ds S->(∀b o,S b->H b=some o->G' b=some o)->HasL K G' vs (Tn.ds ds)
 |_,_,_,.nil,_=> .nil
 |_,_,_,.cons h r dj s1 s2,f=> .cons (Ow.has e h λb o hb q=>f b o (s1 b hb) q) (OwL.has e r λb o hb q=>f b o (s2 b hb) q)
end
theorem OwL.of{G H:Hp}:∀{vs:List V} {ds:List D} {S:AS},HasL K G vs ds->OwL K G H vs (ds.map .sh) S
 |_,_,_,.nil=> .nil
 |_,_,_,.cons h r=> .cons (S1:=λ_=>False) (S2:=λ_=>False) (.sh h) (OwL.of r) (λ_ z _=>z) (λ_ z=>z.elim) λ_ z=>z.elim
theorem OwL.off{G H:Hp}:∀{vs:List V} {ds:List D} {S:AS},OwL K G H vs (ds.map .sh) S->HasL K G vs ds
 |_,[],_,h=>by cases h;exact .nil
 |_,d::ds,_,h=>by
  cases h with
  |cons h r dj s1 s2=>
   cases h with
   |sh h=>exact .cons h (OwL.off r)
theorem OwL.length{G H:Hp}:∀{vs:List V} {ds:List Tn} {S:AS},OwL K G H vs ds S->vs.length=ds.length
 |_,_,_,.nil=>rfl
 |_,_,_,.cons _ r _ _ _=>by rw[C6,C6,r.length]
def Ow.list{G H:Hp}{a:Addr}{vs:List V}{ds:List D}{S:AS}(h:H a=some (.lst vs))(ha:S a)(r:HasL K G vs ds):Ow K G H (.ref a) (Tn.of (.lst ds)) S:=
 .lst (S1:=λ_=>False) h ha (λ_ z=>z.elim) (.of r)
def Ow.list_of{G H:Hp}{v:V}{ds:List D}{S:AS}(t:Ow K G H v (Tn.of (.lst ds)) S):∃a vs,v=.ref a/\S a/\H a=some (.lst vs)/\HasL K G vs ds:=by
 cases t with
 |lst h ha sub r=>exact⟨_,_,rfl,ha,h,r.off⟩
def ci_8(kds:List (Ak×D)):(kds.map λp=>(p.1,Tn.sh p.2)).map (·.2)=(kds.map (·.2)).map Tn.sh:=by
 rw[J6,J6];rfl
def bw_7(kds:List (Ak×D)):(kds.map λp=>(p.1,Tn.sh p.2)).map (·.1)=kds.map (·.1):=by
 rw[J6];rfl
def Ow.dict{G H:Hp}{a:Addr}{kvs:List (Ak×V)}{kds:List (Ak×D)}{S:AS}(h:H a=some (.dK kvs))(hk:kvs.map (·.1)=kds.map (·.1))(ha:S a)(r:HasL K G (kvs.map (·.2)) (kds.map (·.2))):Ow K G H (.ref a) (Tn.of (.dic kds)) S:=
 .dic (S1:=λ_=>False) h (by rw[bw_7];exact hk) ha (λ_ z=>z.elim) (by rw[ci_8];exact .of r)
def Ow.dict_of{G H:Hp}{v:V}{kds:List (Ak×D)}{S:AS}(t:Ow K G H v (Tn.of (.dic kds)) S):∃a kvs,v=.ref a/\S a/\H a=some (.dK kvs)/\kvs.map (·.1)=kds.map (·.1)/\HasL K G (kvs.map (·.2)) (kds.map (·.2)):=by
 generalize e:Tn.of (.dic kds)=t' at t;cases t with
 |dic h hk ha sub r=>
  injection e with e
  subst e;rw[ci_8]at r;rw[bw_7]at hk;exact⟨_,_,rfl,ha,h,hk,r.off⟩
 |_=>cases e
structure Step(G H G' H':Hp):Prop where
 hh:Same H H'
 gh:Same G' H'
 gg:Same G G'
 nw:∀b,G b=none->H b≠none->G' b=none
theorem Step.refl{G H:Hp}(h:Same G H):Step G H G H:=⟨Same.refl _,h,Same.refl _,λ_ e _=>e⟩
theorem Step.trans{G H G1 H1 G2 H2:Hp}(a:Step G H G1 H1)(b:Step G1 H1 G2 H2):Step G H G2 H2:=
 ⟨a.hh.trans b.hh,b.gh,a.gg.trans b.gg,λc e n=>b.nw c (a.nw c e n) λz=>n (a.hh.free z)⟩
def g_8{p:Addr}(h:H p=none)(o:HO):Same H (upd H p o):=λb u q=>by rw[Aq (Co q h)];exact q
def ci_9{G H:Hp}(h:Same G H)(p:Addr)(o:HO):Same (upd G p o) (upd H p o):=λb u q=>by
 by_cases e:b=p
 ·subst e;rw[Bp]at q⊢;exact q
 ·rw[Aq e]at q⊢;exact h b u q
def Step.new{G H:Hp}(h:Same G H){p:Addr}(e:H p=none)(o:HO):Step G H (L2.upd G p o) (L2.upd H p o):=
 ⟨g_8 e o,ci_9 h p o,g_8 (h.free e) o,λb n z=>by
  by_cases q:b=p
  ·subst q;exact absurd e z
  ·rw[Aq q];exact n⟩
def Step.own{G H:Hp}(h:Same G H){p:Addr}(e:H p=none)(o:HO):Step G H G (L2.upd H p o):=
 ⟨g_8 e o,h.trans (g_8 e o),Same.refl _,λ_ n _=>n⟩
open Classical in
def Cu(G H:Hp)(S:AS):Hp:=λb=>if S b then H b else G b
def WP(K:Frag)(G H:Hp)(w:W)(Q:VK):Prop:=match w with
 | .sh d=>∀v G' H',Step G H G' H'->Has K G' v d->Q v H'
 | .ow d=>∀v S G' H',Step G H G' H'->(∀a,S a->H a=none/\G' a=none/\H' a≠none)->Ow K G' H' v (Tn.of d) S->Q v H'
 | .tr t=>∀v S G' H',Step G H G' H'->(∀a,S a->H a=none/\G' a=none/\H' a≠none)->Ow K G' H' v t S->Q v H'
structure EXT where
 p:Xn->Hp->Hp->Prop
 mono:∀x G H G' H',Step G H G' H'->p x G H->p x G' H'
def EX0:EXT:=⟨λ_ _ _=>False,λ_ _ _ _ _ _ h=>h⟩
abbrev Az:=Sg->EXT
def Ds:Az:=λ_=>EX0
def Out(K:Frag)(EX:EXT)(G H:Hp)(r:R W)(Q:VK):Prop:=match r with
 | .ok w=>WP K G H w Q
 | .ex x=>EX.p x G H
 | .no=>False
section
variable{K:Frag}{EX:EXT}{G H G' H':Hp}{Q Q':VK}{w:W}
def WP.mono(s:Step G H G' H')(h:WP K G H w Q):WP K G' H' w Q:=by
 cases w with
 |sh d=>exact λv G2 H2 s2 r=>h v G2 H2 (s.trans s2) r
 |ow d=>exact λv S G2 H2 s2 fr t=>h v S G2 H2 (s.trans s2) (λa ha=>⟨s.hh.free (fr a ha).1,(fr a ha).2⟩) t
 |tr d=>exact λv S G2 H2 s2 fr t=>h v S G2 H2 (s.trans s2) (λa ha=>⟨s.hh.free (fr a ha).1,(fr a ha).2⟩) t
theorem Out.mono{r:R W}(s:Step G H G' H')(h:Out K EX G H r Q):Out K EX G' H' r Q:=by
 cases r with
 |ok w=>exact WP.mono s h
 |ex x=>exact EX.mono _ _ _ _ _ s h
 |no=>exact h
def WP.join{v:V}{t:Tn}{S:AS}(h:∀v G' H',Step G H G' H'->Has K G' v t.d->Q v H')(s:Step G H G' H')(fr:∀a,S a->H a=none/\G' a=none/\H' a≠none)(t:Ow K G' H' v t S):Q v H':=by
 have sg:Same G' (Cu G' H' S):=λb o q=>by
  unfold Cu
  split
  ·rename_i hb;rw[(fr b hb).2.1]at q;cases q
  ·exact q
 refine h v (Cu G' H' S) H' ⟨s.hh,λb o q=> ?_,s.gg.trans sg,λb n z=> ?_⟩ (t.has sg λb o hb q=> ?_)
 ·unfold Cu at q
  split at q
  ·exact q
  ·exact s.gh b o q
 ·unfold Cu
  split
  ·rename_i hb;exact absurd (fr b hb).1 z
  ·exact s.nw b n z
 ·unfold Cu;rw[if_pos hb];exact q
def WP.intro(h:∀v G' H',Step G H G' H'->Has K G' v w.d->Q v H'):WP K G H w Q:=by
 cases w with
 |sh d=>exact h
 |ow d=>exact λv S G' H' s fr t=>WP.join (t:=Tn.of d) (by rw[Tn.of_d];exact h) s fr t
 |tr d=>exact λv S G' H' s fr t=>WP.join h s fr t
theorem WP.sh(h:WP K G H (.sh w.d) Q):WP K G H w Q:=WP.intro h
def WP.use{d:D}{v:V}(h:WP K G H (.sh d) Q)(s:Same G H)(r:Has K G v d):Q v H:=h v G H (Step.refl s) r
end
inductive ExcAt(K:Frag)(G:Hp):Value->Option Addr->Xn->Prop where
 |bare {C:Addr} {c:Str} (hc:ClsAt K c C):ExcAt K G (.ref C) none ⟨c,[],[]⟩
 |with_ {C d:Addr} {c:Str} {ns:List Str} {us:List V} {vs:List D} (hc:ClsAt K c C) (hd:G d=some (.xd (ns.zip us))) (hl:ns.length=us.length) (r:HasL K G us vs):ExcAt K G (.ref C) (some d) ⟨c,ns,vs⟩
def EXof(K:Frag)(E:XK):EXT:=⟨λx G H=>∀cls dx G' H',Step G H G' H'->ExcAt K G' cls dx x->E cls dx H',λ_ _ _ _ _ s h cls dx G2 H2 s2=>h cls dx G2 H2 (s.trans s2)⟩
def EXE(K:Frag)(EX:EXT):XK:=λcls dx H=>∃x G,Same G H/\ExcAt K G cls dx x/\EX.p x G H
def EXE.of{E:XK}{cls:Value}{dx:Option Addr}(h:EXE K (EXof K E) cls dx H):E cls dx H:=by
 obtain⟨x,G,s,e,q⟩:=h;exact q cls dx G H (Step.refl s) e
def EXof.in{EX:EXT}{G H:Hp}{x:Xn}(q:EX.p x G H):(EXof K (EXE K EX)).p x G H:=λ_ _ G' H' st e=>⟨x,G',st.gh,e,EX.mono _ _ _ _ _ st q⟩
abbrev DE:=List (Option D)
abbrev FE:=DE->R W
abbrev FT:=DE->R Bool
abbrev FA:=DE->R (List D)
structure HasS(K:Frag)(G:Hp)(σ:Sg)(δ:DE):Prop where
 len:σ.length=δ.length
 get:∀(i:Nat) (d:D),δ[i]? =some (some d)->∃v,σ[i]? =some (some v)/\Has K G v d
theorem HasS.mono{G G':Hp}{σ:Sg}{δ:DE}(e:Same G G')(h:HasS K G σ δ):HasS K G' σ δ:=⟨h.len,λi d q=>by
 obtain⟨v,e1,r⟩:=h.get i d q;exact⟨v,e1,r.mono e⟩⟩
def tD(K:Frag)(EX:Az)(f:FE):TE:=λ σ H Q=>∃G δ,Same G H/\HasS K G σ δ/\Out K (EX σ) G H (f δ) Q
def tDt(K:Frag)(EX:Az)(f:FT):TT:=λ σ H Q=>∃G δ,Same G H/\HasS K G σ δ/\match f δ with
 | .ok b=>∀G' H',Step G H G' H'->Q b H'
 | .ex x=>(EX σ).p x G H
 | .no=>False
def tDa(K:Frag)(EX:Az)(f:FA):TA:=λ σ H Q=>∃G δ,Same G H/\HasS K G σ δ/\match f δ with
 | .ok ds=>∀vs G' H',Step G H G' H'->HasL K G' vs ds->Q vs H'
 | .ex x=>(EX σ).p x G H
 | .no=>False
abbrev ED(X:Cx)(EX:Az)(e:Expr)(f:FE):Prop:=PE X e (tD X.K EX f)
abbrev TD(X:Cx)(EX:Az)(e:Expr)(f:FT):Prop:=PT X e (tDt X.K EX f)
abbrev AD(X:Cx)(EX:Az)(es:List Expr)(f:FA):Prop:=PA X es (tDa X.K EX f)
def PE.imp{e:Expr}{t t':TE}(h:PE X e t)(i:∀σ H Q,t' σ H Q->t σ H Q):PE X e t':=λzd s σ H Q I q=>h zd s σ H Q I (i σ H Q q)
def PT.imp{e:Expr}{t t':TT}(h:PT X e t)(i:∀σ H Q,t' σ H Q->t σ H Q):PT X e t':=λzd s σ H Q I q=>h zd s σ H Q I (i σ H Q q)
def PW.imp{e:Expr}{t t':TT}(h:PW X e t)(i:∀σ H Q,t' σ H Q->t σ H Q):PW X e t':=λwh zd s σ H Q I q=>h wh zd s σ H Q I (i σ H Q q)
def PA.imp{e:List Expr}{t t':TA}(h:PA X e t)(i:∀σ H Q,t' σ H Q->t σ H Q):PA X e t':=λpos zd s σ H Q I q=>h pos zd s σ H Q I (i σ H Q q)
def PS.imp{e:Stmt}{t t':TS}(h:PS X e t)(i:∀D σ H,t' D σ H->t D σ H):PS X e t':=λzd s σ H D I q=>h zd s σ H D I (i D σ H q)
def PSs.imp{e:List Stmt}{t t':TS}(h:PSs X e t)(i:∀D σ H,t' D σ H->t D σ H):PSs X e t':=λzd s σ H D I q=>h zd s σ H D I (i D σ H q)
section
variable{K:Frag}{EX:Az}{G H:Hp}{σ:Sg}{δ:DE}{Q:VK}
def tD.seq{f:FE}{k:W->R W}{P:VK}(g:Same G H)(s:HasS K G σ δ)(h:Out K (EX σ) G H ((f δ).bind k) Q)
  (i:∀w v G' H',f δ=.ok w->Step G H G' H'->Has K G' v w.d->Out K (EX σ) G' H' (k w) Q->P v H'):tD K EX f σ H P:=by
 refine⟨G,δ,g,s, ?_⟩;cases e:f δ with
 |ok w=>
  rw[e]at h;exact WP.intro λv G' H' st r=>i w v G' H' e st r (Out.mono st h)
 |ex x=>rw[e]at h;exact h
 |no=>rw[e]at h;exact h
abbrev AF:=List D->R W
def tDa.seq{f:FA}{k:AF}{P:List V->Hp->Prop}(g:Same G H)(s:HasS K G σ δ)(h:Out K (EX σ) G H ((f δ).bind k) Q)
  (i:∀ds vs G' H',f δ=.ok ds->Step G H G' H'->HasL K G' vs ds->Out K (EX σ) G' H' (k ds) Q->P vs H'):tDa K EX f σ H P:=by
 refine⟨G,δ,g,s, ?_⟩;cases e:f δ with
 |ok w=>
  rw[e]at h;exact λvs G' H' st r=>i w vs G' H' e st r (Out.mono st h)
 |ex x=>rw[e]at h;exact h
 |no=>rw[e]at h;exact h
end
def q_3{EX:EXT}{G H:Hp}{Q:VK}{ds:List D}{vs:List V}(o:Out K EX G H (.ok (.ow (.lst ds))) Q)(g:Same G H)(r:HasL K G vs ds):∀p,H p=none->Q (.ref p) (upd H p (.lst vs)):=
 λp hp=>o (.ref p) (λb=>b=p) G _ (Step.own g hp _) (λa e=>by subst e;exact⟨hp,g.free hp,by rw[Bp];simp⟩) (.list Bp rfl r)
end L3
namespace L3
open PySem PySem.Spec PyProof.Rows L2
variable{K:Frag}{fd:FuncData}{mg:AB}{us:List Value}{base:Heap}{H:Hp}{X:Cx}{pos:Pos}
section
variable{prog:Program}{w:World}{A:Around}{E:AA}{s:Shared}
end
structure Tr(h:Heap)(a C:Addr)(dx:Option Addr)(fl:Value)(T:Addr):Prop where
 ob:∃o us,h.get? a=some o/\o.cls=.ref C/\o.dict=dx/\o.data=.fields us/\us[1]? =some (.ref T)/\us[2]? =some .none
 ne:T≠a
 tb:∃o us,h.get? T=some o/\o.data=.fields us/\us[3]? =some fl
structure KeepX(xs fr:List Addr)(h h':Heap):Prop where
 same:∀b o,b∉xs->b∉fr->h.get? b=some o->h'.get? b=some o
 slot:∀b o,b∉xs->h.get? b=some o->∃sl,h'.get? b=some {o with slots:=sl}
def KeepX.trans{xs ys fr:List Addr}{h1 h2 h3:Heap}(a:KeepX xs fr h1 h2)(b:KeepX ys fr h2 h3):KeepX (xs ++ ys) fr h1 h3:=
 ⟨λc o n m e=>b.same c o (λz=>n (A9 _ z)) m (a.same c o (λz=>n (M5 _ z)) m e),λc o n e=>by
  obtain⟨sl,e1⟩:=a.slot c o (λz=>n (M5 _ z)) e;obtain⟨sl',e2⟩:=b.slot c _ (λz=>n (A9 _ z)) e1;exact⟨sl',e2⟩⟩
def KeepX.of_same{xs fr:List Addr}{h h':Heap}(k:∀b o,b∉xs->h.get? b=some o->h'.get? b=some o):KeepX xs fr h h':=
 ⟨λb o n _ e=>k b o n e,λb o n e=>⟨o.slots,k b o n e⟩⟩
def cj_0(o:Obj)(f:Array Value->Array Value):(o.mapFields f).dict=o.dict:=by
 obtain⟨c,d,dt,sl⟩:=o;cases dt <;> rfl
section
variable{M:Model}{A:Around}{E:AA}{s:Shared}{env:Env}{outer:List Env}{base:Heap}{L a C:Addr}{dx:Option Addr}{Q:Unit->Shared->Prop}
def bw_8{o:Obj}{us:Array Value}{head:Value}{b:Bool}(hfr:A.frames=some (env::outer))(hl:s.heap.FunFrames base (env::outer))(hf:env.frame=some L)
  (he:s.heap.get? a=some o) (hc:o.cls=.ref C) (hx:o.dict=dx) (hd:o.data=.fields us) (hz:1 < us.size) (c2:us[2]? =some .none)
  (h:∀h' T,s.heap.objs.size<=T->KeepX [a] (frs (env::outer)) s.heap h'->Tr h' a C dx (rawInt L) T->Q .unit {s with heap:=h'}):
  wpAny M A (do let fv<-frameOf env;let pl<-entryPlaceOf L b;let en<-EntryCells.newEntry head fv .none (rawInt L) .none pl;setField (.ref a) 1 en) Q E s:=by
 have nfr:a∉frs (env::outer):=λhm=>by
  obtain⟨_,u,hu,hn⟩:=hl.mem hm;rw[he]at hu;cases hu;exact hn us hd
 refine A4 (wpAny_frameOf_fun hfr hl hf λh1 so=> ?_);refine A4 (wpAny_entryPlaceOf λpl hpl=> ?_);unfold EntryCells.newEntry newFields;refine A4 (S5 ?_ (hpl.sizeOk5 _ _ _ _ _));have e1:h1.get? a=some o:=(so.2.1 a nfr).trans he;generalize hT:({cls:=.type "traceback",dict:=none,data:=.fields ([head,.ref L,.none,rawInt L,.none] ++ (if pl.isEmpty then List.replicate 6 Value.none else pl)).toArray}:Obj)=oT;have eT:oT.data=.fields ([head,.ref L,.none,rawInt L,.none] ++ (if pl.isEmpty then List.replicate 6 Value.none else pl)).toArray:=by rw[<-hT]
 have e2:(h1.push oT).get? a=some o:=A5 oT e1;refine ZD3 e2 hd hz ?_;have sz:h1.objs.size=s.heap.objs.size:=so.1;have ltA:a < s.heap.objs.size:=A6 he;have neT:h1.objs.size≠a:=λz=>absurd ltA (by rw[<-z,sz];exact E9 _);have d3:=Y4 hd (·.setIfInBounds 1 (Value.ref h1.objs.size));refine h _ h1.objs.size (by rw[sz];exact A8 _) ⟨λb u n m e=> ?_,λb u n e=> ?_⟩ ⟨⟨_,_,N7 _ e2 (V6 d3),(Obj.cls_mapFields _ _).trans hc,(cj_0 _ _).trans hx,d3, ?_, ?_⟩,neT,⟨oT,_, ?_,eT, ?_⟩⟩
 ·have nb:a≠b:=λz=>n (by simp[z]);rw[F3 _ _ nb];exact A5 oT ((so.2.1 b m).trans e)
 ·have nb:a≠b:=λz=>n (by simp[z]);obtain⟨sl,es⟩:=so.2.2 b u e;exact⟨sl,by rw[F3 _ _ nb];exact A5 oT es⟩
 ·simp[hz]
 ·rw[<-c2];simp
 ·rw[F3 _ _ (Ne.symm neT)];exact B8 h1 (V6 eT)
 ·first|(simp;done)|(rcases hpl with rfl|⟨_,_,_,_,_,_,_,rfl⟩ <;> simp)
def br_8{o:Obj}{us:Array Value}(hfr:A.frames=some (env::outer))(hl:s.heap.FunFrames base (env::outer))(hf:env.frame=some L)
  (he:s.heap.get? a=some o) (hc:o.cls=.ref C) (hx:o.dict=dx) (hd:o.data=.fields us) (h1:us[1]? =some .none) (c2:us[2]? =some .none)
  (h:∀h' T,s.heap.objs.size<=T->KeepX [a] (frs (env::outer)) s.heap h'->Tr h' a C dx (rawInt L) T->Q .unit {s with heap:=h'}):wpAny M A (noteFrame (.ref a) env) Q E s:=by
 unfold noteFrame;simp only[hf];refine A4 (U2 he hd h1 ?_);rw[if_neg ⋯];exact bw_8 hfr hl hf he hc hx hd (O8.mp h1).1 c2 h
def ay_5{T0:Addr}(hfr:A.frames=some (env::outer))(hl:s.heap.FunFrames base (env::outer))(hf:env.frame=some L)(t:Tr s.heap a C dx .none T0)
  (h:∀h' T,s.heap.objs.size<=T->KeepX [a,T0] (frs (env::outer)) s.heap h'->Tr h' a C dx (rawInt L) T->Q .unit {s with heap:=h'}):wpAny M A (noteFrame (.ref a) env) Q E s:=by
 obtain⟨⟨o,us,he,hc,hx,hd,h1,c2⟩,ne,⟨oT,ws,hT,hdT,h3⟩⟩:=t;unfold noteFrame;simp only[hf];refine A4 (U2 he hd h1 ?_);rw[if_pos (show(Value.ref T0 != Value.none)=true from by simp)];refine A4 (U2 hT hdT h3 ?_);rw[if_neg (show¬((Value.none ==rawInt L)=true) from by simp[rawInt])];refine A4 (ZD3 hT hdT (O8.mp h3).1 ?_);have oth:∀b,b≠T0->(s.heap.update T0 (Obj.mapFields (·.setIfInBounds 3 Value.none))).get? b=s.heap.get? b:=λb hb=>F3 _ _ (Ne.symm hb);have jj:∀b u,s.heap.get? b=some u->(∀zs,u.data≠ .fields zs)->b≠T0:=λb u hb hn q=>by
  subst q;rw[hT]at hb;cases hb;exact hn ws hdT
 refine bw_8 (s:={s with heap:=s.heap.update T0 (Obj.mapFields (·.setIfInBounds 3 Value.none))}) hfr (hl.of_keeps λb u hb hn=>⟨u,(oth b (jj b u hb hn)).trans hb,rfl⟩) hf ((oth a (Ne.symm ne)).trans he) hc hx hd (O8.mp h1).1 c2 λh' T n k tr=>h h' T ?_ ?_ tr
 ·have zz:(s.heap.update T0 (Obj.mapFields (·.setIfInBounds 3 Value.none))).objs.size=s.heap.objs.size:=Heap.size_update _ _ _;rw[<-zz];exact n
 ·have na:∀b,b∉ [a,T0]->b∉ [a]:=λb nb z=>nb (by rw[K7.mp z];exact K2);have nT:∀b,b∉ [a,T0]->b≠T0:=λb nb z=>nb (by rw[z];simp);exact⟨λb u nb m e=>k.same b u (na b nb) m ((oth b (nT b nb)).trans e),λb u nb e=>k.slot b u (na b nb) ((oth b (nT b nb)).trans e)⟩
def s_2{T:Addr}{fl:Value}(t:Tr s.heap a C dx fl T)(h:∀h',(∀b o,b∉ [T]->s.heap.get? b=some o->h'.get? b=some o)->Tr h' a C dx .none T->Q .unit {s with heap:=h'}):wpAny M A (setFlight (.ref a) none) Q E s:=by
 obtain⟨⟨o,us,he,hc,hx,hd,h1,c2⟩,ne,⟨oT,ws,hT,hdT,h3⟩⟩:=t;have sz3:3 < ws.size:=(O8.mp h3).1;unfold setFlight;refine A4 (U2 he hd h1 ?_);rw[if_pos (show(Value.ref T != Value.none)=true from by simp)];refine ZD3 hT hdT sz3 (h _ (λb u n e=> ?_) ⟨⟨o,us, ?_,hc,hx,hd,h1,c2⟩,ne,⟨_,_,N7 _ hT (V6 (Y4 hdT _)),Y4 hdT _, ?_⟩⟩)
 ·rw[F3 _ _ (λz=>n (by simp[z]))];exact e
 ·rw[F3 _ _ ne];exact he
 ·simp[sz3]
end
def CXr(P:Program)(w:World):CXT:=λouter H s E e s'=>∃a C dx T H',e=.ref a/\s'.os=s.os/\AllBare s'.gens/\Un (frs outer) [] H H' s.heap s'.heap/\HOk P w H' s'.heap/\
 Tr s'.heap a C dx .none T/\H' a=none/\H' T=none/\s.heap.objs.size<=a/\s.heap.objs.size<=T/\E (.ref C) dx H'
section
variable{X:Cx}{zd:AE}{σ:Sg}{H H':Hp}{s s':Shared}
def Inv.settle{ch:List Addr}{h2:Heap}(I:Inv X zd σ H s)(I':Inv X zd σ H' s')(n:∀b∈ch,s.heap.objs.size<=b/\H' b=none)(k:KeepX ch (frs X.stack) s'.heap h2):Inv X zd σ H' {s' with heap:=h2}:=by
 have trk:∀b u,H' b=some u->b∉ch/\b∉frs X.stack:=λb u e=>⟨λz=>(by rw[(n b z).2]at e;cases e),λz=>(by rw[I'.stkFree b z]at e;cases e)⟩;refine I'.step (g':=s'.gens) (d':=s'.drawn) (t':=s'.toks) (ch:=ch) (λb hb=> ?_) (λb o h1 h2 h3 e _=>k.same b o h3 (λz=> ?_) e) (λb o _ _ h3 e _=>k.slot b o h3 e) (λ_ _ _ _ z=>z) (λb o h3 e=> ?_) (λ_ _ z=>z) (λ_ _ _ z=>z) (λb ps z=>⟨#[],by rw[z];simp⟩) (λm hm=> ?_) (λb u e=> ?_) I'.bare
 ·have lb:=(n b hb).1;refine⟨.inr (C7 I.sz lb),λz=> ?_,λx c e z=> ?_,λp hp z=> ?_⟩
  ·exact absurd (B9 I.lt lb) (by rw[z];exact E9 _)
  ·obtain⟨v,hv⟩:=I.cell x c e;exact absurd (B9 hv.lt lb) (by rw[z];exact E9 _)
  ·exact absurd (B9 (A6 (I.pin p hp).1) lb) (by rw[z];exact E9 _)
 ·rcases C4.mp (I'.stkSub b z) with z|z
  ·exact h1 z
  ·exact h2 z
 ·obtain⟨sl,q⟩:=k.slot b o h3 e;exact⟨_,q⟩
 ·obtain⟨o,es,ep,ho,r⟩:=hm;have nl:X.env.locals∉ch:=λz=>absurd (B9 I.lt (n _ z).1) (E9 _);obtain⟨sl,q⟩:=k.slot _ o nl ho;exact⟨_,es,ep,q,r⟩
 ·refine(I'.hok b u e).stay (λc v hc q=> ?_) (λ_ z=>z) λ_ _ z=>z;rcases hc with rfl|hc
  ·exact k.same c v (trk c u e).1 (trk c u e).2 q
  ·exact k.same c v (trk c _ hc).1 (trk c _ hc).2 q
def Inv.raised{E:XK}{e:Value}(I:Inv X zd σ H s)(c:CXr X.prog X.w X.stack H s E e s'):∃a C dx T H',e=.ref a/\Inv X zd σ H' s'/\Tr s'.heap a C dx .none T/\H' a=none/\H' T=none/\s.heap.objs.size<=a/\s.heap.objs.size<=T/\E (.ref C) dx H':=by
 obtain⟨a,C,dx,T,H',e1,os,br,un,hok,tr,n1,n2,z1,z2,q⟩:=c;exact⟨a,C,dx,T,H',e1,I.call' (ch:=[]) os un hok br (λb z=>absurd z (by simp)),tr,n1,n2,z1,z2,q⟩
end
section
variable{cm:Bool}{P:Program}{w:World}{K:Frag}{mg:AB}{base:Heap}{N:List Str}{qual:Str}{scope:Scope}{f:Addr}{cd:Value}{A:Around}{outer:List Env}{s0:Shared}{H0:Hp}{E E':XK}
def cc_8{zd:AE}{σ:Sg}{s s':Shared}{e:Value}(I:Inv ({En (CXr P w) P w K mg base N qual scope f cd A outer s0 H0 E with calm:=cm}:Cx) zd σ H s)
  (c:CXr P w ({En (CXr P w) P w K mg base N qual scope f cd A outer s0 H0 E with calm:=cm}:Cx).stack H s E' e s') (i:∀cls dx H',E' cls dx H'->E cls dx H'):({En (CXr P w) P w K mg base N qual scope f cd A outer s0 H0 E with calm:=cm}:Cx).xe e s':=by
 obtain⟨a,C,dx,T,H',rfl,I',tr,n1,n2,z1,z2,q⟩:=Inv.raised I c;show wpAny (model P w) _ (leaving _ _) _ _ s';unfold leaving;refine A4 (ay_5 I'.ok.frames I'.stack rfl tr λh1 T2 z3 k1 t1=> ?_);refine s_2 t1 λh2 k2 t2=> ?_;have zT2:H' T2=none:=I'.hok.fresh z3;have J:Inv ({En (CXr P w) P w K mg base N qual scope f cd A outer s0 H0 E with calm:=cm}:Cx) zd σ H' {s' with heap:=h2}:=by
  refine Inv.settle (ch:=[a,T] ++ [T2]) I I' (λb hb=> ?_) (k1.trans (KeepX.of_same k2));have:b=a\/b=T\/b=T2:=by simpa using hb
  rcases this with rfl|rfl|rfl
  ·exact⟨z1,n1⟩
  ·exact⟨z2,n2⟩
  ·exact⟨C7 (C7 (A8 _) z1) (C7 (R5 (A6 tr.ob.choose_spec.choose_spec.1)) z3),zT2⟩
 exact⟨a,C,dx,T2,H',rfl,J.os,J.bare,J.base,J.hok,t2,n1,zT2,C7 I.sz z1,C7 I'.sz z3,i _ _ _ q⟩
def bd_6{zd:AE}{σ:Sg}{H H':Hp}{s s':Shared}{a C:Addr}{dx:Option Addr}{o:Obj}{us:Array Value}(I:Inv ({En (CXr P w) P w K mg base N qual scope f cd A outer s0 H0 E with calm:=cm}:Cx) zd σ H s)
  (I':Inv ({En (CXr P w) P w K mg base N qual scope f cd A outer s0 H0 E with calm:=cm}:Cx) zd σ H' s') (he:s'.heap.get? a=some o) (hc:o.cls=.ref C) (hx:o.dict=dx) (hd:o.data=.fields us) (h1:us[1]? =some .none) (c2:us[2]? =some .none) (n1:H' a=none) (z1:s.heap.objs.size<=a) (q:E (.ref C) dx H'):
  ({En (CXr P w) P w K mg base N qual scope f cd A outer s0 H0 E with calm:=cm}:Cx).xe (.ref a) s':=by
 show wpAny (model P w) _ (leaving _ _) _ _ s';unfold leaving;refine A4 (br_8 I'.ok.frames I'.stack rfl he hc hx hd h1 c2 λh1 T2 z3 k1 t1=> ?_);refine s_2 t1 λh2 k2 t2=> ?_;have zT2:H' T2=none:=I'.hok.fresh z3;have J:Inv ({En (CXr P w) P w K mg base N qual scope f cd A outer s0 H0 E with calm:=cm}:Cx) zd σ H' {s' with heap:=h2}:=by
  refine Inv.settle (ch:=[a] ++ [T2]) I I' (λb hb=> ?_) (k1.trans (KeepX.of_same k2));have:b=a\/b=T2:=by simpa using hb
  rcases this with rfl|rfl
  ·exact⟨z1,n1⟩
  ·exact⟨C7 z1 (C7 (R5 (A6 he)) z3),zT2⟩
 exact⟨a,C,dx,T2,H',rfl,J.os,J.bare,J.base,J.hok,t2,n1,zT2,C7 I.sz z1,C7 I'.sz z3,q⟩
end
section
variable{prog:Program}{w:World}{A:Around}{E:AA}{h:Heap}{g:Array GenState}{d:Drawn}{t:Nat}{os:OsState}
variable{nm q:Str}{C N:Addr}{bs bm bmB:List Value}{bt:Bool}{sn:List Str}{sub:List Value}{ab:Bool}{col:Option Bool}{dd:Option Addr}{k0 k1 k2 k3 k5:Option Value}{B newId ai:String}
def cc_9(FB:ExcBaseFacts B newId ai bmB)(T:OwnTail h bmB bm){mN:AB}{fI:Addr}{oI:Obj}{Q:PySem.Fin->Shared->Prop}
  (hC:h.get? C=some (excClassObj nm q C N bs bm bt sn sub ab col dd k0 k1 k2 k3 k5 newId)) (hn:h.Ns N mN) (hi:mN "__init__" =some (.ref fI)) (ho:h.get? fI=some oI) (hf:oI.cls=.type "function")
  (z:∀h' e,Heap.MadeExcOf h h' e (.ref C) us->h.objs.size<=e->wpAny (model prog w) A (call (.ref fI) (.ref e::us)) (λr s'=>r=.none/\Q (.done (.ret (.ref e))) s') E ⟨h',g,d,t,os⟩) (hu:us.length<=sizeLine):
  wpAny (model prog w) A (Builtin.«type.__call__» ⟨.ref C::us,[]⟩) Q E ⟨h,g,d,t,os⟩:=by
 wp_walk using N0 hC,wpAny_madeBy_exc hC
 refine Z0 (T8 _ FB.quiet) (wpAny_check_new_subT FB T hC ?_);refine codeAny_exc_new_subT FB T hC ?_ hu;show wpAny _ _ _ _ _ _;generalize e1:({cls:=.type "tuple",data:=.seq us.toArray}:Obj)=o1;generalize e2:({cls:=.ref C,data:=.fields #[.ref h.objs.size,.none,.none,.none,.bool false,.none]}:Obj)=o2;have up:∀b o,h.get? b=some o->((h.push o1).push o2).get? b=some o:=λb o e=>A5 _ (A5 _ e);have ge:((h.push o1).push o2).get? (h.objs.size + 1)=some o2:=by
  have:=B8 (h.push o1) (o:=o2) (by rw[<-e2];rfl)
  rwa[K9]at this
 have gt:((h.push o1).push o2).get? h.objs.size=some o1:=A5 _ (B8 h (by rw[<-e1];rfl));have hC1:=up _ _ hC;have hn1:((h.push o1).push o2).Ns N mN:=hn.keeps up;have cl:o2.cls=.ref C:=by rw[<-e2]
 have hcC:List.contains (Value.ref C::bm) (.ref C)=true:=S4.mpr (.head _);unfold isInstance
 repeat (first|(with_reducible refine N0 ge ?_;rw[cl])|(with_reducible refine X7 hC1 ?_;rw[hcC])|wp_step)
 change wpAny _ _ (mroOf (.ref C) >>=λl=>lookupAlong l _) _ _ _;refine A4 (wpAny_mroOf_exc hC1 ?_);rw[lookupAlong_cons];refine A4 (wpAny_classOwn_exc hC1 hn1 ?_);rw[hi];refine C5 (M7 (A4 ?_));unfold bindSpecial;refine A4 (wpAny_typeOf (T:= "function") ⟨_,up _ _ ho,hf⟩ ?_);rw[if_pos ⋯];refine C5 (A4 (D1 (z _ (h.objs.size + 1) ⟨up,P7 (N5 _),h.objs.size,by rw[e2];exact ge,P7 (A8 _),by rw[e1];exact gt⟩ (N5 _)) (λr s' hr=> ?_) λ_ _ x=>x));obtain⟨rfl,hQ⟩:=hr
 wp_walk
 exact hQ
def cj_1(FB:ExcBaseFacts B newId ai bmB)(T:OwnTail h bmB bm){mN:AB}{fI:Addr}{oI:Obj}{Q:AA}
  (hC:h.get? C=some (excClassObj nm q C N bs bm bt sn sub ab col dd k0 k1 k2 k3 k5 newId)) (hn:h.Ns N mN) (hi:mN "__init__" =some (.ref fI)) (ho:h.get? fI=some oI) (hf:oI.cls=.type "function")
  (z:∀h' e,Heap.MadeExcOf h h' e (.ref C) us->h.objs.size<=e->wpAny (model prog w) (A.under (.builtin "type.__call__" ⟨.ref C::us,[]⟩)) (call (.ref fI) (.ref e::us)) (λr s'=>r=.none/\Q (.ref e) s') E ⟨h',g,d,t,os⟩) (hu:us.length<=sizeLine):
  wpAny (model prog w) A (call (.ref C) us) Q E ⟨h,g,d,t,os⟩:=by
 have f1:=tc_lookup;have f2:=tc_bind (.ref C);have Cr:Shared.TypeIs ⟨h,g,d,t,os⟩ (.ref C) "type" :=⟨_,hC,rfl⟩;refine T9 (ZC7 (?_:wpAny _ _ (callAny (.ref C) _) _ _ _))
 wp_walk using N0 hC
 refine⟨rfl, ?_⟩;exact ZA3 (T8 _ nofun) entry_typeCall (Z1 hC (cc_9 FB T hC hn hi ho hf (λh' e hm hz=>z h' e hm hz) hu))
def ay_6{M:Model}{env:Env}{s:Shared}{x:Sem Value}{Q:Flow->Shared->Prop}(hb:bm.contains (.type "BaseException")=true)(hh:A.handled=none)
  (z:wpAny M A x (λv s1=>∃e t dx,v=.ref e/\s1.heap.get? C=some (excClassObj nm q C N bs bm bt sn sub ab col dd k0 k1 k2 k3 k5 newId)/\
   s1.heap.get? e=some {cls:=.ref C,dict:=dx,data:=.fields #[.ref t,.none,.none,.none,.bool false,.none]}/\E (.ref e) s1) E s):wpAny M A (raiseStmt env (some x) none) Q E s:=by
 have hcB:(Value.ref C::bm).contains (.type "BaseException")=true:=by rw[O9,hb,ZD8]
 unfold raiseStmt;refine A4 (D1 z (λv s1 z1=> ?_) λ_ _ y=>y);obtain⟨e,t,dx,rfl,hC,he,hE⟩:=z1;obtain⟨hp,g,d,tk,os⟩:=s1
 repeat (first|with_reducible refine N0 he ?_|with_reducible refine N0 hC ?_|(with_reducible refine X7 hC ?_;rw[hcB])|wp_step)
 exact wpAny_raiseNew_none hh hE
end
section
variable{X:Cx}{EX:Az}{a b c:Expr}{f g h:FE}{pos:Pos}
def Ab(i:Nat):FE:=λ δ=>match δ[i]? with
 |some (some d)=> .ok (.sh d)
 |_=> .no
def eC(d:D):FE:=λ_=> .ok (.sh d)
def Ad(i:Nat){x:Str}(hN:X.N[i]? =some x:=by rfl)(hv:Vis X.env.scope x:=by trivial)(hd:AG x:=by decide)
  (hcd:(x ==("__classdict__" :Str))=false:=by decide):ED X EX (.Name x pos) (Ab i):=
 PE.imp (l_5 hN hv hd hcd) λ σ H Q ⟨G,δ,g,s,o⟩=>by
  unfold Ab at o
  split at o
  ·rename_i d e;obtain⟨v,e1,r⟩:=s.get i d e;exact⟨v,e1,WP.use o g r⟩
  ·exact o.elim
def t_9{e:Expr}{v:V}{d:D}(he:PE X e (tC v))(hd:∀G,Has X.K G v d):ED X EX e (eC d):=
 PE.imp he λ σ H Q ⟨G,δ,g,s,o⟩=>WP.use o g (hd G)
def Ar{i:Int}{j pos}:ED X EX (.Constant (.int i) j pos) (eC (.int i)):=t_9 dg_2 λ_=> .int i
def u_0{b:Bool}{j pos}:ED X EX (.Constant (.bool b) j pos) (eC (.bl b)):=t_9 dn_4 λ_=> .bl b
def v_4{j pos}:ED X EX (.Constant .none j pos) (eC .non):=t_9 dg_3 λ_=> .non
def br_9{x:Str}{j pos}:ED X EX (.Constant (.str x) j pos) (eC (.str x)):=t_9 dg_4 λ_=> .str x
def v_5{x:Str}{i:Int}{t:Tok}(hg:Gl X x)(hm:X.mg x=some (.int i t))(hd:AG x:=by decide):ED X EX (.Name x pos) (eC (.int i)):=t_9 (bv_9 (v:=.int i) hg hm ⟨t,rfl⟩ hd) λ_=> .int i
def bw_9{x:Str}{z:Str}{t:Tok}(hg:Gl X x)(hm:X.mg x=some (.str z t))(hd:AG x:=by decide):ED X EX (.Name x pos) (eC (.str z)):=t_9 (bv_9 (v:=.str z) hg hm ⟨t,rfl⟩ hd) λ_=> .str z
def rD(K:Frag)(r:D->D->R W):R2:=λx y H Q=>∃(EX:EXT) (G:Hp) (a b:D),Same G H/\Has K G x a/\Has K G y b/\Out K EX G H (r a b) Q
abbrev Eu(X:Cx)(f:Value->Value->Sem Value)(r:D->D->R W):Prop:=OpR X f (rD X.K r)
def Ag(r:D->D->R W)(f g:FE):FE:=λ δ=>(f δ).bind λa=>(g δ).bind λb=>r a.d b.d
def two{r:D->D->R W}{σ:Sg}{Q:VK}(q:tD K EX (Ag r f g) σ H Q):tOp (rD K r) (tD K EX f) (tD K EX g) σ H Q:=by
 obtain⟨G,δ,g0,s0,o⟩:=q;exact tD.seq g0 s0 o λw v G1 H1 _ st1 r1 o1=>tD.seq st1.gh (s0.mono st1.gg) o1 λw2 v2 G2 H2 _ st2 r2 o2=>⟨_,G2,w.d,w2.d,st2.gh,r1.mono st2.gg,r2,o2⟩
def At{op:Operator}{r:D->D->R W}(ho:Eu X (binaryOp op) r)(ha:ED X EX a f)(hb:ED X EX b g):ED X EX (.BinOp a op b pos) (Ag r f g):=
 PE.imp (de_2 ho ha hb) λ_ _ _ q=>two q
def ad_1{op:CmpOp}{r:D->D->R W}(ho:Eu X (compareOp op) r)(ha:ED X EX a f)(hb:ED X EX b g)(hm:behindInMarks op b=false):ED X EX (.Compare a [op] [b] pos) (Ag r f g):=
 PE.imp (cu_2 ho ha hb hm) λ_ _ _ q=>two q
def Dq:D->R Bool
 | .bl b=> .ok b
 |_=> .no
def Am(f:FE):FT:=λ δ=>(f δ).bind λw=>Dq w.d
def cv_3{σ:Sg}{Q:Bool->Hp->Prop}(q:tDt K EX (Am f) σ H Q):tD K EX f σ H λx H'=>∃k,x=.bl k/\Q k H':=by
 obtain⟨G,δ,g0,s0,o⟩:=q;refine⟨G,δ,g0,s0, ?_⟩;unfold Am at o;cases e:f δ with
 |ok w=>
  rw[e]at o;simp only[R.bind_ok]at o;refine WP.intro λv G' H' st r=> ?_;revert r o;cases w.d with
  |bl k=>intro o r;cases r;exact⟨k,rfl,o G' H' st⟩
  |_=>intro o _;exact False.elim o
 |ex x=>rw[e]at o;exact o
 |no=>rw[e]at o;exact o
def Dk{op:CmpOp}{r:D->D->R W}(ho:Eu X (compareOp op) r)(ha:ED X EX a f)(hb:ED X EX b g)(hm:behindInMarks op b=false):TD X EX (.Compare a [op] [b] pos) (Am (Ag r f g)):=
 PT.imp (cu_3 ho ha hb hm) λ σ H Q q=>two (cv_3 q)
def bd_7(r r':D->D->R W)(f g h:FE):FE:=λ δ=>(f δ).bind λa=>(g δ).bind λb=>(r a.d b.d).bind λz=>(Dq z.d).bind λk=>
 if k=true then(h δ).bind λc=>r' b.d c.d else .ok (.sh (.bl false))
def dp_7{r r':D->D->R W}{σ:Sg}{Q:VK}(q:tD K EX (bd_7 r r' f g h) σ H Q):ch_6 (rD K r) (rD K r') (tD K EX f) (tD K EX g) (tD K EX h) σ H Q:=by
 obtain⟨G,δ,g0,s0,o⟩:=q;refine tD.seq g0 s0 o λw v G1 H1 _ st1 r1 o1=>tD.seq st1.gh (s0.mono st1.gg) o1 λw2 v2 G2 H2 _ st2 r2 o2=>⟨EX σ,G2,w.d,w2.d,st2.gh,r1.mono st2.gg,r2, ?_⟩;revert o2;cases r w.d w2.d with
 |ok z=>
  intro o2;refine WP.intro λv3 G3 H3 st3 r3=> ?_;have o2:Out K (EX σ) G2 H2 ((Dq z.d).bind λk=>if k=true then(h δ).bind λc=>r' w2.d c.d else .ok (.sh (.bl false))) Q:=o2;revert r3 o2;cases z.d with
  |bl k=>
   intro r3 o2;cases r3;refine⟨k,rfl, ?_⟩;cases k with
   |true=>
    rw[if_pos rfl];have o3:Out K (EX σ) G2 H2 ((h δ).bind λc=>r' w2.d c.d) Q:=o2;exact tD.seq st3.gh (s0.mono (st1.gg.trans (st2.gg.trans st3.gg))) (o3.mono st3) λw4 v4 G4 H4 _ st4 r4 o4=>⟨_,G4,w2.d,w4.d,st4.gh,r2.mono (st3.gg.trans st4.gg),r4,o4⟩
   |false=>
    rw[if_neg A7];have o3:WP K G2 H2 (.sh (.bl false)) Q:=o2;exact(o3.mono st3).use st3.gh (.bl false)
  |_=>intro _ o2;exact False.elim o2
 |ex x=>exact λo2=>o2
 |no=>exact λo2=>o2
def cj_2{op op':CmpOp}{r r':D->D->R W}(ho:Eu X (compareOp op) r)(ho':Eu X (compareOp op') r')(ha:ED X EX a f)(hb:ED X EX b g)(hc:ED X EX c h)
  (hm:lastMarks [op,op'] [b,c]=false:=by with_unfolding_all rfl):ED X EX (.Compare a [op,op'] [b,c] pos) (bd_7 r r' f g h):=
 PE.imp (ch_7 ho ho' ha hb hc hm) λ_ _ _ q=>dp_7 q
abbrev TW(X:Cx)(EX:Az)(e:Expr)(f:FT):Prop:=PW X e (tDt X.K EX f)
variable{p q:FT}{v_2:List Expr}
def tAndF(p q:FT):FT:=λ δ=>(p δ).bind λb=>if b=true then q δ else .ok false
def Cd(p q:FT):FT:=λ δ=>(p δ).bind λb=>if b=true then .ok true else q δ
def Cp(p:FT):FT:=λ δ=>(p δ).bind λb=> .ok (!b)
def cv_4(ha:TD X EX a p):TW X EX (.BoolOp .And [a] pos) p:=cu_0 ha
def ad_2(ha:TD X EX a p):TW X EX (.BoolOp .Or [a] pos) p:=dg_5 ha
def tDt.two{σ:Sg}{Q:Bool->Hp->Prop}{k:Bool->DE->R Bool}{P:Bool->Hp->Prop}(h:tDt K EX (λ δ=>(p δ).bind λb=>k b δ) σ H Q)
  (i:∀b H',tDt K EX (k b) σ H' Q->P b H'):tDt K EX p σ H P:=by
 obtain⟨G,δ,g0,s0,o⟩:=h;refine⟨G,δ,g0,s0, ?_⟩;cases e:p δ with
 |ok b=>
  simp only[e,R.bind_ok]at o;refine λG' H' st=>i b H' ⟨G',δ,st.gh,s0.mono st.gg, ?_⟩;cases e2:k b δ with
  |ok c=>rw[e2]at o;exact λG2 H2 st2=>o G2 H2 (st.trans st2)
  |ex x=>rw[e2]at o;exact(EX σ).mono _ _ _ _ _ st o
  |no=>rw[e2]at o;exact o
 |ex x=>simp only[e,R.bind_ex]at o;exact o
 |no=>simp only[e,R.bind_no]at o
def tDt.now{σ:Sg}{Q:Bool->Hp->Prop}{c:Bool}(h:tDt K EX (λ_=> .ok c) σ H Q):Q c H:=by
 obtain⟨G,δ,g0,s0,o⟩:=h;exact o G H (Step.refl g0)
def dj_3(ha:TD X EX a p)(hb:TW X EX (.BoolOp .And (b::v_2) pos) q):TW X EX (.BoolOp .And (a::b::v_2) pos) (tAndF p q):=
 PW.imp (dg_6 ha hb) λ σ H Q h=>tDt.two (k:=λb δ=>if b=true then q δ else .ok false) h λb H' h'=>by
  cases b with
  |true=>rw[if_pos rfl];exact h'
  |false=>rw[if_neg A7];exact tDt.now h'
def Fh(ha:TD X EX a p)(hb:TW X EX (.BoolOp .Or (b::v_2) pos) q):TW X EX (.BoolOp .Or (a::b::v_2) pos) (Cd p q):=
 PW.imp (dn_5 ha hb) λ σ H Q h=>tDt.two (k:=λb δ=>if b=true then .ok true else q δ) h λb H' h'=>by
  cases b with
  |true=>rw[if_pos rfl];exact tDt.now h'
  |false=>rw[if_neg A7];exact h'
def td_w{e:Expr}(h:TW X EX e p):TD X EX e p:=h.pt
def ad_3(ha:TD X EX a p):TD X EX (.UnaryOp .Not a pos) (Cp p):=
 PT.imp (dg_7 ha) λ σ H Q h=>tDt.two (k:=λb _=> .ok (!b)) h λb H' h'=>tDt.now h'
def eAnd(f g:FE):FE:=λ δ=>(f δ).bind λa=>(Dq a.d).bind λk=>if k=true then g δ else .ok (.sh (.bl false))
def eOr(f g:FE):FE:=λ δ=>(f δ).bind λa=>(Dq a.d).bind λk=>if k=true then .ok (.sh (.bl true)) else g δ
def eNot(f:FE):FE:=λ δ=>(f δ).bind λa=>(Dq a.d).bind λk=> .ok (.sh (.bl (!k)))
def bd_8{op}(h:ED X EX a f):ED X EX (.BoolOp op [a] pos) f:=dg_8 h
def tD.boolThen{σ:Sg}{Q:VK}{k:Bool->DE->R W}{P:Bool->Hp->Prop}(h:tD K EX (λ δ=>(f δ).bind λa=>(Dq a.d).bind λc=>k c δ) σ H Q)
  (i:∀c H',tD K EX (k c) σ H' Q->P c H'):tD K EX f σ H λx H'=>∃c,x=.bl c/\P c H':=by
 obtain⟨G,δ,g0,s0,o⟩:=h;refine tD.seq g0 s0 o λw v G1 H1 _ st1 r1 o1=> ?_;revert r1 o1;cases w.d with
 |bl c=>intro r1 o1;cases r1;exact⟨c,rfl,i c H1 ⟨G1,δ,st1.gh,s0.mono st1.gg,o1⟩⟩
 |_=>intro _ o1;exact False.elim o1
def tD.now{σ:Sg}{Q:VK}{v:V}{d:D}(h:tD K EX (λ_=> .ok (.sh d)) σ H Q)(r:∀G,Has K G v d):Q v H:=by
 obtain⟨G,δ,g0,s0,o⟩:=h;exact WP.use o g0 (r G)
def ap_7(ha:ED X EX a f)(hb:ED X EX (.BoolOp .And (b::v_2) pos) g):ED X EX (.BoolOp .And (a::b::v_2) pos) (eAnd f g):=
 PE.imp (dg_9 ha hb) λ σ H Q h=>tD.boolThen (k:=λk δ=>if k=true then g δ else .ok (.sh (.bl false))) h λc H' h'=>by
  cases c with
  |true=>rw[if_pos rfl];exact h'
  |false=>rw[if_neg A7];exact tD.now h' λ_=> .bl false
def dj_4(ha:ED X EX a f):ED X EX (.UnaryOp .Not a pos) (eNot f):=
 PE.imp (dh_0 ha) λ σ H Q h=>tD.boolThen (k:=λk _=> .ok (.sh (.bl (!k)))) h λc H' h'=>tD.now h' λ_=> .bl (!c)
def eIf(p:FT)(f g:FE):FE:=λ δ=>(p δ).bind λk=>if k=true then f δ else g δ
def Bv:D->R Bool
 | .non=> .ok false
 | .bl b=> .ok b
 | .int i=> .ok (i != 0)
 | .str x=>if x.length<=16777216 then .ok ((x.length:Int) != 0) else .no
 | .lst ds=> .ok (!ds.isEmpty)
 | .tup ds=> .ok (!ds.isEmpty)
 |_=> .no
def Bh(f:FE):FT:=λ δ=>(f δ).bind λw=>Bv w.d
def bk_0{G:Hp}{vs:List V}{ds:List D}(r:HasL K G vs ds):(!ds.isEmpty)= !vs.isEmpty:=by cases r <;> rfl
def dj_5{G H:Hp}{v:V}{d:D}{k:Bool}(g:Same G H)(r:Has K G v d)(e:Bv d=.ok k):TruV K v H k:=by
 cases r with
 |non=>cases e;rfl
 |bl b=>cases e;rfl
 |int i=>cases e;rfl
 |str x=>
  have e:(if x.length<=16777216 then R.ok ((x.length:Int) != 0) else .no)=.ok k:=e
  split at e
  ·rename_i hz;cases e;exact⟨by rw[D2];exact hz,rfl⟩
  ·cases e
 |lst h r=>cases e;exact .inl ⟨_,g.seq h,bk_0 r⟩
 |tup h r=>cases e;exact .inr (.inl ⟨_,Same.tupS g h,bk_0 r⟩)
 |exn0 _ _=>cases e
 |exn1 _ _ _ _ _=>cases e
 |dic _ _ _=>cases e
 |obj _ _ _ _=>cases e
def h_4(ha:ED X EX a f)(he:∀whole,isTrue a X.env whole=(do let v<-whole;standAt a.pos;holding [v] (truthy v)):=by intro _;rfl):TD X EX a (Bh f):=
 PT.imp (ch_8 ha he) λ σ H Q ⟨G,δ,g0,s0,o⟩=>by
  refine⟨G,δ,g0,s0, ?_⟩;unfold Bh at o;cases e:f δ with
  |ok w=>
   rw[e]at o;simp only[R.bind_ok]at o;refine WP.intro λv G' H' st r=> ?_;cases e2:Bv w.d with
   |ok k=>rw[e2]at o;exact⟨k,dj_5 st.gh r e2,o G' H' st⟩
   |ex x=>rw[e2]at o;exfalso;revert e2;cases w.d <;> simp only[Bv] <;> intro e2 <;> first|cases e2|(split at e2 <;> cases e2)
   |no=>rw[e2]at o;exact o.elim
  |ex x=>rw[e]at o;exact o
  |no=>rw[e]at o;exact o
variable{e:Expr}{es:List Expr}{fa:FA}
def Ac:FA:=λ_=> .ok []
def Aa(f:FE)(fa:FA):FA:=λ δ=>(f δ).bind λw=>(fa δ).bind λds=> .ok (w.d::ds)
def An:AD X EX [] Ac:=PA.imp p_4 λ σ H Q ⟨G,δ,g0,s0,o⟩=>o [] G H (Step.refl g0) .nil
def Ae(ha:ED X EX e f)(hr:AD X EX es fa)(hs:starEach (e::es) X.env=(false,eval e X.env)::starEach es X.env:=by rfl):AD X EX (e::es) (Aa f fa):=
 PA.imp (j_9 ha hr hs) λ σ H Q ⟨G,δ,g0,s0,o⟩=>by
  refine⟨G,δ,g0,s0, ?_⟩;unfold Aa at o;cases e1:f δ with
  |ok w=>
   rw[e1]at o;simp only[R.bind_ok]at o;refine WP.intro λv G' H' st r=>⟨G',δ,st.gh,s0.mono st.gg, ?_⟩;cases e2:fa δ with
   |ok ds=>rw[e2]at o;exact λvs G2 H2 st2 r2=>o (v::vs) G2 H2 (st.trans st2) (.cons (r.mono st2.gg) r2)
   |ex x=>rw[e2]at o;exact(EX σ).mono _ _ _ _ _ st o
   |no=>rw[e2]at o;exact o
  |ex x=>rw[e1]at o;exact o
  |no=>rw[e1]at o;exact o
def eTup(fa:FA):FE:=λ δ=>(fa δ).bind λds=>if ds.length<=16777216 then .ok (.sh (.tup ds)) else .no
def Bn(fa:FA):FE:=λ δ=>(fa δ).bind λds=>if ds.length<=16777216 then .ok (.ow (.lst ds)) else .no
def cj_3{x1}(ha:AD X EX es fa):ED X EX (.Tuple es x1 pos) (eTup fa):=
 PE.imp (di_7 ha) λ σ H Q ⟨G,δ,g0,s0,o⟩=>tDa.seq g0 s0 o λds vs G' H' _ st r o'=>by
  split at o'
  ·rename_i hz;refine⟨by rw[r.length,D2];exact hz,λp hp=>o' (.ref p) _ _ (Step.new st.gh hp _) (.tup (SqT.of Bp) (r.mono (g_8 (st.gh.free hp) _)))⟩
  ·exact o'.elim
def l_7(ha:AD X EX es fa):ED X EX (.List es pos) (Bn fa):=
 PE.imp (br_5 ha) λ σ H Q ⟨G,δ,g0,s0,o⟩=>tDa.seq g0 s0 o λds vs G' H' _ st r o'=>by
  split at o'
  ·rename_i hz;refine⟨by rw[r.length,D2];exact hz,λp hp=>q_3 o' st.gh r p hp⟩
  ·exact o'.elim
def rDc(K:Frag)(fn:AF):List V->Hp->VK->Prop:=λvs H Q=>∃(EX:EXT) (G:Hp) (ds:List D),Same G H/\HasL K G vs ds/\Out K EX G H (fn ds) Q
abbrev Fe(X:Cx)(v:Value)(fn:AF):Prop:=CallR X v (rDc X.K fn)
def Ah(fn:AF)(fa:FA):FE:=λ δ=>(fa δ).bind fn
def bx_0{fn:AF}{σ:Sg}{Q:VK}(q:tD K EX (Ah fn fa) σ H Q):tCB (rDc K fn) (tDa K EX fa) σ H Q:=by
 obtain⟨G,δ,g0,s0,o⟩:=q;exact tDa.seq g0 s0 o λds vs G' H' _ st r o'=>⟨_,G',ds,st.gh,r,o'⟩
variable{x:Str}{pp:Pos}{id T:String}{fn:AF}
def Dd(hc:Fe X (.builtin id) fn)(hg:Gl X x)(hm:X.mg x=none)(hv:bootBuiltins x=some (.builtin id))(ha:AD X EX (e::es) fa)(hn:x≠ "__name__" :=by decide)(hdb:AG x:=by decide)
  (he:starEach (e::es) X.env=(false,eval e X.env)::starEach es X.env:=by rfl) (hpl:(backTo pos (starEach es X.env)).any (·.1)=false:=by rfl):ED X EX (.Call (.Name x pp) (e::es) [] pos) (Ah fn fa):=
 PE.imp (bj_6 hc hg hm hv ha hn hdb he hpl) λ_ _ _ q=>bx_0 q
def aa_0(hc:Fe X (.type T) fn)(hg:Gl X x)(hm:X.mg x=none)(hv:bootBuiltins x=some (.type T))(ha:AD X EX (e::es) fa)(hn:x≠ "__name__" :=by decide)(hdb:AG x:=by decide)
  (he:starEach (e::es) X.env=(false,eval e X.env)::starEach es X.env:=by rfl) (hpl:(backTo pos (starEach es X.env)).any (·.1)=false:=by rfl):ED X EX (.Call (.Name x pp) (e::es) [] pos) (Ah fn fa):=
 PE.imp (cc_3 hc hg hm hv ha hn hdb he hpl) λ_ _ _ q=>bx_0 q
def Ct:D->D->R W
 | .lst ds,.int i=>match atI ds i with|some d=> .ok (.sh d)|none=> .no
 | .tup ds,.int i=>match atI ds i with|some d=> .ok (.sh d)|none=> .no
 | .str z,.int i=>if z.length<=16777216 then(match atI z.cps.toList i with|some c=> .ok (.sh (.str ⟨#[c]⟩))|none=> .no) else .no
 |_,_=> .no
theorem HasL.atI{G:Hp}{vs:List V}{ds:List D}{i:Int}{d:D}(r:HasL K G vs ds)(h:L2.atI ds i=some d):∃v,L2.atI vs i=some v/\Has K G v d:=by
 unfold L2.atI at h⊢;rw[r.length];cases e:ixN ds.length i with
 |none=>rw[e]at h;cases h
 |some j=>rw[e]at h;exact r.get h
def ix_d:IxR X (rD X.K Ct):=by
 intro value slice zd s σ H x y v u Q I rx ry h hs;obtain⟨EX,G,a,b,g,ra,rb,o⟩:=h;cases rb with
 |int i=>
  cases ra with
  |lst h r=>
   simp only[Ct]at o
   split at o
   ·rename_i d e;obtain⟨v,e1,r1⟩:=HasL.atI r e;exact bw_6 value slice zd s σ H _ _ _ _ Q I rx ry ⟨_,_,i,v,rfl,rfl,g.seq h,e1,WP.use o g r1⟩ hs
   ·exact o.elim
  |tup h r=>
   simp only[Ct]at o
   split at o
   ·rename_i d e;obtain⟨v,e1,r1⟩:=HasL.atI r e;exact ci_3 value slice zd s σ H _ _ _ _ Q I rx ry ⟨_,_,i,v,rfl,rfl,Same.tupS g h,e1,WP.use o g r1⟩ hs
   ·exact o.elim
  |str z=>
   simp only[Ct]at o
   split at o
   ·rename_i hz
    split at o
    ·rename_i c e;exact di_8 value slice zd s σ H _ _ _ _ Q I rx ry ⟨z,i,c,rfl,rfl,by rw[D2];exact hz,e,WP.use o g (.str _)⟩ hs
    ·exact o.elim
   ·exact o.elim
  |_=>exact False.elim o
 |_=>cases ra <;> exact False.elim o
def Fg(ha:ED X EX a f)(hb:ED X EX b g)(hs:bd_0 b:=by intro _ _;rfl):ED X EX (.Subscript a b pos) (Ag Ct f g):=
 PE.imp (de_4 ix_d ha hb hs) λ_ _ _ q=>two q
end
end L3
namespace L2
open PySem PySem.Spec PyProof.Rows
section
variable{κ:Type} [DecidableEq κ]
def Cj(kvs:List (κ×V))(k:κ):Option V:=(kvs.find? λkv=>decide (kv.1=k)).map (·.2)
def Fm(kvs:List (κ×V))(k:κ)(v:V):List (κ×V):=
 if(kvs.any λkv=>decide (kv.1=k))=true then kvs.map (λkv=>if kv.1=k then(kv.1,v) else kv) else kvs ++ [(k,v)]
def h_5{p:κ×V}{r:List (κ×V)}{k:κ}(e:p.1=k):Cj (p::r) k=some p.2:=by simp[Cj,N6,e]
def g_9{p:κ×V}{r:List (κ×V)}{k:κ}(e:¬p.1=k):Cj (p::r) k=Cj r k:=by simp[Cj,N6,e]
theorem x_7(k:κ):∀kvs:List (κ×V),(kvs.any λkv=>decide (kv.1=k))=(Cj kvs k).isSome
 | []=>rfl
 |p::r=>by
  rw[S3]
  by_cases e:p.1=k
  ·simp only[h_5 e,F5 e,Bool.true_or,Option.isSome_some]
  ·rw[g_9 e,F8 e,Bool.false_or];exact x_7 k r
theorem bk_1(k j:κ)(y:V):∀kvs:List (κ×V),Cj (kvs.map λkv=>if kv.1=k then(kv.1,y) else kv) j=(Cj kvs j).map λx=>if j=k then y else x
 | []=>rfl
 |p::r=>by
  have ih:=bk_1 k j y r;rw[B1]
  by_cases h:p.1=k
  ·rw[if_pos h]
   by_cases e:p.1=j
   ·rw[h_5 (p:=(p.1,y)) e,h_5 e,L4,if_pos (e.symm.trans h)]
   ·rw[g_9 (p:=(p.1,y)) e,g_9 e,ih]
  ·rw[if_neg h]
   by_cases e:p.1=j
   ·rw[h_5 (p:=p) e,h_5 e,L4,if_neg (λz=>h (e.trans z))]
   ·rw[g_9 (p:=p) e,g_9 e,ih]
theorem ay_7(k j:κ)(y:V):∀kvs:List (κ×V),Cj kvs k=none->Cj (kvs ++ [(k,y)]) j=if j=k then some y else Cj kvs j
 | [],_=>by
  by_cases e:k=j
  ·rw[if_pos e.symm];exact h_5 (p:=(k,y)) e
  ·rw[if_neg (λz=>e z.symm)];exact g_9 (p:=(k,y)) e
 |p::r,hn=>by
  rw[Q8];have hk:¬p.1=k:=λz=>by rw[h_5 z]at hn;cases hn
  rw[g_9 hk]at hn;have ih:=ay_7 k j y r hn
  by_cases e:p.1=j
  ·rw[h_5 e,h_5 e,if_neg (λz=>hk (e.trans z))]
  ·rw[g_9 e,g_9 e,ih]
def cj_4(kvs:List (κ×V))(k j:κ)(y:V):Cj (Fm kvs k y) j=if j=k then some y else Cj kvs j:=by
 unfold Fm
 by_cases a:(kvs.any λkv=>decide (kv.1=k))=true
 ·rw[if_pos a,bk_1];rw[x_7]at a
  by_cases e:j=k
  ·obtain⟨x,hx⟩:=Q3.mp a;rw[if_pos e,e,hx,L4,if_pos rfl]
  ·rw[if_neg e];cases Cj kvs j with
   |none=>rfl
   |some x=>rw[L4,if_neg e]
 ·rw[if_neg a];refine ay_7 k j y kvs ?_;rw[x_7]at a;cases q:Cj kvs k with
  |none=>rfl
  |some x=>rw[q]at a;exact(a rfl).elim
def x_8(kvs:List (κ×V))(k:κ)(v:V):(Fm kvs k v).length<=kvs.length + 1:=by
 unfold Fm
 split
 ·rw[A3];omega
 ·rw[B5,C6,P6];omega
def RelO.isSome_eq{o:Option V}{u:Option Value}(r:RelO o u):o.isSome=u.isSome:=by
 cases o with
 |none=>cases u with
  |none=>rfl
  |some _=>exact(show False from r).elim
 |some _=>cases u with
  |none=>exact(show False from r).elim
  |some _=>rfl
theorem RelO.getD{o:Option V}{u:Option Value}{d:V}{d':Value}(r:RelO o u)(rd:RelV d d'):RelV (o.getD d) (u.getD d'):=by
 cases o with
 |none=>cases u with
  |none=>exact rd
  |some _=>exact(show False from r).elim
 |some _=>cases u with
  |none=>exact(show False from r).elim
  |some _=>exact r
def KV.val{kvs:List (κ×V)}{vs:List (κ×Value)}(r:KV kvs vs)(k:κ):RelO (Cj kvs k) (valueAt vs k):=by
 unfold KV at r
 induction r with
 |nil=>exact True.intro
 | @cons p q ps qs h t ih=>
  obtain⟨h1,h2⟩:=h
  by_cases e:p.1=k
  ·have e':q.1=k:=h1.symm.trans e;have b:valueAt (q::qs) k=some q.2:=by simp[valueAt,N6,e']
   rw[h_5 e,b];exact h2
  ·have e':¬q.1=k:=λz=>e (h1.trans z);have b:valueAt (q::qs) k=valueAt qs k:=by simp[valueAt,N6,e']
   rw[g_9 e,b];exact ih
theorem KV.any{kvs:List (κ×V)}{vs:List (κ×Value)}(r:KV kvs vs)(k:κ):(kvs.any λkv=>decide (kv.1=k))=vs.any λkv=>decide (kv.1=k):=by
 unfold KV at r
 induction r with
 |nil=>rfl
 |cons h t ih=>rw[S3,S3,ih,h.1]
def KV.repl{kvs:List (κ×V)}{vs:List (κ×Value)}(r:KV kvs vs)(k:κ){y:V}{u:Value}(ry:RelV y u):
  KV (kvs.map λkv=>if kv.1=k then(kv.1,y) else kv) (vs.map λkv=>if kv.1=k then(kv.1,u) else kv):=by
 unfold KV at r⊢
 induction r with
 |nil=>exact .nil
 | @cons p q ps qs h t ih=>
  rw[B1,B1];refine .cons ?_ ih;obtain⟨h1,h2⟩:=h
  by_cases e:p.1=k
  ·rw[if_pos e,if_pos (h1.symm.trans e)];exact⟨h1,ry⟩
  ·rw[if_neg e,if_neg (λz=>e (h1.trans z))];exact⟨h1,h2⟩
def KV.put{kvs:List (κ×V)}{vs:List (κ×Value)}(r:KV kvs vs)(k:κ){y:V}{u:Value}(ry:RelV y u):KV (Fm kvs k y) (stored vs k u):=by
 unfold Fm stored;rw[r.any k]
 by_cases e:(vs.any λkv=>decide (kv.1=k))=true
 ·rw[if_pos e,if_pos e];exact r.repl k ry
 ·rw[if_neg e,if_neg e];exact Paired.snoc r ⟨rfl,ry⟩
theorem KV.length{kvs:List (κ×V)}{vs:List (κ×Value)}(r:KV kvs vs):kvs.length=vs.length:=S0 r
end
def ay_8{P:Program}{w:World}{k:Ak}{u:Value}(r:RelV (kV k) u):(f_9 P w).is k u=true:=by
 cases k with
 |inl i=>obtain⟨t,e⟩:=(show∃t,u=Value.int i t from r);subst e;exact bj_1 P w i t
 |inr x=>obtain⟨t,e⟩:=(show∃t,u=Value.str x t from r);subst e;exact bj_2 P w x t
theorem ay_9{P:Program}{w:World}:∀{ks:List Ak} {us:List Value},Vals (ks.map kV) us->ItemsAre (f_9 P w) ks us
 | [],_,r=>by rw[M3]at r;cases r;exact .nil
 |k::ks,_,r=>by
  rw[B1]at r;cases r with
  |cons h t=>exact .cons (ay_8 h) (ay_9 t)
abbrev KT(H:Hp):List (List Ak×V)->List (List Ak×Addr×Value)->Prop:=Paired λp q=>p.1=q.1/\H q.2.1=some (.tup (p.1.map kV))/\RelV p.2 q.2.2
def KT.val{kvs:List (List Ak×V)}{xs:List (List Ak×Addr×Value)}(r:KT H kvs xs)(k:List Ak):RelO (Cj kvs k) ((atKey xs k).map (·.2)):=by
 induction r with
 |nil=>exact True.intro
 | @cons p q ps qs h t ih=>
  obtain⟨h1,_,h2⟩:=h
  by_cases e:p.1=k
  ·have e':q.1=k:=h1.symm.trans e;have b:atKey (q::qs) k=some q.2:=by simp[atKey,N6,e']
   rw[h_5 e,b];exact h2
  ·have e':¬q.1=k:=λz=>e (h1.trans z);have b:atKey (q::qs) k=atKey qs k:=by simp[atKey,N6,e']
   rw[g_9 e,b];exact ih
def KT.repl{kvs:List (List Ak×V)}{xs:List (List Ak×Addr×Value)}(r:KT H kvs xs)(k:List Ak){y:V}{u:Value}(ry:RelV y u):
  KT H (kvs.map λkv=>if kv.1=k then(kv.1,y) else kv) (xs.map (putAt k u)):=by
 induction r with
 |nil=>exact .nil
 | @cons p q ps qs h t ih=>
  rw[B1,B1];refine .cons ?_ ih;obtain⟨h1,h2,h3⟩:=h;unfold putAt
  by_cases e:p.1=k
  ·rw[if_pos e,if_pos (h1.symm.trans e)];exact⟨h1,h2,ry⟩
  ·rw[if_neg e,if_neg (λz=>e (h1.trans z))];exact⟨h1,h2,h3⟩
def KT.put{kvs:List (List Ak×V)}{xs:List (List Ak×Addr×Value)}(r:KT H kvs xs)(k:List Ak){b:Addr}{y:V}{u:Value}(hb:H b=some (.tup (k.map kV)))(ry:RelV y u):
  KT H (Fm kvs k y) (storedH xs k b u):=by
 have e:(kvs.any λkv=>decide (kv.1=k))=(atKey xs k).isSome:=by
  rw[x_7,(r.val k).isSome_eq,Z4]
 unfold Fm storedH;rw[e]
 by_cases q:(atKey xs k).isSome=true
 ·rw[if_pos q,if_pos q];exact r.repl k ry
 ·rw[if_neg q,if_neg q];exact Paired.snoc r ⟨rfl,hb,ry⟩
def KT.keeps{H H':Hp}{kvs:List (List Ak×V)}{xs:List (List Ak×Addr×Value)}(r:KT H kvs xs)(ht:∀b ys,H b=some (.tup ys)->H' b=some (.tup ys)):KT H' kvs xs:=
 Paired.mapP r λ_ _ z=>⟨z.1,ht _ _ z.2.1,z.2.2⟩
section
variable{P:Program}{w:World}{H:Hp}{h:Heap}{a:Addr}
def de_5{u:HO}(ok:HOk P w H h)(e:Rd H a u):ObjOk P w H h a u:=e.ok ok
def ap_8{kvs:List (Ak×V)}(ok:HOk P w H h)(e:Rd H a (.dK kvs)):kvs.length<=sizeLine/\(a ==sysModules)=false/\∃vs,KV kvs vs/\h.DictOf (f_9 P w) a vs:=
 show ObjOk P w H h a (.dK kvs) from de_5 ok e
def de_6{kvs:List (Ak×V)}(ok:HOk P w H h)(e:H a=some (.dK kvs)):kvs.length<=sizeLine/\(a ==sysModules)=false/\∃vs,KV kvs vs/\h.DictOf (f_9 P w) a vs:=ap_8 ok (.inl e)
def ap_9{ks:List Ak}(ok:HOk P w H h)(e:H a=some (.tup (ks.map kV))):(tupleKind (f_9 P w)).is h ks a:=by
 obtain⟨_,its,r,o,h1,h2,n,h3⟩:=(show ObjOk P w H h a (.tup (ks.map kV)) from ok a _ e);exact⟨o,its.toArray,n,h1,h2,h3,by simpa using ay_9 r⟩
def az_0{kvs:List (List Ak×V)}(ok:HOk P w H h)(e:Rd H a (.dT kvs)):kvs.length<=sizeLine/\(a ==sysModules)=false/\
  ∃xs,KT H kvs xs/\h.DictOfH (tupleKind (f_9 P w)) a xs:=by
 obtain⟨z,y,xs,r,o,es,ep,h1,h2,h3,h4,h5⟩:=(show ObjOk P w H h a (.dT kvs) from de_5 ok e);refine⟨z,y,xs,r,o,es,ep,h1,h2,h3,h4,λx hx=> ?_,h5⟩;have all:∀{l:List (List Ak×V)} {m:List (List Ak×Addr×Value)},KT H l m->∀x∈m,(tupleKind (f_9 P w)).is h x.1 x.2.1:=by
  intro l m q
  induction q with
  |nil=>intro x hx;exact nomatch hx
  | @cons p q ps qs hq t ih=>
   intro x hx;rcases C4.mp hx with e|hx
   ·subst e;exact ap_9 ok (by rw[<-hq.1];exact hq.2.1)
   ·exact ih x hx
 exact all r x hx
def dp_8{kvs:List (List Ak×V)}(ok:HOk P w H h)(e:H a=some (.dT kvs)):kvs.length<=sizeLine/\(a ==sysModules)=false/\
  ∃xs,KT H kvs xs/\h.DictOfH (tupleKind (f_9 P w)) a xs:=az_0 ok (.inl e)
end
def DGet(H:Hp)(a:Addr)(y:V)(r:Option V):Prop:=
 (∃kvs k,Rd H a (.dK kvs)/\y=kV k/\r=Cj kvs k)\/∃kvs k b,Rd H a (.dT kvs)/\y=.ref b/\H b=some (.tup (k.map kV))/\r=Cj kvs k
def DPut(H:Hp)(a:Addr)(y v:V)(H':Hp):Prop:=
 (∃kvs k,H a=some (.dK kvs)/\y=kV k/\kvs.length < sizeLine/\H'=upd H a (.dK (Fm kvs k v)))\/
 ∃kvs k b,H a=some (.dT kvs)/\y=.ref b/\H b=some (.tup (k.map kV))/\kvs.length < sizeLine/\H'=upd H a (.dT (Fm kvs k v))
def DGet.t{a b:Addr}{kvs:List (List Ak×V)}{k:List Ak}(e:H a=some (.dT kvs))(eb:H b=some (.tup (k.map kV))):DGet H a (.ref b) (Cj kvs k):=.inr ⟨kvs,k,b,.inl e,rfl,eb,rfl⟩
theorem DPut.k{a:Addr}{kvs:List (Ak×V)}{k:Ak}{v:V}(e:H a=some (.dK kvs))(hl:kvs.length < sizeLine):DPut H a (kV k) v (upd H a (.dK (Fm kvs k v))):=.inl ⟨kvs,k,e,rfl,hl,rfl⟩
def DPut.t{a b:Addr}{kvs:List (List Ak×V)}{k:List Ak}{v:V}(e:H a=some (.dT kvs))(eb:H b=some (.tup (k.map kV)))(hl:kvs.length < sizeLine):
  DPut H a (.ref b) v (upd H a (.dT (Fm kvs k v))):=.inr ⟨kvs,k,b,e,rfl,eb,hl,rfl⟩
section
variable{X:Cx}{zd:AE}{σ:St}{H:Hp}{s:Shared}{a:Addr}{y v:V}{u r:Value}{o:Option V}{A:Around}{E:AA}
def Inv.big(I:Inv X zd σ H s):sysModules < s.heap.objs.size:=by
 have h:mainGlobals < s.heap.objs.size:=(I.mod.glob.keeps I.bk).lt;exact Nat.lt_trans ⋯ h
def cd_0{Q:AA}(hu:A.units + 1 < cLine)(I:Inv X zd σ H s)(g:DGet H a y (some v))(ry:RelV y u)(h:∀w' s',Inv X zd σ H s'->RelV v w'->Q w' s'):
  wpAny (model X.prog X.w) A (getItem (.ref a) u) Q E s:=by
 rcases g with⟨kvs,k,e,ey,l⟩|⟨kvs,k,b,e,ey,eb,l⟩
 ·subst ey;obtain⟨z,hd,vs,rel,dd⟩:=ap_8 I.hok e;obtain⟨w',hw,rw'⟩:=RelO.some_of (v:=v) (o:=valueAt vs k) (by rw[l];exact rel.val k);exact wpAny_getItem_of (ay_8 ry) dd.mapOf hw (h w' _ (I.tok _) rw')
 ·subst ey;cases(show u=Value.ref b from ry);obtain⟨z,hd,xs,rel,dd⟩:=az_0 I.hok e;obtain⟨w',hw,rw'⟩:=RelO.some_of (v:=v) (o:=(atKey xs k).map (·.2)) (by rw[l];exact rel.val k);obtain⟨p,hp,hp2⟩:=N1.mp hw;refine wpAny_getItem_heap (U1 hu) (ap_9 I.hok eb) dd hp ?_;rw[hp2];exact h w' _ (I.tok _) rw'
def d_in{Q:AA}(hu:A.units + 1 < cLine)(I:Inv X zd σ H s)(g:DGet H a y o)(ry:RelV y u)(h:∀s',Inv X zd σ H s'->Q (.bool o.isSome) s'):
  wpAny (model X.prog X.w) A (compareOp .In u (.ref a)) Q E s:=by
 rcases g with⟨kvs,k,e,ey,l⟩|⟨kvs,k,b,e,ey,eb,l⟩
 ·subst ey;obtain⟨z,hd,vs,rel,dd⟩:=ap_8 I.hok e;refine wpAny_in_of (ay_8 ry) hd dd.mapOf ?_;rw[<-(rel.val k).isSome_eq,<-l];exact h _ (I.tok _)
 ·subst ey;cases(show u=Value.ref b from ry);obtain⟨z,hd,xs,rel,dd⟩:=az_0 I.hok e;refine wpAny_in_heap (U1 hu) (ap_9 I.hok eb) hd dd ?_;have q:=(rel.val k).isSome_eq;rw[Z4]at q;rw[<-q,<-l];exact h _ (I.tok _)
def bd_9{h':Heap}{t':Nat}{ob:HO}(I:Inv X zd σ H s)(mu:Mut (H a))(hs:Heap.SameBut a s.heap h')(he:∃q,h'.get? a=some q)(new:ObjOk X.prog X.w (upd H a ob) h' a ob):
  Inv X zd σ (upd H a ob) {s with heap:=h',toks:=t'}:=
 I.write (x:=a) (e:=a) mu (.inl rfl) (λb q hb z=>(hs.2 b hb).trans z) he new
def cj_5{P:Program}{w:World}{H':Hp}{h':Heap}{kvs:List (Ak×V)}{vs:List (Ak×Value)}(z:kvs.length<=sizeLine)(hd:(a ==sysModules)=false)(rel:KV kvs vs)(dd:h'.DictOf (f_9 P w) a vs):
  ObjOk P w H' h' a (.dK kvs):=⟨z,hd,vs,rel,dd⟩
def cd_1{H':Hp}{Q:Unit->Shared->Prop}(hu:A.units + 1 < cLine)(I:Inv X zd σ H s)(g:DPut H a y v H')(ry:RelV y u)(rv:RelV v r)(h:∀s',Inv X zd σ H' s'->Q .unit s'):
  wpAny (model X.prog X.w) A (setItem (.ref a) u r) Q E s:=by
 rcases g with⟨kvs,k,e,ey,l,eH⟩|⟨kvs,k,b,e,ey,eb,l,eH⟩
 ·subst ey eH;obtain⟨z,hd,vs,rel,dd⟩:=de_6 I.hok e;have hz:vs.length<=sizeLine:=by rw[<-rel.length];exact z
  have hl:(Fm kvs k v).length<=sizeLine:=by have:=x_8 kvs k v;omega
  refine wpAny_setItem_pairs (hsz:=hz) (ay_8 ry) dd λh' dd' hs=>h _ ?_;have he:∃q,h'.get? a=some q:=let⟨q,_,_,hq,_⟩:=dd';⟨q,hq⟩;exact bd_9 I (by rw[e];exact True.intro) hs he (cj_5 hl hd (rel.put k rv) dd')
 ·subst ey eH;cases(show u=Value.ref b from ry);obtain⟨z,hd,xs,rel,dd⟩:=dp_8 I.hok e;have hz:xs.length<=sizeLine:=by rw[<-S0 rel];exact z
  have hl:(Fm kvs k v).length<=sizeLine:=by have:=x_8 kvs k v;omega
  refine wpAny_setItem_heap (hsz:=hz) (U1 hu) (ap_9 I.hok eb) dd λh' dd' hs=>h _ ?_;obtain⟨q,es,ep,hq,h2,h3,h4,_,h5⟩:=dd';refine bd_9 I (by rw[e];exact True.intro) hs ⟨q,hq⟩ ⟨hl,hd,_,(rel.put k eb rv).keeps λc ys ec=> ?_,q,es,ep,hq,h2,h3,h4,h5⟩;rw[Aq (dn_3 ec e (λz=>nomatch z))];exact ec
end
section
variable{X:Cx}{zd:AE}{σ:St}{H:Hp}{s:Shared}{a:Addr}{kvs:List (Ak×V)}{k:Ak}{u:Value}{A:Around}{E:AA}
end
def NoSl(i:Expr):Prop:=∀ov iv,subscripted i false ov iv=operate [ov,iv] (getItem ov iv)
def cv_5{prog:Program}{w:World}{A:Around}{E:AA}{s:Shared}{env:Env}{value slice:Expr}{T id:String}{Q:AA}
  (hl:typeLookup (.type T) "__getitem__" =pure (some (.builtin id))) (hs:NoSl slice)
  (h:wpAny (model prog w) A (eval value env) (λo s₁=>wpAny (model prog w) A (eval slice env) (λi s₂=>s₂.TypeIs o T/\wpAny (model prog w) A (getItem o i) Q E s₂) E s₁) E s):
  wpAny (model prog w) A (eval (.Subscript value slice pos) env) Q E s:=by
 refine Subscript_ (D1 h (λo s₁ h₁=>D1 h₁ (λi s₂ h₂=> ?_) λ_ _ x=>x) λ_ _ x=>x);obtain⟨hT,h₂⟩:=h₂;unfold subscriptTail;refine A4 ?_;rw[getitemInPython_of_ne hT.not_modules];refine A4 (X3 hT hl ?_);have fin:wpAny (model prog w) A (subscripted slice false o i) (λr s₃=>wpAny (model prog w) A (letTemporaryGo value o r >>=λ_=>pure r) Q E s₃) E s₂:=by
  rw[hs o i];exact wpAny_operating (D1 h₂ (λr s₃ h₃=>A4 (wpAny_letTemporaryGo (C5 h₃))) λ_ _ x=>x)
 first
  |exact C5 (A4 fin)
  |exact A4 (C5 (A4 fin))
  |exact A4 fin
def bk_2{zd:AE}{σ:St}{s:Shared}{a:Addr}{y:V}{o:Option V}(I:Inv X zd σ H s)(g:DGet H a y o):s.TypeIs (.ref a) "dict" :=by
 rcases g with⟨kvs,k,e,_,_⟩|⟨kvs,k,b,e,_,_,_⟩
 ·obtain⟨_,_,vs,_,dd⟩:=ap_8 I.hok e;exact dd.typeIs
 ·obtain⟨_,_,xs,_,dd⟩:=az_0 I.hok e;exact dd.typeIs
def dp_9(td ty:TE):TE:=λ σ H Q=>td σ H λx H1=>ty σ H1 λy H2=>∃a v,x=.ref a/\DGet H2 a y (some v)/\Q v H2
def dq_0(td ty tv:TE):TS:=λD σ H=>tv σ H λv H1=>td σ H1 λx H2=>ty σ H2 λy H3=>∃a H4,x=.ref a/\DPut H3 a y v H4/\D.nx σ H4
section
variable{X:Cx}{o i e value:Expr}{pos pos' zi:Pos}{td ty tv:TE}
def cv_6(hu:X.A.units + 1 < cLine)(ho:PE X o td)(hi:PE X i ty)(hs:NoSl i):PE X (.Subscript o i pos) (dp_9 td ty):=by
 intro zd s σ H Q I h;refine cv_5 PySem.F.slot_dict_getitem.lookup hs (Ax (ho zd s σ H _ I h) λu s1 ⟨x,H1,I1,rx,q1⟩=>Ax (hi zd s1 σ H1 _ I1 q1) λiv s2 ⟨y,H2,I2,ry,a,v,ex,g,q2⟩=> ?_);subst ex;obtain rfl:u=Value.ref a:=rx;exact⟨bk_2 I2 g,cd_0 hu I2 g ry λw' s3 I3 rw'=>⟨v,H2,I3,rw',q2⟩⟩
def cv_7(hu:X.A.units + 1 < cLine)(ho:PE X o td)(hi:PE X i ty)(hv:PE X value tv)(hs:swapsWith value (some (.Subscript o i pos')) pos.line X.env=pure false):
  PS X (.Assign [.Subscript o i pos'] value pos) (dq_0 td ty tv):=by
 intro zd s σ H D I h;refine wpAny_Assign_Subscript (Ax (hv zd s σ H _ I h) λr s1 ⟨v,H1,I1,rv,q1⟩=>Ax (ho zd s1 σ H1 _ I1 q1) λu s2 ⟨x,H2,I2,rx,q2⟩=>Ax (hi zd s2 σ H2 _ I2 q2) λiv s3 ⟨y,H3,I3,ry,a,H4,ex,g,q3⟩=> ?_) hs;subst ex;obtain rfl:u=Value.ref a:=rx;exact cd_1 hu I3 g ry rv λs4 I4=>⟨σ,H4,I4,q3⟩
end
def cj_6{P:Program}{w:World}(h:Heap)(hb:sysModules < h.objs.size):ObjOk P w H (h.push {cls:=.type "dict",data:=.dict #[]}) h.objs.size (.dK []):=
 ⟨F7 _,N4.mpr (Ne.symm (B4 hb)),[],.nil,Heap.DictOf.new h⟩
def dj_7:TE:=λ_ H Q=>∀p,H p=none->Q (.ref p) (upd H p (.dK []))
section
variable{X:Cx}{pos:Pos}
def cj_7:PE X (.Dict [] [] pos) dj_7:=λzd s σ H Q I h=>
 wpAny_Dict_empty ⟨.ref s.heap.objs.size,_,I.laid (a:=s.heap.objs.size) (o:=.dK []) (t':=s.toks) (λ_ _ q=>A5 _ q) (A8 _) (cj_6 s.heap I.big),rfl,h _ (I.hok.fresh (A8 _))⟩
end
structure M1(X:Cx)(o:Expr)(m:Str)(zh:Pos)(e:Expr)(zf:Pos):Prop where
 base:attributeBase o m X.env (eval o X.env)=eval o X.env
 few:((backTo zf (starEach [e] X.env)).all (λx=> !x.1) && (backToKw zf (keywordEach [] X.env)).all (λx=>x.1.isSome)
  && decide (([e]:List Expr).length + ([]:List Keyword).length + (if([]:List Keyword).isEmpty then 0 else 1) < 30))=true
 line:(zh.endLine ==zf.line)=true
 trees:backTo zf (starEach [e] X.env)= [(false,eval e X.env)]
structure M2(X:Cx)(o:Expr)(m:Str)(zh:Pos)(e f:Expr)(zf:Pos):Prop where
 base:attributeBase o m X.env (eval o X.env)=eval o X.env
 few:((backTo zf (starEach [e,f] X.env)).all (λx=> !x.1) && (backToKw zf (keywordEach [] X.env)).all (λx=>x.1.isSome)
  && decide (([e,f]:List Expr).length + ([]:List Keyword).length + (if([]:List Keyword).isEmpty then 0 else 1) < 30))=true
 line:(zh.endLine ==zf.line)=true
 trees:backTo zf (starEach [e,f] X.env)= [(false,eval e X.env),(false,eval f X.env)]
def IsD(H:Hp)(a:Addr):Prop:=(∃kvs,Rd H a (.dK kvs))\/∃kvs,Rd H a (.dT kvs)
def cj_8{zd:AE}{σ:St}{s:Shared}{a:Addr}(I:Inv X zd σ H s)(d:IsD H a):
  s.TypeIs (.ref a) "dict" /\(∀b,Value.ref a=.ref b->∃ob,s.heap.get? b=some ob/\ob.dict=none)/\(a ==sysModules)=false:=by
 rcases d with⟨kvs,e⟩|⟨kvs,e⟩
 ·obtain⟨_,hd,vs,_,dd⟩:=ap_8 I.hok e;refine⟨dd.typeIs,λb q=> ?_,hd⟩;cases q;obtain⟨ob,_,_,h1,h2,_⟩:=dd;exact⟨ob,h1,h2.2.1⟩
 ·obtain⟨_,hd,xs,_,dd⟩:=az_0 I.hok e;refine⟨dd.typeIs,λb q=> ?_,hd⟩;cases q;obtain⟨ob,_,_,h1,h2,_⟩:=dd;exact⟨ob,h1,h2.2.1⟩
section
variable{X:Cx}{zd:AE}{σ:St}{H:Hp}{s:Shared}{a:Addr}{y d:V}{u r:Value}{o:Option V}{A:Around}{E:AA}
def dj_8{Q:AA}(hu:A.units + 1 < cLine)(I:Inv X zd σ H s)(g:DGet H a y o)(ry:RelV y u)(rd:RelV d r)(h:∀w' s',Inv X zd σ H s'->RelV (o.getD d) w'->Q w' s'):
  wpAny (model X.prog X.w) A (call (.builtin "dict.get") [.ref a,u,r]) Q E s:=by
 rcases g with⟨kvs,k,e,ey,l⟩|⟨kvs,k,b,e,ey,eb,l⟩
 ·subst ey;obtain⟨z,hd,vs,rel,dd⟩:=ap_8 I.hok e;refine ZD9 V7 dd.typeIs ZB4 (ZA4 _ _ _) (meets_dict_get_default (f_9 X.prog X.w) a (ay_8 ry) hd r) ⟨_,dd.mapOf,h _ _ (I.tok _) ?_⟩;rw[l];exact(rel.val k).getD rd
 ·subst ey;cases(show u=Value.ref b from ry);obtain⟨z,hd,xs,rel,dd⟩:=az_0 I.hok e;refine ZD9 V7 dd.typeIs ZB4 (ZA4 _ _ _) (meetsH_dict_get_default (tupleKind (f_9 X.prog X.w)) a b hd r) ⟨U1 hu,k,xs,ap_9 I.hok eb,dd,h _ _ (I.tok _) ?_⟩;rw[l];exact(rel.val k).getD rd
end
def dj_9(td ty tx:TE):TE:=λ σ H Q=>td σ H λx H1=>∃a,x=.ref a/\IsD H1 a/\ty σ H1 λy H2=>tx σ H2 λz H3=>∃o,DGet H3 a y o/\Q (o.getD z) H3
section
variable{X:Cx}{o e f:Expr}{zh zf:Pos}{td ty tx:TE}
def cj_9(hu:X.A.units + 1 < cLine)(ho:PE X o td)(he:PE X e ty)(hf:PE X f tx)(m:M2 X o "get" zh e f zf):PE X (.Call (.Attribute o "get" zh) [e,f] [] zf) (dj_9 td ty tx):=by
 intro zd s σ H Q I h;refine wpAny_Call_method m.base m.few m.line ZA5 V7 PySem.F.type_dict_get (Ax (ho zd s σ H _ I h) λu s1 ⟨x,H1,I1,rx,a,ex,d,q1⟩=> ?_);subst ex;obtain rfl:u=Value.ref a:=rx;obtain⟨t1,t2,_⟩:=cj_8 I1 d;refine⟨t1,t2, ?_⟩;rw[m.trees];refine U5 rfl (W9 (K6 (Ax (he zd s1 σ H1 _ I1 q1) λiv s2 ⟨y,H2,I2,ry,q2⟩=>
  K6 (Ax (hf zd s2 σ H2 _ I2 q2) λfv s3 ⟨z,H3,I3,rz,ov,g,q3⟩=>M8 ?_))))
 exact dj_8 hu I3 g ry rz λw' s4 I4 rw'=>⟨_,H3,I4,rw',q3⟩
end
section
variable{X:Cx}{zd:AE}{σ:St}{H:Hp}{s:Shared}{a:Addr}{kvs:List (Ak×V)}{A:Around}{E:AA}
end
section
variable{X:Cx}{zd:AE}{σ:St}{H:Hp}{s:Shared}{a:Addr}{y:V}{u:Value}{A:Around}{E:AA}
end
section
variable{X:Cx}
end
section
variable{κ:Type} [DecidableEq κ]
end
end L2
namespace L3
open PySem PySem.Spec PyProof.Rows L2
variable{K:Frag}{fd:FuncData}{mg:AB}{us:List Value}{base:Heap}{H:Hp}{X:Cx}{pos:Pos}
section
variable{X:Cx}
def Cq{EX:EXT}{G H:Hp}{Q:VK}{d:D}{v:V}(o:Out K EX G H (.ok (.sh d)) Q)(g:Same G H)(r:Has K G v d):Q v H:=WP.use o g r
def dq_1(K:Frag):R2:=λx y H Q=>∃l b xs zs,x=.ref l/\y=.ref b/\SqL K H l xs/\SqL K H b zs/\xs.length + zs.length<=sizeLine/\∀p,H p=none->Q (.ref p) (upd H p (.lst (xs ++ zs)))
def cv_8:OpR X (binaryOp .Add) (dq_1 X.K):=by
 intro zd s σ H x y v u Q I rx ry h;obtain⟨l,b,xs,zs,rfl,rfl,hH,hB,hz,q⟩:=h;cases rx;cases ry;obtain⟨its,r,⟨o,n,e,c,dd,dat⟩,z⟩:=I.list hH;obtain⟨bo,r2,⟨o2,n2,e2,c2,dd2,dat2⟩,z2⟩:=I.list hB;have hl:=r.length;have hl2:=r2.length;obtain⟨cls,dd',data,sl⟩:=o;obtain⟨jt,jo,data2,sl2⟩:=o2;simp only at c dd dat c2 dd2 dat2;subst c dd dat c2 dd2 dat2;refine concat_meets ⟨_,e,rfl⟩ ⟨_,e2,rfl⟩ noFill_list_add seq_list_add PySem.F.slot_list_add PySem.F.entry_list_add (PySem.F.args_list_add_2 _ _) (list_addW l b its.toArray bo.toArray n n2 none none sl sl2 (by rw[C1,C1];omega)) ⟨e,e2, ?_⟩;have ea:its.toArray ++ bo.toArray=(its ++ bo).toArray:=by simp
 rw[ea];exact⟨.ref _,_,I.lnew (t':=s.toks) (r.append r2) (by rw[B5];omega),rfl,q _ I.fresh⟩
def Bq:D->D->R W
 | .int i,.int j=> .ok (.sh (.int (i + j)))
 | .str x,.str y=>if x.length + y.length<=16777216 then .ok (.sh (.str (x ++ y))) else .no
 | .lst a,.lst b=>if a.length + b.length<=16777216 then .ok (.ow (.lst (a ++ b))) else .no
 |_,_=> .no
def Cg:Eu X (binaryOp .Add) Bq:=by
 intro zd s σ H x y v u Q I rx ry h;obtain⟨EX,G,a,b,g,ra,rb,o⟩:=h;cases ra with
 |int i=>
  cases rb with
  |int j=>exact dh_7 zd s σ H _ _ _ _ Q I rx ry ⟨i,j,rfl,rfl,Cq o g (.int _)⟩
  |_=>exact False.elim o
 |str x=>
  cases rb with
  |str y=>
   simp only[Bq]at o
   split at o
   ·rename_i hz;exact br_0 zd s σ H _ _ _ _ Q I rx ry ⟨x,y,rfl,rfl,by rw[D2];exact hz,Cq o g (.str _)⟩
   ·exact o.elim
  |_=>exact False.elim o
 |lst h1 r1=>
  cases rb with
  |lst h2 r2=>
   simp only[Bq]at o
   split at o
   ·rename_i hz;exact cv_8 zd s σ H _ _ _ _ Q I rx ry ⟨_,_,_,_,rfl,rfl,g.seq h1,g.seq h2,by rw[r1.length,r2.length,D2];exact hz,q_3 o g (r1.append r2)⟩
   ·exact o.elim
  |_=>exact False.elim o
 |_=>cases rb <;> exact False.elim o
def intD(C:Int->Int->Bool)(f:Int->Int->Int):D->D->R W
 | .int i,.int j=>if C i j=true then .ok (.sh (.int (f i j))) else .no
 |_,_=> .no
def ae_6{fn:Value->Value->Sem Value}{C:Int->Int->Bool}{P:Int->Int->Prop}{f:Int->Int->Int}(h:OpR X fn (rI P λi j=> .int (f i j)))(hC:∀i j,C i j=true->P i j):Eu X fn (intD C f):=by
 intro zd s σ H x y v u Q I rx ry q;obtain⟨EX,G,a,b,g,ra,rb,o⟩:=q;cases ra with
 |int i=>
  cases rb with
  |int j=>
   simp only[intD]at o
   split at o
   ·rename_i hc;exact h zd s σ H _ _ _ _ Q I rx ry ⟨i,j,rfl,rfl,hC i j hc,Cq o g (.int _)⟩
   ·exact o.elim
  |_=>exact False.elim o
 |_=>cases rb <;> exact False.elim o
def subD:D->D->R W:=intD (λ_ _=>true) (λi j=>i - j)
def Fp(i j:Int):Bool:=decide (i.natAbs < 18446744073709551616\/j.natAbs < 18446744073709551616)
def Dz:D->D->R W:=intD Fp (λi j=>i * j)
def divC(_ j:Int):Bool:=decide (0 < j/\j.natAbs < 1361129467683753853853498429727072845824)
def Cw:D->D->R W:=intD divC (λi j=>i / j)
def modC(_ j:Int):Bool:=decide (0 < j)
def Dp:D->D->R W:=intD modC (λi j=>i % j)
def powC(i j:Int):Bool:=decide (0<=j/\j.natAbs<=1000000/\i.natAbs < 18446744073709551616)
def powD:D->D->R W:=intD powC (λi j=>i ^ j.toNat)
def an_8:Eu X (binaryOp .Sub) subD:=ae_6 (P:=λ_ _=>True) (opI λ_ _ _ _ _ _ _ _ q=>sub_int q) λ_ _ _=>trivial
def Er:Eu X (binaryOp .Mult) Dz:=ae_6 dh_8 λi j h=>by
 have h:=D4 h;rcases h with h|h
 ·exact .inl ⟨by omega,by omega⟩
 ·exact .inr ⟨by omega,by omega⟩
def l_2:Eu X (binaryOp .FloorDiv) Cw:=ae_6 (P:=λ_ j=>0 < j/\j.natAbs < 1361129467683753853853498429727072845824) (opI λi j _ _ _ _ _ hc q=>by
 have h1:(0:Int) < j:=hc.1;have h2:=hc.2;refine floordiv_int () ?_ (.inl (PyProof.noPylong_of_log2 ?_))
 ·rw[Int.fdiv_eq_ediv_of_nonneg i ()];exact q
 ·have:j.natAbs < 2 ^ 130:=by
   have e:(2:Nat) ^ 130=1361129467683753853853498429727072845824:=by decide
   omega
  have l:j.natAbs.log2 < 130:=(Nat.log2_lt ()).mpr this;omega) λi j h=>D4 h
def Ed:Eu X (binaryOp .Mod) Dp:=ae_6 dh_9 λi j h=>D4 h
def cw_1{i j:Int}(h:powC i j=true):CPow i j:=by
 obtain⟨h1,h2,h3⟩:=D4 h;refine⟨h1,by omega, ?_⟩;have e:(2:Nat) ^ 64=18446744073709551616:=by decide
 omega
def cw_2:Eu X (binaryOp .Pow) powD:=ae_6 di_0 λi j h=>cw_1 h
def cmpD(f:Int->Int->Bool):D->D->R W
 | .int i,.int j=> .ok (.sh (.bl (f i j)))
 |_,_=> .no
def be_1{fn:Value->Value->Sem Value}{f:Int->Int->Bool}(h:OpR X fn (rI0 λi j=> .bl (f i j))):Eu X fn (cmpD f):=by
 intro zd s σ H x y v u Q I rx ry q;obtain⟨EX,G,a,b,g,ra,rb,o⟩:=q;cases ra with
 |int i=>
  cases rb with
  |int j=>exact h zd s σ H _ _ _ _ Q I rx ry ⟨i,j,rfl,rfl,Cq o g (.bl _)⟩
  |_=>exact False.elim o
 |_=>cases rb <;> exact False.elim o
def ltD:D->D->R W:=cmpD λi j=>decide (i < j)
def leD:D->D->R W:=cmpD λi j=>decide (i<=j)
def gtD:D->D->R W:=cmpD λi j=>decide (j < i)
def bs_0:Eu X (compareOp .Lt) ltD:=be_1 do_9
def bs_1:Eu X (compareOp .LtE) leD:=be_1 dp_0
def ck_0:Eu X (compareOp .Gt) gtD:=be_1 dp_1
mutual
def Dm:D->PyData
 | .non=> .none
 | .bl b=> .bool b
 | .int i=> .int i
 | .str x=> .str x
 | .lst ds=> .list (Es ds)
 | .tup ds=> .tuple (Es ds)
 | .dic _=> .dict []
 | .exn _ _ _=> .dict []
 | .obj _ _ _=> .dict []
def Es:List D->List PyData
 | []=> []
 |d::ds=>Dm d::Es ds
end
mutual
theorem Has.reads(hK:X.K=K){zd:AE}{σ:Sg}{s:Shared}(I:Inv X zd σ H s){G:Hp}(g:Same G H):∀{v:V} {d:D} {u:Value},(Dm d).canLay0=true->Has K G v d->RelV v u->∃as,Reads s.heap u (Dm d) as
 |_,_,_,_,.non,r=>by cases r;exact⟨_,.none⟩
 |_,_,_,_,.bl b,r=>by cases r;exact⟨_,.bool b⟩
 |_,_,_,_,.int i,r=>by obtain⟨t,rfl⟩:=r;exact⟨_,.int i t⟩
 |_,_,_,_,.str x,r=>by obtain⟨t,rfl⟩:=r;exact⟨_,.str x t⟩
 |_,_,_,c,.lst h r,q=>by
  cases q;obtain⟨its,rv,⟨o,n,e,c',_,dat⟩,_⟩:=I.list (by rw[hK];exact g.seq h);obtain⟨as,z⟩:=HasL.reads hK I g c r rv;exact⟨_,.list e c' dat z⟩
 |_,_,_,c,.tup h r,q=>by
  cases q;obtain⟨its,rv,⟨o,e,c',n,dat⟩,_⟩:=I.tuple (by rw[hK];exact Same.tupS g h);obtain⟨as,z⟩:=HasL.reads hK I g c r rv;exact⟨_,.tuple e c' dat z⟩
 |_,_,_,c,.exn0 _ _,_=>absurd c A7
 |_,_,_,c,.exn1 _ _ _ _ _,_=>absurd c A7
 |_,_,_,c,.dic _ _ _,_=>absurd c A7
 |_,_,_,c,.obj _ _ _ _,_=>absurd c A7
theorem HasL.reads(hK:X.K=K){zd:AE}{σ:Sg}{s:Shared}(I:Inv X zd σ H s){G:Hp}(g:Same G H):∀{vs:List V} {ds:List D} {us:List Value},PyData.canLayAll0 (Es ds)=true->HasL K G vs ds->Vals vs us->∃as,ReadsAll s.heap us (Es ds) as
 |_,_,_,_,.nil,r=>by cases r;exact⟨_,.nil⟩
 |_,_,_,c,.cons h t,r=>by
  cases r with
  |cons r1 r2=>
   have c':(PyData.canLay0 (Dm _) && PyData.canLayAll0 (Es _))=true:=c;rw[C9]at c';obtain⟨a1,z1⟩:=Has.reads hK I g c'.1 h r1;obtain⟨a2,z2⟩:=HasL.reads hK I g c'.2 t r2;exact⟨_,.cons z1 z2⟩
end
def eqC(a b:D):Bool:=(Dm a).canLay0 && (Dm b).canLay0 && decide ((Dm a).depth<=60)
def Ew(a b:D):Bool:=(Dm a).eqv (Dm b)
def Ez(a b:D):R W:=match a,b with
 | .str x,.str y=> .ok (.sh (.bl (decide (x=y))))
 |a,b=>if eqC a b=true then .ok (.sh (.bl (Ew a b))) else .no
def Dj(a b:D):R W:=match a,b with
 | .str x,.str y=> .ok (.sh (.bl (!decide (x=y))))
 |a,b=>if eqC a b=true then .ok (.sh (.bl (!Ew a b))) else .no
def bk_3(x y:Str):decide (V.str x=V.str y)=decide (x=y):=by
 by_cases e:x=y
 ·subst e;simp
 ·rw[F8 e,F8 (λz=>e (by injection z))]
def p_5(hu:X.A.units + 64 < cLine):Eu X (compareOp .Eq) Ez:=by
 intro zd s σ H x y v u Q I rx ry q;obtain⟨EX,G,a,b,g,ra,rb,o⟩:=q;unfold Ez at o
 split at o
 ·rename_i x y;cases ra;cases rb;exact do_7 zd s σ H _ _ _ _ Q I rx ry ⟨rfl,by rw[bk_3];exact Cq o g (.bl _)⟩
 ·split at o
  ·rename_i hc;unfold eqC at hc;rw[C9,C9]at hc;obtain⟨⟨h1,h2⟩,h3⟩:=hc;have h3:=D4 h3;obtain⟨as,za⟩:=Has.reads rfl I g h1 ra rx;obtain⟨bs,zb⟩:=Has.reads rfl I g h2 rb ry;refine PySem.SeqAt.compareEq_reads za zb h1 h2 ?_ ⟨.bl _,H,I,rfl,Cq o g (.bl _)⟩;have:=Nat.min_le_left (Dm a).depth (Dm b).depth;omega
  ·exact o.elim
def x_9(hu:X.A.units + 64 < cLine):Eu X (compareOp .NotEq) Dj:=by
 intro zd s σ H x y v u Q I rx ry q;obtain⟨EX,G,a,b,g,ra,rb,o⟩:=q;unfold Dj at o
 split at o
 ·rename_i x y;cases ra;cases rb;exact do_8 zd s σ H _ _ _ _ Q I rx ry ⟨rfl,by rw[bk_3];exact Cq o g (.bl _)⟩
 ·split at o
  ·rename_i hc;unfold eqC at hc;rw[C9,C9]at hc;obtain⟨⟨h1,h2⟩,h3⟩:=hc;have h3:=D4 h3;obtain⟨as,za⟩:=Has.reads rfl I g h1 ra rx;obtain⟨bs,zb⟩:=Has.reads rfl I g h2 rb ry;refine PySem.SeqAt.compareNe_reads za zb h1 h2 ?_ ⟨.bl _,H,I,rfl,Cq o g (.bl _)⟩;have:=Nat.min_le_left (Dm a).depth (Dm b).depth;omega
  ·exact o.elim
def Ay:D->Bool
 | .non=>true
 | .bl _=>true
 | .int _=>true
 | .str _=>true
 |_=>false
def flV:D->V
 | .bl b=> .bl b
 | .int i=> .int i
 | .str x=> .str x
 |_=> .non
def Has.fl{G:Hp}{v:V}{d:D}(r:Has K G v d)(f:Ay d=true):v=flV d/\Fc v=true:=by
 cases r with
 |non=>exact⟨rfl,rfl⟩
 |bl b=>exact⟨rfl,rfl⟩
 |int i=>exact⟨rfl,rfl⟩
 |str x=>exact⟨rfl,rfl⟩
 |lst _ _=>cases f
 |tup _ _=>cases f
 |exn0 _ _=>cases f
 |exn1 _ _ _ _ _=>cases f
 |dic _ _ _=>cases f
 |obj _ _ _ _=>cases f
def Has.ofFl{G G':Hp}{v:V}{d:D}(r:Has K G v d)(f:Ay d=true):Has K G' v d:=by
 cases r with
 |non=>exact .non
 |bl b=>exact .bl b
 |int i=>exact .int i
 |str x=>exact .str x
 |lst _ _=>cases f
 |tup _ _=>cases f
 |exn0 _ _=>cases f
 |exn1 _ _ _ _ _=>cases f
 |dic _ _ _=>cases f
 |obj _ _ _ _=>cases f
theorem HasL.fl{G:Hp}:∀{vs:List V} {ds:List D},HasL K G vs ds->ds.all Ay=true->vs=ds.map flV/\vs.all Fc=true
 |_,_,.nil,_=>⟨rfl,rfl⟩
 |_,_,.cons h r,f=>by
  rw[W7,C9]at f;obtain⟨e1,e2⟩:=h.fl f.1;obtain⟨e3,e4⟩:=HasL.fl r f.2;exact⟨by rw[B1,<-e1,<-e3],by rw[W7,e2,e4];rfl⟩
def eqF(a b:D):Bool:=eqV (flV a) (flV b)
def Cv(d:D)(ds:List D):Bool:=ds.any λy=>eqF y d
def bx_1(d:D)(ds:List D):inV (flV d) (ds.map flV)=Cv d ds:=by
 unfold inV Cv;rw[List.any_map];rfl
def inD(neg:Bool):D->D->R W
 | .str i,.str j=> .ok (.sh (.bl (if neg then !(!(Builtin.Str.occurrences j i 0 j.length 1).isEmpty) else !(Builtin.Str.occurrences j i 0 j.length 1).isEmpty)))
 |d,.lst ds=>if(Ay d && ds.all Ay)=true then .ok (.sh (.bl (if neg then !Cv d ds else Cv d ds))) else .no
 |d,.tup ds=>if(Ay d && ds.all Ay)=true then .ok (.sh (.bl (if neg then !Cv d ds else Cv d ds))) else .no
 |_,_=> .no
def bx_2{EX:EXT}{G H:Hp}{x y:V}{d:D}{e:D}{Q:VK}{neg:Bool}(g:Same G H)(ra:Has X.K G x d)(rb:Has X.K G y e)(hd:∀i j,d=.str i->e=.str j->False)(o:Out X.K EX G H (inD neg d e) Q):rIn X.K neg x y H Q:=by
 cases rb with
 |lst h r=>
  rename_i ds;have o':Out X.K EX G H (if(Ay d && ds.all Ay)=true then .ok (.sh (.bl (if neg then !Cv d ds else Cv d ds))) else .no) Q:=by
   cases d <;> exact o
  split at o'
  ·rename_i f;rw[C9]at f;obtain⟨e1,e2⟩:=ra.fl f.1;obtain⟨e3,e4⟩:=r.fl f.2;refine⟨_,_,rfl,.inl (g.seq h),e2,e4, ?_⟩;rw[e1,e3,bx_1];exact Cq o' g (.bl _)
  ·exact o'.elim
 |tup h r=>
  rename_i ds;have o':Out X.K EX G H (if(Ay d && ds.all Ay)=true then .ok (.sh (.bl (if neg then !Cv d ds else Cv d ds))) else .no) Q:=by
   cases d <;> exact o
  split at o'
  ·rename_i f;rw[C9]at f;obtain⟨e1,e2⟩:=ra.fl f.1;obtain⟨e3,e4⟩:=r.fl f.2;refine⟨_,_,rfl,.inr (Same.tupS g h),e2,e4, ?_⟩;rw[e1,e3,bx_1];exact Cq o' g (.bl _)
  ·exact o'.elim
 |str j=>
  cases d with
  |str i=>exact(hd i j rfl rfl).elim
  |_=>exact False.elim o
 |_=>cases d <;> exact False.elim o
def ck_1:Eu X (compareOp .In) (inD false):=by
 intro zd s σ H x y v u Q I rx ry q;obtain⟨EX,G,a,b,g,ra,rb,o⟩:=q
 by_cases hs:∃i j,a=.str i/\b=.str j
 ·obtain⟨i,j,rfl,rfl⟩:=hs;cases ra;cases rb;exact cb_9 zd s σ H _ _ _ _ Q I rx ry ⟨i,j,rfl,rfl,Cq o g (.bl _)⟩
 ·exact cc_5 zd s σ H _ _ _ _ Q I rx ry (bx_2 g ra rb (λi j e1 e2=>hs ⟨i,j,e1,e2⟩) o)
def cd_3:Eu X (compareOp .NotIn) (inD true):=by
 intro zd s σ H x y v u Q I rx ry q;obtain⟨EX,G,a,b,g,ra,rb,o⟩:=q
 by_cases hs:∃i j,a=.str i/\b=.str j
 ·obtain⟨i,j,rfl,rfl⟩:=hs;cases ra;cases rb;exact bd_3 zd s σ H _ _ _ _ Q I rx ry ⟨i,j,rfl,rfl,Cq o g (.bl _)⟩
 ·exact bd_2 zd s σ H _ _ _ _ Q I rx ry (bx_2 g ra rb (λi j e1 e2=>hs ⟨i,j,e1,e2⟩) o)
def Cs:List D->R W
 | [.str x]=>if x.length<=16777216 then .ok (.sh (.int x.length)) else .no
 | [.lst ds]=> .ok (.sh (.int ds.length))
 | [.tup ds]=> .ok (.sh (.int ds.length))
 |_=> .no
def Fa:Fe X (.builtin "len") Cs:=by
 intro zd s σ H vs us Q I rv q;obtain⟨EX,G,ds,g,r,o⟩:=q;cases r with
 |nil=>exact False.elim o
 |cons h t=>
  cases t with
  |cons _ _=>cases h <;> exact False.elim o
  |nil=>
   cases h with
   |str x=>
    simp only[Cs]at o
    split at o
    ·rename_i hz;exact bd_4 zd s σ H _ _ Q I rv ⟨x,rfl,by rw[D2];exact hz,Cq o g (.int _)⟩
    ·exact o.elim
   |lst h r=>exact ae_4 zd s σ H _ _ Q I rv ⟨_,_,rfl,.inl (g.seq h),by rw[r.length];exact Cq o g (.int _)⟩
   |tup h r=>exact ae_4 zd s σ H _ _ Q I rv ⟨_,_,rfl,.inr (Same.tupS g h),by rw[r.length];exact Cq o g (.int _)⟩
   |_=>exact False.elim o
def El:List D->R W
 | [.int i,.int j]=> .ok (.sh (.int (if j > i then j else i)))
 |_=> .no
def minD:List D->R W
 | [.int i,.int j]=> .ok (.sh (.int (if j < i then j else i)))
 |_=> .no
def bk_5{G:Hp}{vs:List V}{ds:List D}(r:HasL K G vs ds){P:Prop}(h:∀i j,vs= [.int i,.int j]->ds= [.int i,.int j]->P)(n:(∀i j,ds≠ [.int i,.int j])->P):P:=by
 by_cases e:∃i j,ds= [.int i,.int j]
 ·obtain⟨i,j,rfl⟩:=e;cases r with
  |cons a t=>
   cases t with
   |cons b t2=>
    cases t2;cases a;cases b;exact h i j rfl rfl
 ·exact n λi j z=>e ⟨i,j,z⟩
def cw_4{ds:List D}(h:∀i j,ds≠ [.int i,.int j]):El ds=.no:=by
 unfold El
 split
 ·rename_i i j;exact absurd rfl (h i j)
 ·rfl
def cw_5{ds:List D}(h:∀i j,ds≠ [.int i,.int j]):minD ds=.no:=by
 unfold minD
 split
 ·rename_i i j;exact absurd rfl (h i j)
 ·rfl
def u_1(hc:X.calm=true):Fe X (.builtin "max") El:=by
 intro zd s σ H vs us Q I rv q;obtain⟨EX,G,ds,g,r,o⟩:=q;refine bk_5 r (λi j e1 e2=> ?_) λn=> ?_
 ·subst e1 e2;exact cc_0 hc zd s σ H _ _ Q I rv ⟨i,j,rfl,Cq o g (.int _)⟩
 ·rw[cw_4 n]at o;exact o.elim
def ah_7(hc:X.calm=true):Fe X (.builtin "min") minD:=by
 intro zd s σ H vs us Q I rv q;obtain⟨EX,G,ds,g,r,o⟩:=q;refine bk_5 r (λi j e1 e2=> ?_) λn=> ?_
 ·subst e1 e2;exact cc_1 hc zd s σ H _ _ Q I rv ⟨i,j,rfl,Cq o g (.int _)⟩
 ·rw[cw_5 n]at o;exact o.elim
def ae_7:List D->R W
 | [.int i]=> .ok (.sh (.int i))
 | [.bl k]=> .ok (.sh (.int (if k then 1 else 0)))
 |_=> .no
def aq_1:Fe X (.type "int") ae_7:=by
 intro zd s σ H vs us Q I rv q;obtain⟨EX,G,ds,g,r,o⟩:=q;cases r with
 |nil=>exact False.elim o
 |cons h t=>
  cases t with
  |cons _ _=>cases h <;> exact False.elim o
  |nil=>
   cases h with
   |int i=>exact ax_6 zd s σ H _ _ Q I rv (.inl ⟨i,rfl,Cq o g (.int _)⟩)
   |bl k=>exact ax_6 zd s σ H _ _ Q I rv (.inr ⟨k,rfl,Cq o g (.int _)⟩)
   |_=>exact False.elim o
def v_6:List D->R W
 | [.lst ds]=> .ok (.ow (.lst ds))
 | [.tup ds]=> .ok (.ow (.lst ds))
 |_=> .no
def ak_0:Fe X (.type "list") v_6:=by
 intro zd s σ H vs us Q I rv q;obtain⟨EX,G,ds,g,r,o⟩:=q;cases r with
 |nil=>exact False.elim o
 |cons h t=>
  cases t with
  |cons _ _=>cases h <;> exact False.elim o
  |nil=>
   cases h with
   |lst h r=>exact ae_5 zd s σ H _ _ Q I rv ⟨_,_,rfl,.inl (g.seq h),q_3 o g r⟩
   |tup h r=>exact ae_5 zd s σ H _ _ Q I rv ⟨_,_,rfl,.inr (Same.tupS g h),q_3 o g r⟩
   |_=>exact False.elim o
end
structure RoomC(c:Bool)(k:Nat)(A:Around):Prop where
 hd:c=true->A.handled=none
 dp:A.depth + 3 * k + 5 < recursionLimit
 un:A.units + 16 * k + 200 < cLine
def RoomC.mono{c:Bool}{j k:Nat}{A:Around}(r:RoomC c k A)(h:j<=k):RoomC c j A:=⟨r.hd,by have:=r.dp;omega,by have:=r.un;omega⟩
theorem RoomC.deeper{c:Bool}{k:Nat}{A:Around}(r:RoomC c (k + 1) A)(env:Env):RoomC c k (A.deeper env):=
 ⟨r.hd,by have:=r.dp;show A.depth + 1 + 3 * k + 5 < _;omega,by have:=r.un;show A.units + 3 + 16 * k + 200 < _;omega⟩
def RoomC.make{c:Bool}{k:Nat}{A:Around}(r:RoomC c (k + 1) A)(C:Addr)(us:List Value)(kw:List (Str×Value)):RoomC c k (A.under (.builtin "type.__call__" ⟨.ref C::us,kw⟩)):=
 ⟨r.hd,by have:=r.dp;rw[br_3];omega,by have:=r.un;rw[br_4];omega⟩
def RoomC.loose{c:Bool}{k:Nat}{A:Around}(r:RoomC c k A):RoomC false k A:=⟨λz=>absurd z A7,r.dp,r.un⟩
theorem RoomC.mark{c:Bool}{k:Nat}{A:Around}(r:RoomC c k A)(h:Option Value):RoomC false k (A.mark h):=⟨λz=>absurd z A7,r.dp,r.un⟩
def RoomC.of{k:Nat}{A:Around}(r:Room k A):RoomC true k A:=⟨λ_=>r.hd,r.dp,r.un⟩
structure FnX(P:Program)(w:World)(K:Frag)(mg:AB)(base:Heap)(c:Bool)(k:Nat)(f:Addr)(fd:FuncData)(ps:List Str)(sp:Sp):Prop where
 len:∀vs H Q E,sp vs H Q E->vs.length=ps.length
 run:∀(A:Around) (outer:List Env) (s:Shared) (H:Hp) (args:Args) (us:List Value) (vs:List V) (Q:VK) (E:XK),RoomC c k A->Env0 P w K mg base A outer s H->BindsTo s fd args (ps.zip us)->Vals vs us->sp vs H Q E->
  codeAny (model P w) A (.call (.ref f) args) (CR (CXr P w) outer P w H s Q E) s
abbrev Eg(c:Bool)(P:Program)(w:World)(K:Frag)(mg:AB)(base:Heap)(N:List Str)(qual:Str)(scope:Scope)(f:Addr)(cd:Value)(A:Around)(outer:List Env)(s:Shared)(H:Hp)(E:XK):Cx:=
 {En (CXr P w) P w K mg base N qual scope f cd A outer s H E with calm:=c}
def bs_2{c:Bool}{P:Program}{w:World}{N ps:List Str}{qual:Str}{scope:Scope}{f:Addr}{cd:Value}{A:Around}{outer:List Env}{s s1:Shared}{E:XK}{vs:List V}
  (S:FnScope N ps scope) (hd:c=true->A.handled=none) (e0:Env0 P w K mg base A outer s H) (hl:vs.length=ps.length) (r:Vals vs us)
  (x:InCallC s s.heap.objs.size (bindL (envOfC qual scope s.heap.objs.size f cd).kindOf (ps.zip us) λ_=>none) (cellsFrom (s.heap.objs.size + 1) scope.names []) (bindC (envOfC qual scope s.heap.objs.size f cd).kindOf (ps.zip us) λ_=>none) s1):
  Inv (Eg c P w K mg base N qual scope f cd A outer s H E) [] (p_7 N vs) H s1:=by
 have I:=cc_2 (CX:=CXr P w) (E:=E) (qual:=qual) (f:=f) (cd:=cd) (A:={A with handled:=none}) S rfl ⟨e0.frames,e0.mod,e0.bs,e0.bsz,e0.funs,e0.frf,e0.hok,e0.bare,e0.tb⟩ hl r x;exact⟨⟨I.ok.mod,I.ok.kind,I.ok.glob,I.ok.blt,I.ok.above,I.ok.inj,I.ok.has,I.ok.cab,hd,W8 e0.frames,I.ok.stk,I.ok.exf,I.ok.bs,I.ok.bsz,I.ok.noex,I.ok.exfs,I.ok.funs,I.ok.frf,I.ok.tb⟩,
  I.os,I.bare,I.base,I.loc,I.cell,I.free,I.freeC,I.pin,I.hok,I.len⟩
def ck_2{c:Bool}{P:Program}{w:World}{k:Nat}{f:Addr}{name qual:Str}{params:Arguments}{body:List Stmt}{scope:Scope}{dV kV doc pm zp ct oc:Value}{an od:Option Addr}
  {osl:Array (Option Value)} {N ps:List Str} {sp:Sp} (lk:K.lookup f=some ⟨oc,od,.func (fnOf name qual params body scope dV kV doc pm an zp ct),osl⟩) (hcd:codeIn K zp qual=true) (S:FnScope N ps scope)
  (len:∀vs H Q E,sp vs H Q E->vs.length=ps.length)
  (zj:∀(A:Around) (outer:List Env) (s:Shared) (H:Hp) (vs:List V) (Q:VK) (E:XK),RoomC c k (A.deeper (envOfC qual scope s.heap.objs.size f zp))->sp vs H Q E->
   ∃t,PSs (Eg c P w K mg base N qual scope f zp A outer s H E) body t/\t {nx:=λ_ H'=>Q .non H',rt:=Q} (p_7 N vs) H):
  FnX P w K mg base c (k + 1) f (fnOf name qual params body scope dV kV doc pm an zp ct) ps sp:=by
 refine⟨len,λA outer s H args us vs Q E hr e0 hb r hsp=> ?_⟩;have hl:=len _ _ _ _ hsp;have KX:K.In s.heap:=e0.mod.kin.keeps λb o e=>(e0.bs b o e).1;have lim:s.heap.NoLimit:=e0.mod.nolimit.keeps λb o e=>(e0.bs b o e).1;have cu:∀y∈ps.zip us,scope.names.lookup y.1=some .local\/(scope.names.lookup y.1=some .cell/\((cellsFrom (s.heap.objs.size + 1) scope.names []).lookup y.1).isSome=true):=λ⟨n,v⟩ hy=>by
  rcases S.par n (ZC4 hy).1 with q|q
  ·exact .inl q
  ·exact .inr ⟨q,ZD0 _ _ _ (.inl q)⟩
 have dp:A.depth < recursionLimit:=by have:=hr.dp;omega
 refine codeAny_call_function dp (KX _ _ lk) rfl S.co S.gen rfl (codeRec_of KX hcd) (hb _ _ _ _ ?_);refine wpAny_newFunctionEnv_cells S.kind cu λenv he s1 x=> ?_;subst he;refine⟨lim.keeps x.toInCall.keep,codeAny_func ?_⟩;obtain⟨t,ht,hq⟩:=zj A outer s H vs Q E (hr.deeper _) hsp;have I:Inv (Eg c P w K mg base N qual scope f zp A outer s H E) [] (p_7 N vs) H s1:=bs_2 S hr.hd e0 hl r x;refine D1 (ht [] s1 (p_7 N vs) H _ I hq) (λfl s' hs=> ?_) λe s' hs=>hs;have fin:∀{σ':Sg} {H':Hp} {v:V} {u:Value},Inv (Eg c P w K mg base N qual scope f zp A outer s H E) [] σ' H' s'->RelV v u->Q v H'->CE outer P w H s Q u s':=
  λ{σ' H' v u} J rv q=>⟨v,H',J.os,J.bare,J.base,J.hok,rv,q⟩
 cases fl with
 |ret u=>
  obtain⟨v,σ',H',J,rv,q⟩:=hs;exact fin J rv q
 |next=>
  obtain⟨σ',H',J,q⟩:=hs;exact fin (v:=V.non) (u:=Value.none) J rfl q
 |brk=>
  obtain⟨_,_,_,q⟩:=hs;exact False.elim q
 |cont=>
  obtain⟨_,_,_,q⟩:=hs;exact False.elim q
def Fun.okX{c:Bool}{P:Program}{w:World}{x qual:Str}{st:Stmt}{f:Addr}{N ps:List Str}{k:Nat}{sp:Sp}(F:Fun K x qual st f fd)(S:FnScope N ps (Cc st))(len:∀vs H Q E,sp vs H Q E->vs.length=ps.length)
  (zj:∀(zp:Value) (A:Around) (outer:List Env) (s:Shared) (H:Hp) (vs:List V) (Q:VK) (E:XK),RoomC c k (A.deeper (envOfC qual (Cc st) s.heap.objs.size f zp))->sp vs H Q E->
   ∃t,PSs (Eg c P w K mg base N qual (Cc st) f zp A outer s H E) (Fs st) t/\t {nx:=λ_ H'=>Q .non H',rt:=Q} (p_7 N vs) H):FnX P w K mg base c (k + 1) f fd ps sp:=by
 obtain⟨oc,od,kV,doc,pm,an,zp,ct,osl,rfl,lk,hcd⟩:=F.ex;exact ck_2 lk hcd S len λA outer s H vs Q E hr hsp=>zj zp A outer s H vs Q E hr hsp
def Lk(X:Cx)(EX:Az):Prop:=∀(zd:AE) (σ:Sg) (H:Hp) (s:Shared) (e:Value) (s':Shared),Inv X zd σ H s->CXr X.prog X.w X.stack H s (EXE X.K (EX σ)) e s'->X.xe e s'
def o_6:Lk X Ds:=λzd σ H s e s' I c=>by
 obtain⟨a,C,dx,T,H',_,_,_,_,_,_,_,_,_,_,x,G,_,_,q⟩:=c;exact False.elim q
def bs_3{c:Bool}{P:Program}{w:World}{N:List Str}{qual:Str}{scope:Scope}{f:Addr}{cd:Value}{A:Around}{outer:List Env}{s:Shared}{E:XK}:
  Lk (Eg c P w K mg base N qual scope f cd A outer s H E) (λ_=>EXof K E):=λzd σ H s e s' I h=>cc_8 I h λcls dx H' q=>q.of
def Br(K:Frag)(n:Nat)(F:AF):Sp:=λvs H Q E=>vs.length=n/\∃G ds,Same G H/\HasL K G vs ds/\Out K (EXof K E) G H (F ds) Q
def Bc(n:Nat)(F:AF)(fa:FA):FE:=λ δ=>(fa δ).bind λds=>if ds.length=n then F ds else .no
def FnD(P:Program)(w:World)(K:Frag)(mg:AB)(base:Heap)(c:Bool)(x:Str)(k:Nat)(ps:List Str)(F:AF):Prop:=
 ∃f fd,FnX P w K mg base c k f fd ps (Br K ps.length F)/\mg x=some (.ref f)/\keepIn K (.ref f)=true/\Binds K fd ps []
section
variable{X:Cx}{EX:Az}{e:Expr}{es:List Expr}{fa:FA}{x:Str}{pp pos:Pos}{c:Bool}{k k':Nat}{ps:List Str}{F:AF}
def an_9{zd:AE}{σ:Sg}{s:Shared}{Q:VK}{vs:List V}{f:Addr}{sp:Sp}(F:FnX X.prog X.w X.K X.mg X.base c k f fd ps sp)(hr:RoomC c k X.A)(hb:Binds X.K fd ps [])(lk:Lk X EX)
  (I:Inv X zd σ H s) (r:Vals vs us) (h:sp vs H Q (EXE X.K (EX σ))):wpAny (model X.prog X.w) X.A (call (.ref f) us) (EP X zd σ Q) X.xe s:=by
 have hl:us.length=ps.length:=by rw[<-r.length];exact F.len _ _ _ _ h
 have hb':=hb s us I.kIn (by rw[D7];exact hl);rw[D7]at hb';refine T9 (R7 (F.run X.A X.stack s H ⟨us,[]⟩ us vs Q _ hr I.env0 hb' r h) λr s' hq=> ?_);cases r with
 |error e=>exact lk zd σ H s e s' I hq
 |ok fl=>
  cases fl with
  |ret u=>exact I.after hq
  |next=>exact False.elim hq
  |brk=>exact False.elim hq
  |cont=>exact False.elim hq
def Bm(hr:RoomC c k' X.A)(lk:Lk X EX)(h:FnD X.prog X.w X.K X.mg X.base c x k ps F)(ha:AD X EX (e::es) fa)(hk:k<=k':=by decide)(hg:Gl X x:=by rfl)(hdb:AG x:=by decide)
  (he:starEach (e::es) X.env=(false,eval e X.env)::starEach es X.env:=by rfl) (hpl:(backTo pos (starEach es X.env)).any (·.1)=false:=by rfl):
  ED X EX (.Call (.Name x pp) (e::es) [] pos) (Bc ps.length F fa):=by
 obtain⟨f,fd,ok,hm,kp,hb⟩:=h;intro zd s σ H Q I q;obtain⟨G,δ,g0,s0,o⟩:=q;refine O0 (s_1 I hg hm ?_ hdb);have ta:tDa X.K EX fa σ H λvs H1=>Br X.K ps.length F vs H1 Q (EXE X.K (EX σ)):=by
  refine tDa.seq g0 s0 o λds vs G' H' _ st r o'=> ?_
  split at o'
  ·rename_i hl;refine⟨by rw[r.length];exact hl,G',ds,st.gh,r, ?_⟩;cases q:F ds with
   |ok w=>rw[q]at o';exact o'
   |ex x=>rw[q]at o';exact EXof.in o'
   |no=>rw[q]at o';exact o'.elim
  ·exact o'.elim
 refine Y2 (h₀:=X.base) I.ok.mod.kin kp (Ax (ha pos zd s σ H _ I ta) λus s1 ⟨vs,H1,I1,r,q⟩=>⟨I1.kIn, ?_⟩) he hpl;exact an_9 ok (hr.mono hk) hb lk I1 r q
end
inductive Sl where
 |no|sh (d:D)|ow (d:D)|tr (t:Tn)|lk (d:D)|lt (t:Tn)
abbrev SE:=List Sl
inductive Fl where
 |nx (Δ:SE)|rt (w:W)|bk (Δ:SE)|ct (Δ:SE)|ex (x:Xn) (Δ:SE)|rv (d:D) (Δ:SE)|no
abbrev FS:=SE->Fl
def Sl.pub:Sl->Option D
 | .sh d=>some d
 |_=>none
def Sl.any:Sl->Option D
 | .sh d=>some d
 | .ow d=>some d
 | .tr t=>some t.d
 | .lk d=>some d
 | .lt t=>some t.d
 | .no=>none
def Sl.give:Sl->Sl
 | .ow d=> .sh d
 | .tr t=> .sh t.d
 |s=>s
def Sl.own:Sl->Option Tn
 | .ow d=>some (Tn.of d)
 | .tr t=>some t
 | .lk d=>some (Tn.of d)
 | .lt t=>some t
 |_=>none
def Bf(Δ:SE):DE:=Δ.map Sl.pub
def Au(Δ:SE):DE:=Δ.map Sl.any
def gall(Δ:SE):SE:=Δ.map Sl.give
abbrev OS:=Nat->AS
structure HB where
 h:Hp
 b:Nat->Addr
structure Ev(K:Frag)(H0:HB)(G0 G H:Hp)(σ:Sg)(Δ:SE)(A:OS):Prop where
 st:Step G0 H0.h G H
 len:σ.length=Δ.length
 sh:∀(i:Nat) (d:D),Δ[i]? =some (.sh d)->∃v,σ[i]? =some (some v)/\Has K G v d
 ow:∀(i:Nat) (s:Sl) (t:Tn),Δ[i]? =some s->s.own=some t->∃v,σ[i]? =some (some v)/\Ow K G H v t (A i)
 out:∀(i:Nat) (a:Addr),A i a->G a=none/\H0.h a=none/\H a≠none
 dj:∀(i j:Nat) (a:Addr),A i a->A j a->i=j
 lk:∀(i:Nat) (d:D),Δ[i]? =some (.lk d)->σ[i]? =some (some (.ref (H0.b i)))
 lt:∀(i:Nat) (t:Tn),Δ[i]? =some (.lt t)->σ[i]? =some (some (.ref (H0.b i)))
def x_5(G H:Hp)(A:OS):Hp:=Cu G H λb=>∃i,A i b
structure MStep(S:AS)(G H G' H':Hp):Prop where
 hh:∀b o,¬S b->H b=some o->H' b=some o
 al:∀b,H b≠none->H' b≠none
 gh:Same G' H'
 gg:Same G G'
 nw:∀b,G b=none->H b≠none->G' b=none
structure MStep2(S:AS)(G H G' H':Hp):Prop where
 hh:∀b o,¬S b->H b=some o->H' b=some o
 gh:Same G' H'
 gg:Same G G'
 nw:∀b,¬S b->G b=none->H b≠none->G' b=none
def MStep.weak{S:AS}{G H G' H':Hp}(m:MStep S G H G' H'):MStep2 S G H G' H':=⟨m.hh,m.gh,m.gg,λb _=>m.nw b⟩
def Step.m{S:AS}{G H G' H':Hp}(s:Step G H G' H'):MStep S G H G' H':=⟨λb o _ q=>s.hh b o q,λb n z=>n (s.hh.free z),s.gh,s.gg,s.nw⟩
def MStep.andThen{S:AS}{G H G1 H1 G2 H2:Hp}(a:MStep S G H G1 H1)(b:Step G1 H1 G2 H2):MStep S G H G2 H2:=
 ⟨λc o n q=>b.hh c o (a.hh c o n q),λc n z=>a.al c n (b.hh.free z),b.gh,a.gg.trans b.gg,λc e n=>b.nw c (a.nw c e n) (a.al c n)⟩
def MStep.write{S:AS}{G H:Hp}(g:Same G H){a:Addr}(hs:S a)(n:G a=none)(o:HO):MStep S G H G (L2.upd H a o):=
 ⟨λb o' nb q=>by rw[Aq (λz=>nb (by rw[z];exact hs))];exact q,λb nb=>by
  by_cases z:b=a
  ·subst z;rw[Bp];simp
  ·rw[Aq z];exact nb,λb o' q=>by
  by_cases z:b=a
  ·subst z;rw[n]at q;cases q
  ·rw[Aq z];exact g b o' q,Same.refl _,λ_ e _=>e⟩
def Ey(A:OS)(i:Nat)(S:AS):OS:=λj=>if j=i then S else A j
def h_6{A:OS}{i:Nat}{S:AS}:Ey A i S i=S:=if_pos rfl
def h_3{A:OS}{i j:Nat}{S:AS}(h:j≠i):Ey A i S j=A j:=if_neg h
section
variable{K:Frag}{H0:HB}{G0 G H G' H':Hp}{σ:Sg}{Δ:SE}{A:OS}
def Ev.gsh(E:Ev K H0 G0 G H σ Δ A):HasS K G σ (Bf Δ):=⟨by rw[E.len];unfold Bf;rw[A3],λi d q=>by
 unfold Bf at q;rw[B3]at q;cases e:Δ[i]? with
 |none=>rw[e]at q;cases q
 |some z=>
  rw[e]at q;cases z with
  |sh d'=>cases q;exact E.sh i d e
  |_=>cases q⟩
def Ev.aH(E:Ev K H0 G0 G H σ Δ A):Same (x_5 G H A) H:=λb o q=>by
 unfold x_5 Cu at q
 split at q
 ·exact q
 ·exact E.st.gh b o q
def Ev.aG(E:Ev K H0 G0 G H σ Δ A):Same G (x_5 G H A):=λb o q=>by
 unfold x_5 Cu
 split
 ·rename_i hb;obtain⟨i,hb⟩:=hb;rw[(E.out i b hb).1]at q;cases q
 ·exact q
def Ev.aStep(E:Ev K H0 G0 G H σ Δ A):Step G0 H0.h (x_5 G H A) H:=
 ⟨E.st.hh,E.aH,E.st.gg.trans E.aG,λb n z=>by
  unfold x_5 Cu
  split
  ·rename_i hb;obtain⟨i,hb⟩:=hb;exact absurd (E.out i b hb).2.1 z
  ·exact E.st.nw b n z⟩
def Ev.aIn{A:OS}{G H:Hp}{i:Nat}{b:Addr}{o:HO}(hb:A i b)(q:H b=some o):x_5 G H A b=some o:=by
 unfold x_5 Cu;rw[if_pos ⟨i,hb⟩];exact q
def Ev.gall(E:Ev K H0 G0 G H σ Δ A):HasS K (x_5 G H A) σ (Au Δ):=⟨by rw[E.len];unfold Au;rw[A3],λi d q=>by
 unfold Au at q;rw[B3]at q;cases e:Δ[i]? with
 |none=>rw[e]at q;cases q
 |some z=>
  rw[e]at q;cases z with
  |sh d'=>
   cases q;obtain⟨v,e1,r⟩:=E.sh i d e;exact⟨v,e1,r.mono E.aG⟩
  |ow d'=>
   cases q;obtain⟨v,e1,t⟩:=E.ow i _ _ e rfl;have r:=t.has E.aG λb o hb q=>Ev.aIn hb q;rw[Tn.of_d]at r;exact⟨v,e1,r⟩
  |tr t'=>
   cases q;obtain⟨v,e1,t⟩:=E.ow i _ _ e rfl;exact⟨v,e1,t.has E.aG λb o hb q=>Ev.aIn hb q⟩
  |lk d'=>
   cases q;obtain⟨v,e1,t⟩:=E.ow i _ _ e rfl;have r:=t.has E.aG λb o hb q=>Ev.aIn hb q;rw[Tn.of_d]at r;exact⟨v,e1,r⟩
  |lt t'=>
   cases q;obtain⟨v,e1,t⟩:=E.ow i _ _ e rfl;exact⟨v,e1,t.has E.aG λb o hb q=>Ev.aIn hb q⟩
  |no=>cases q⟩
def Ev.grow(E:Ev K H0 G0 G H σ Δ A)(s:Step G H G' H'):Ev K H0 G0 G' H' σ Δ A:=
 ⟨E.st.trans s,E.len,λi d e=>let⟨v,e1,r⟩:=E.sh i d e;⟨v,e1,r.mono s.gg⟩,λi z d e z'=>let⟨v,e1,t⟩:=E.ow i z d e z';⟨v,e1,t.mono s.gg (λb o _ q=>s.hh b o q) λ_ q=>q⟩,
  λi a ha=>let⟨h1,h2,h3⟩:=E.out i a ha;⟨s.nw a h1 h3,h2,λz=>h3 (s.hh.free z)⟩,E.dj,E.lk,E.lt⟩
def Ev.keep(E:Ev K H0 G0 G H σ Δ A)(s:Same H H'):Ev K H0 G0 G H' σ Δ A:=
 E.grow ⟨s,E.st.gh.trans s,Same.refl _,λ_ n _=>n⟩
def Fd{α:Type}{l:List α}{i j:Nat}{x y:α}(h:(l.set i x)[j]? =some y):(i=j/\y=x)\/(i≠j/\l[j]? =some y):=by
 by_cases e:i=j
 ·subst e;rw[List.getElem?_set]at h;simp only[if_true]at h
  split at h
  ·exact .inl ⟨rfl,(K4 h).symm⟩
  ·cases h
 ·rw[C8 e]at h;exact .inr ⟨e,h⟩
def bs_4{α:Type}{l:List α}{i:Nat}{x y:α}(h:(l.set i x)[i]? =some y):i < l.length:=by
 by_cases hh:i < l.length
 ·exact hh
 ·rw[D5 (by rw[F9];omega)]at h;cases h
def Ev.put(E:Ev K H0 G0 G H σ Δ A){i:Nat}{v:V}{d:D}(r:Has K G v d):Ev K H0 G0 G H (σ.set i (some v)) (Δ.set i (.sh d)) A:=by
 refine⟨E.st,by rw[F9,F9];exact E.len,λj d' e=> ?_,λj z d' e zo=> ?_,E.out,E.dj,λj d' e=> ?_,λj d' e=> ?_⟩
 ·rcases Fd e with⟨rfl,q⟩|⟨n,q⟩
  ·cases q;exact⟨v,by rw[F6 (by rw[E.len];exact bs_4 e)],r⟩
  ·obtain⟨v',e1,r'⟩:=E.sh j d' q;exact⟨v',by rw[C8 n];exact e1,r'⟩
 ·rcases Fd e with⟨rfl,q⟩|⟨n,q⟩
  ·subst q;cases zo
  ·obtain⟨v',e1,t⟩:=E.ow j z d' q zo;exact⟨v',by rw[C8 n];exact e1,t⟩
 ·rcases Fd e with⟨rfl,q⟩|⟨n,q⟩
  ·cases q
  ·rw[C8 n];exact E.lk j d' q
 ·rcases Fd e with⟨rfl,q⟩|⟨n,q⟩
  ·cases q
  ·rw[C8 n];exact E.lt j d' q
def Ev.putO(E:Ev K H0 G0 G H σ Δ A){i:Nat}{v:V}{z:Sl}{d:Tn}{S:AS}(fr:∀a,S a->H0.h a=none/\G a=none/\H a≠none)(zo:z.own=some d)(zl:∀d,z≠ .lk d)(t:Ow K G H v d S)(nw:∀j a,A j a->¬S a)(zt:∀d,z=.lt d->v=.ref (H0.b i):=by intro _ z;cases z):
  Ev K H0 G0 G H (σ.set i (some v)) (Δ.set i z) (Ey A i S):=by
 refine⟨E.st,by rw[F9,F9];exact E.len,λj d' e'=> ?_,λj z' d' e' zo'=> ?_,λj a ha=> ?_,λj j' a h1 h2=> ?_,λj d' e'=> ?_,λj d' e'=> ?_⟩
 ·rcases Fd e' with⟨rfl,q⟩|⟨nn,q⟩
  ·subst q;cases zo
  ·obtain⟨v',e1,r'⟩:=E.sh j d' q;exact⟨v',by rw[C8 nn];exact e1,r'⟩
 ·rcases Fd e' with⟨rfl,q⟩|⟨nn,q⟩
  ·subst q;rw[zo]at zo';cases zo';exact⟨v,by rw[F6 (by rw[E.len];exact bs_4 e')],by rw[h_6];exact t⟩
  ·obtain⟨v',e1,x⟩:=E.ow j z' d' q zo';exact⟨v',by rw[C8 nn];exact e1,by rw[h_3 (Ne.symm nn)];exact x⟩
 ·by_cases z:j=i
  ·subst z;rw[h_6]at ha;obtain⟨a1,a2,a3⟩:=fr a ha;exact⟨a2,a1,a3⟩
  ·rw[h_3 z]at ha;exact E.out j a ha
 ·by_cases z:j=i
  ·by_cases z':j'=i
   ·rw[z,z']
   ·rw[z,h_6]at h1;rw[h_3 z']at h2;exact absurd h1 (nw j' a h2)
  ·by_cases z':j'=i
   ·rw[h_3 z]at h1;rw[z',h_6]at h2;exact absurd h2 (nw j a h1)
   ·rw[h_3 z]at h1;rw[h_3 z']at h2;exact E.dj j j' a h1 h2
 ·rcases Fd e' with⟨rfl,q⟩|⟨nn,q⟩
  ·exact absurd q.symm (zl d')
  ·rw[C8 nn];exact E.lk j d' q
 ·rcases Fd e' with⟨rfl,q⟩|⟨nn,q⟩
  ·rw[F6 (by rw[E.len];exact bs_4 e'),zt d' q.symm]
  ·rw[C8 nn];exact E.lt j d' q
def Ev.step2(E:Ev K H0 G0 G H σ Δ A){i:Nat}{v:V}{z:Sl}{d':Tn}{S:AS}(zo:z.own=some d')(zl:∀d,z≠ .lk d)(zt:∀d,z=.lt d->σ[i]? =some (some (.ref (H0.b i))))(ms:MStep2 (A i) G H G' H')(s:σ[i]? =some (some v))(fr:∀a,S a->(A i a\/H a=none)/\G' a=none/\H' a≠none)(t:Ow K G' H' v d' S):
  Ev K H0 G0 G' H' σ (Δ.set i z) (Ey A i S):=by
 have st:Step G0 H0.h G' H':=⟨λb o q=>ms.hh b o (λhb=>by rw[(E.out i b hb).2.1]at q;cases q) (E.st.hh b o q),ms.gh,E.st.gg.trans ms.gg,
  λb n z=>ms.nw b (λhb=>z (E.out i b hb).2.1) (E.st.nw b n z) λq=>z (E.st.hh.free q)⟩
 refine⟨st,by rw[F9];exact E.len,λj d2 e'=> ?_,λj z' d2 e' zo'=> ?_,λj a ha=> ?_,λj j' a h1 h2=> ?_,λj d2 e'=> ?_,λj d2 e'=> ?_⟩
 ·rcases Fd e' with⟨rfl,q⟩|⟨nn,q⟩
  ·subst q;cases zo
  ·obtain⟨v',e1,r'⟩:=E.sh j d2 q;exact⟨v',e1,r'.mono ms.gg⟩
 ·rcases Fd e' with⟨rfl,q⟩|⟨nn,q⟩
  ·subst q;rw[zo]at zo';cases zo';exact⟨v,s,by rw[h_6];exact t⟩
  ·obtain⟨v',e1,x⟩:=E.ow j z' d2 q zo';rw[h_3 (Ne.symm nn)];exact⟨v',e1,x.mono ms.gg (λb o hb q=>ms.hh b o (λhi=>nn (E.dj i j b hi hb)) q) λ_ q=>q⟩
 ·by_cases z:j=i
  ·subst z;rw[h_6]at ha;obtain⟨a1,a2,a3⟩:=fr a ha;refine⟨a2, ?_,a3⟩;rcases a1 with a1|a1
   ·exact(E.out j a a1).2.1
   ·exact E.st.hh.free a1
  ·rw[h_3 z]at ha;obtain⟨h1,h2,h3⟩:=E.out j a ha;have hn:¬A i a:=λhb=>z (E.dj j i a ha hb);refine⟨ms.nw a hn h1 h3,h2,λq=> ?_⟩;cases e:H a with
   |none=>exact h3 e
   |some o=>rw[ms.hh a o hn e]at q;cases q
 ·have own:∀k,k≠i->A k a->¬S a:=λk nk hk hs=>by
   rcases(fr a hs).1 with q|q
   ·exact nk (E.dj k i a hk q)
   ·exact(E.out k a hk).2.2 q
  by_cases z:j=i
  ·by_cases z':j'=i
   ·rw[z,z']
   ·rw[z,h_6]at h1;rw[h_3 z']at h2;exact absurd h1 (own j' z' h2)
  ·by_cases z':j'=i
   ·rw[h_3 z]at h1;rw[z',h_6]at h2;exact absurd h2 (own j z h1)
   ·rw[h_3 z]at h1;rw[h_3 z']at h2;exact E.dj j j' a h1 h2
 ·rcases Fd e' with⟨rfl,q⟩|⟨nn,q⟩
  ·exact absurd q.symm (zl d2)
  ·exact E.lk j d2 q
 ·rcases Fd e' with⟨rfl,q⟩|⟨nn,q⟩
  ·exact zt d2 q.symm
  ·exact E.lt j d2 q
def Ev.step(E:Ev K H0 G0 G H σ Δ A){i:Nat}{v:V}{z:Sl}{d':Tn}{S:AS}(zo:z.own=some d')(zl:∀d,z≠ .lk d)(ms:MStep (A i) G H G' H')(s:σ[i]? =some (some v))(fr:∀a,S a->(A i a\/H a=none)/\G' a=none/\H' a≠none)(t:Ow K G' H' v d' S)(zt:∀d,z≠ .lt d:=by intro _ z;cases z):
  Ev K H0 G0 G' H' σ (Δ.set i z) (Ey A i S):=E.step2 zo zl (λd e=>absurd e (zt d)) ms.weak s fr t
def Ev.writeL(E:Ev K H0 G0 G H σ Δ A){i:Nat}{a:Addr}{vs:List V}{ds:List D}(s:σ[i]? =some (some (.ref a)))(m:A i a)(r:HasL K G vs ds):Ev K H0 G0 G (upd H a (.lst vs)) σ (Δ.set i (.ow (.lst ds))) (Ey A i (A i)):=
 have ms:=MStep.write E.st.gh m (E.out i a m).1 (.lst vs)
 E.step rfl (λ_ z=>by cases z) ms s (λb hb=>⟨.inl hb,(E.out i b hb).1,ms.al b (E.out i b hb).2.2⟩) (Ow.list Bp m r)
def Ev.writeD(E:Ev K H0 G0 G H σ Δ A){i:Nat}{a:Addr}{kvs:List (Ak×V)}{kds:List (Ak×D)}(s:σ[i]? =some (some (.ref a)))(m:A i a)(hk:kvs.map (·.1)=kds.map (·.1))(r:HasL K G (kvs.map (·.2)) (kds.map (·.2))):Ev K H0 G0 G (upd H a (.dK kvs)) σ (Δ.set i (.ow (.dic kds))) (Ey A i (A i)):=
 have ms:=MStep.write E.st.gh m (E.out i a m).1 (.dK kvs)
 E.step rfl (λ_ z=>by cases z) ms s (λb hb=>⟨.inl hb,(E.out i b hb).1,ms.al b (E.out i b hb).2.2⟩) (Ow.dict Bp hk m r)
end
def give1(Δ:SE)(j:Nat):SE:=match Δ[j]? with
 |some s=>Δ.set j s.give
 |none=>Δ
def gsome(js:List Nat)(Δ:SE):SE:=js.foldl give1 Δ
section
variable{K:Frag}{H0:HB}{G0 G H:Hp}{σ:Sg}{Δ:SE}{A:OS}
def y_0{α:Type}{l:List α}{j:Nat}{x:α}(h:l[j]? =some x):l.set j x=l:=by
 apply N2;intro i
 by_cases e:j=i
 ·subst e;have hlt:j < l.length:=(B2.mp h).1;rw[F6 hlt,h]
 ·rw[C8 e]
def Ev.give3(E:Ev K H0 G0 G H σ Δ A){j:Nat}{z:Sl}{t:Tn}(e:Δ[j]? =some z)(zo:z.own=some t):Same G (Cu G H (A j))/\Ev K H0 G0 (Cu G H (A j)) H σ (Δ.set j (.sh t.d)) (Ey A j λ_=>False):=by
   obtain⟨v,s1,t⟩:=E.ow j z t e zo;have sg:Same G (Cu G H (A j)):=λb o q=>by
    unfold Cu
    split
    ·rename_i hb;rw[(E.out j b hb).1]at q;cases q
    ·exact q
   have gh:Same (Cu G H (A j)) H:=λb o q=>by
    unfold Cu at q
    split at q
    ·exact q
    ·exact E.st.gh b o q
   refine⟨sg,⟨E.st.hh,gh,E.st.gg.trans sg,λb h1 h2=> ?_⟩,by rw[F9];exact E.len,λi d' e'=> ?_,λi z' d' e' zo'=> ?_,λi b hb=> ?_,λi i' b h1 h2=> ?_,λi d' e'=> ?_,λi d' e'=> ?_⟩
   ·unfold Cu
    split
    ·rename_i hb;exact absurd (E.out j b hb).2.1 h2
    ·exact E.st.nw b h1 h2
   ·rcases Fd e' with⟨rfl,q⟩|⟨n,q⟩
    ·cases q;refine⟨v,s1,t.has sg λb o hb q=> ?_⟩;unfold Cu;rw[if_pos hb];exact q
    ·obtain⟨v',e1,r⟩:=E.sh i d' q;exact⟨v',e1,r.mono sg⟩
   ·rcases Fd e' with⟨rfl,q⟩|⟨n,q⟩
    ·subst q;cases zo'
    ·obtain⟨v',e1,t'⟩:=E.ow i z' d' q zo';rw[h_3 (Ne.symm n)];exact⟨v',e1,t'.mono sg (λb o _ q=>q) λ_ q=>q⟩
   ·by_cases z:i=j
    ·subst z;rw[h_6]at hb;exact hb.elim
    ·rw[h_3 z]at hb;obtain⟨k1,k2,k3⟩:=E.out i b hb;refine⟨?_,k2,k3⟩;unfold Cu;rw[if_neg λq=>z (E.dj i j b hb q)];exact k1
   ·by_cases z:i=j
    ·subst z;rw[h_6]at h1;exact h1.elim
    ·by_cases z':i'=j
     ·subst z';rw[h_6]at h2;exact h2.elim
     ·rw[h_3 z]at h1;rw[h_3 z']at h2;exact E.dj i i' b h1 h2
   ·rcases Fd e' with⟨rfl,q⟩|⟨n,q⟩
    ·cases q
    ·exact E.lk i d' q
   ·rcases Fd e' with⟨rfl,q⟩|⟨n,q⟩
    ·cases q
    ·exact E.lt i d' q
def Ev.give2(E:Ev K H0 G0 G H σ Δ A){j:Nat}{z:Sl}{t:Tn}(e:Δ[j]? =some z)(zo:z.own=some t):∃G' A',Same G G'/\Ev K H0 G0 G' H σ (Δ.set j (.sh t.d)) A':=⟨_,_,E.give3 e zo⟩
theorem Ev.give1(E:Ev K H0 G0 G H σ Δ A)(j:Nat):∃G' A',Same G G'/\Ev K H0 G0 G' H σ (L3.give1 Δ j) A':=by
 unfold L3.give1;cases e:Δ[j]? with
 |none=>exact⟨G,A,Same.refl _,E⟩
 |some s=>
  cases s with
  |no=>exact⟨G,A,Same.refl _,by show Ev K H0 G0 G H σ (Δ.set j .no) A;rw[y_0 e];exact E⟩
  |sh d=>exact⟨G,A,Same.refl _,by show Ev K H0 G0 G H σ (Δ.set j (.sh d)) A;rw[y_0 e];exact E⟩
  |ow d=>
   have:=E.give2 e (t:=Tn.of d) rfl;rw[Tn.of_d]at this;exact this
  |tr t=>exact E.give2 e rfl
  |lk d=>exact⟨G,A,Same.refl _,by show Ev K H0 G0 G H σ (Δ.set j (.lk d)) A;rw[y_0 e];exact E⟩
  |lt t=>exact⟨G,A,Same.refl _,by show Ev K H0 G0 G H σ (Δ.set j (.lt t)) A;rw[y_0 e];exact E⟩
theorem Ev.gsome:∀(js:List Nat) {G:Hp} {Δ:SE} {A:OS},Ev K H0 G0 G H σ Δ A->∃G' A',Same G G'/\Ev K H0 G0 G' H σ (L3.gsome js Δ) A'
 | [],G,Δ,A,E=>⟨G,A,Same.refl _,E⟩
 |j::js,G,Δ,A,E=>by
  obtain⟨G1,A1,s1,E1⟩:=E.give1 j;obtain⟨G2,A2,s2,E2⟩:=Ev.gsome js E1;exact⟨G2,A2,s1.trans s2,E2⟩
end
def Fin(K:Frag)(EX:Az)(H0:HB)(G0 G1:Hp)(D:Ends):Fl->Prop
 | .nx Δ=>∀σ G H O,Ev K H0 G0 G H σ Δ O->Same G1 G->D.nx σ H
 | .bk Δ=>∀σ G H O,Ev K H0 G0 G H σ Δ O->Same G1 G->D.bk σ H
 | .ct Δ=>∀σ G H O,Ev K H0 G0 G H σ Δ O->Same G1 G->D.ct σ H
 | .rt w=>WP K G0 H0.h w D.rt
 | .rv d Δ=>∀v σ G H O,Ev K H0 G0 G H σ Δ O->Same G1 G->Has K G v d->D.rt v H
 | .ex x Δ=>∀σ G H O,Ev K H0 G0 G H σ Δ O->Same G1 G->(EX σ).p x G H
 | .no=>False
def Fin.mono{EX:Az}{H0:HB}{G0 G1 G2:Hp}{D:Ends}{r:Fl}(s:Same G1 G2)(h:Fin K EX H0 G0 G1 D r):Fin K EX H0 G0 G2 D r:=by
 cases r with
 |nx Δ=>exact λ σ G H O E q=>h σ G H O E (s.trans q)
 |bk Δ=>exact λ σ G H O E q=>h σ G H O E (s.trans q)
 |ct Δ=>exact λ σ G H O E q=>h σ G H O E (s.trans q)
 |rt w=>exact h
 |rv d Δ=>exact λv σ G H O E q=>h v σ G H O E (s.trans q)
 |ex x Δ=>exact λ σ G H O E q=>h σ G H O E (s.trans q)
 |no=>exact h
def tS(K:Frag)(EX:Az)(g:FS):TS:=λD σ H=>∃H0 G0 G Δ O,Ev K H0 G0 G H σ Δ O/\Fin K EX H0 G0 G D (g Δ)
abbrev SD(X:Cx)(EX:Az)(st:Stmt)(g:FS):Prop:=PS X st (tS X.K EX g)
abbrev BD(X:Cx)(EX:Az)(st:List Stmt)(g:FS):Prop:=PSs X st (tS X.K EX g)
section
variable{X:Cx}{EX:Az}{st:Stmt}{sts:List Stmt}{g h:FS}{pos:Pos}{e:Expr}{f:FE}{p:FT}
def Bi:FS:=λ Δ=> .nx Δ
def Af(g h:FS):FS:=λ Δ=>match g Δ with
 | .nx Δ'=>h Δ'
 |r=>r
def Dx:BD X EX [] Bi:=PSs.imp cu_1 λD σ H ⟨H0,G0,G,Δ,O,E,q⟩=>q σ G H O E (Same.refl _)
def Be(h1:SD X EX st g):BD X EX [st] g:=an_7 h1
def Ba(h1:SD X EX st g)(h2:BD X EX sts h):BD X EX (st::sts) (Af g h):=
 PSs.imp (cg_8 h1 h2) λD σ H ⟨H0,G0,G,Δ,O,E,q⟩=>by
  refine⟨H0,G0,G,Δ,O,E, ?_⟩;unfold Af at q;cases e:g Δ with
  |nx Δ'=>rw[e]at q;exact λ σ' G' H' O' E' sm=>⟨H0,G0,G',Δ',O',E',Fin.mono sm q⟩
  |bk Δ'=>rw[e]at q;exact q
  |ct Δ'=>rw[e]at q;exact q
  |rt w=>rw[e]at q;exact q
  |rv d Δ'=>rw[e]at q;exact q
  |ex x Δ'=>rw[e]at q;exact q
  |no=>rw[e]at q;exact q
def exG(js:List Nat)(f:FE)(Δ:SE):Fl:=match f (Bf (gsome js Δ)) with
 | .ex x=> .ex x (gsome js Δ)
 |_=> .no
def exT(js:List Nat)(p:FT)(Δ:SE):Fl:=match p (Bf (gsome js Δ)) with
 | .ex x=> .ex x (gsome js Δ)
 |_=> .no
def bk_6{H0:HB}{G0 G G1 H:Hp}{σ:Sg}{Δ:SE}{O:OS}{D:Ends}{js:List Nat}{Q:VK}(E:Ev K H0 G0 G H σ Δ O)(sg:Same G1 G)(q:Fin K EX H0 G0 G1 D (exG js f Δ)):tD K EX f σ H Q:=by
 obtain⟨G',O',s',E'⟩:=E.gsome js;refine⟨G',Bf (gsome js Δ),E'.st.gh,E'.gsh, ?_⟩;unfold exG at q;cases e:f (Bf (gsome js Δ)) with
 |ok w=>rw[e]at q;exact q.elim
 |ex x=>rw[e]at q;exact q σ G' H O' E' (sg.trans s')
 |no=>rw[e]at q;exact q.elim
def ck_3{H0:HB}{G0 G G1 H:Hp}{σ:Sg}{Δ:SE}{O:OS}{D:Ends}{js:List Nat}{Q:Bool->Hp->Prop}(E:Ev K H0 G0 G H σ Δ O)(sg:Same G1 G)(q:Fin K EX H0 G0 G1 D (exT js p Δ)):tDt K EX p σ H Q:=by
 obtain⟨G',O',s',E'⟩:=E.gsome js;refine⟨G',Bf (gsome js Δ),E'.st.gh,E'.gsh, ?_⟩;unfold exT at q;cases e:p (Bf (gsome js Δ)) with
 |ok w=>rw[e]at q;exact q.elim
 |ex x=>rw[e]at q;exact q σ G' H O' E' (sg.trans s')
 |no=>rw[e]at q;exact q.elim
def Ap(js:List Nat)(f:FE):FS:=λ Δ=>match f (Au Δ) with
 | .ok w=> .rt w
 | .ex _=>exG js f Δ
 | .no=> .no
def Bz(js:List Nat)(he:ED X EX e f):SD X EX (.Return (some e) pos) (Ap js f):=
 PS.imp (cg_9 he) λD σ H ⟨H0,G0,G,Δ,O,E,q⟩=>by
  unfold Ap at q;cases e1:f (Au Δ) with
  |ok w=>
   rw[e1]at q;exact⟨x_5 G H O,Au Δ,E.aH,E.gall,by rw[e1];exact WP.mono E.aStep q⟩
  |ex x=>rw[e1]at q;exact bk_6 E (Same.refl _) q
  |no=>rw[e1]at q;exact q.elim
def By(i:Nat):FS:=λ Δ=>match Δ[i]? with
 |some (.sh d)=> .rt (.sh d)
 |some (.ow d)=> .rt (.ow d)
 |some (.tr t)=> .rt (.tr t)
 |_=> .no
def m_9(i:Nat){x:Str}{pos pos':Pos}(hN:X.N[i]? =some x:=by rfl)(hv:Vis X.env.scope x:=by trivial)(hd:AG x:=by decide)
  (hcd:(x ==("__classdict__" :Str))=false:=by decide):SD X EX (.Return (some (.Name x pos)) pos') (By i):=
 PS.imp (cg_9 (l_5 hN hv hd hcd)) λD σ H ⟨H0,G0,G,Δ,O,E,q⟩=>by
  unfold By at q
  split at q
  ·rename_i d e;obtain⟨v,e1,r⟩:=E.sh i d e;exact⟨v,e1,(WP.mono (w:=.sh d) (Q:=D.rt) E.st q).use E.st.gh r⟩
  ·rename_i d e;obtain⟨v,e1,t⟩:=E.ow i _ _ e rfl;exact⟨v,e1,q v (O i) G H E.st (λa ha=>let⟨h1,h2,h3⟩:=E.out i a ha;⟨h2,h1,h3⟩) t⟩
  ·rename_i d e;obtain⟨v,e1,t⟩:=E.ow i _ _ e rfl;exact⟨v,e1,q v (O i) G H E.st (λa ha=>let⟨h1,h2,h3⟩:=E.out i a ha;⟨h2,h1,h3⟩) t⟩
  ·exact q.elim
def Dv(i:Nat)(Δ:SE):R W->Fl
 | .ok (.sh d)=> .nx (Δ.set i (.sh d))
 | .ok (.ow d)=> .nx (Δ.set i (.ow d))
 | .ok (.tr t)=> .nx (Δ.set i (.tr t))
 | .ex x=> .ex x Δ
 | .no=> .no
def Aj(i:Nat)(js:List Nat)(f:FE):FS:=λ Δ=>match f (Bf Δ) with
 | .ok (.sh d)=> .nx (Δ.set i (.sh d))
 | .ok (.ow d)=> .nx (Δ.set i (.ow d))
 | .ok (.tr t)=> .nx (Δ.set i (.tr t))
 | .ex x=> .ex x Δ
 | .no=>match f (Au Δ) with
  | .ex _=>Dv i (gsome js Δ) (f (Bf (gsome js Δ)))
  | .no=> .no
  | .ok w=>if Ay w.d=true then .nx (Δ.set i (.sh w.d)) else Dv i (gsome js Δ) (f (Bf (gsome js Δ)))
def ao_0{H0:HB}{G0 G G1 H:Hp}{σ:Sg}{Δ:SE}{O:OS}{D:Ends}{i:Nat}(E:Ev K H0 G0 G H σ Δ O)(sg:Same G1 G)
  (q:Fin K EX H0 G0 G1 D (Dv i Δ (f (Bf Δ)))):tAsg (tD K EX f) (ax_5 i) D σ H:=by
 refine⟨G,Bf Δ,E.st.gh,E.gsh, ?_⟩;unfold Dv at q;cases e1:f (Bf Δ) with
 |ok w=>
  rw[e1]at q;cases w with
  |sh d=>exact λv G' H' st r=>q _ G' H' O ((E.grow st).put r) (sg.trans st.gg)
  |ow d=>
   intro v S G' H' st fr t;exact q _ G' H' _ ((E.grow st).putO (λa ha=>⟨E.st.hh.free (fr a ha).1,(fr a ha).2⟩) rfl (λ_ z=>by cases z) t λj a hj hs=>(E.out j a hj).2.2 (fr a hs).1) (sg.trans st.gg)
  |tr d=>
   intro v S G' H' st fr t;exact q _ G' H' _ ((E.grow st).putO (λa ha=>⟨E.st.hh.free (fr a ha).1,(fr a ha).2⟩) rfl (λ_ z=>by cases z) t λj a hj hs=>(E.out j a hj).2.2 (fr a hs).1) (sg.trans st.gg)
 |ex x=>rw[e1]at q;exact q σ G H O E sg
 |no=>rw[e1]at q;exact q
def aq_2{D:Ends}{σ:Sg}{i:Nat}{js:List Nat}(q:tS K EX (Aj i js f) D σ H):tAsg (tD K EX f) (ax_5 i) D σ H:=by
 obtain⟨H0,G0,G,Δ,O,E,q⟩:=q;unfold Aj at q;cases e1:f (Bf Δ) with
 |ok w=>
  rw[e1]at q;refine ao_0 E (Same.refl _) ?_;unfold Dv;rw[e1];cases w <;> exact q
 |ex x=>
  rw[e1]at q;refine ao_0 E (Same.refl _) ?_;unfold Dv;rw[e1];exact q
 |no=>
  rw[e1]at q;cases e2:f (Au Δ) with
  |ok w=>
   simp only[e2]at q
   split at q
   ·rename_i fl;refine⟨x_5 G H O,Au Δ,E.aH,E.gall, ?_⟩;rw[e2];exact WP.intro λv G' H' st r=>q _ G H' O ((E.keep st.hh).put (r.ofFl fl)) (Same.refl _)
   ·obtain⟨G',O',sg,E'⟩:=E.gsome js;exact ao_0 E' sg q
  |ex x=>
   simp only[e2]at q;obtain⟨G',O',sg,E'⟩:=E.gsome js;exact ao_0 E' sg q
  |no=>simp only[e2]at q;exact q.elim
def Bt{i:Nat}(js:List Nat){x:Str}{pos':Pos}(he:ED X EX e f)(hN:X.N.Nodup)(hi:X.N[i]? =some x:=by rfl)(hx:Loc X.env.scope x:=by trivial)(hs:swapsWith e (some (.Name x pos')) pos.line X.env=pure false:=by rfl)
  (hf:X.fn x=true\/X.env.scope.names.lookup x=some .local:=by trivial):SD X EX (.Assign [.Name x pos'] e pos) (Aj i js f):=
 PS.imp (ch_2 hN hi hx he hs hf) λD σ H q=>aq_2 q
def Ej(js:List Nat)(f:FE):FS:=λ Δ=>match f (Au Δ) with
 | .ok _=> .nx Δ
 | .ex _=>exG js f Δ
 | .no=> .no
def be_2(js:List Nat)(he:ED X EX e f)(hs:swapsWith e none pos.line X.env=pure false:=by rfl):SD X EX (.Expr e pos) (Ej js f):=
 PS.imp (z_8 he hs) λD σ H ⟨H0,G0,G,Δ,O,E,q⟩=>by
  unfold Ej at q;cases e1:f (Au Δ) with
  |ok w=>
   rw[e1]at q;exact⟨x_5 G H O,Au Δ,E.aH,E.gall,by rw[e1];exact WP.intro λv G' H' st r=>q σ G H' O (E.keep st.hh) (Same.refl _)⟩
  |ex x=>rw[e1]at q;exact bk_6 E (Same.refl _) q
  |no=>rw[e1]at q;exact q.elim
def Cm(js:List Nat)(p:FT)(g h:FS):FS:=λ Δ=>match p (Au Δ) with
 | .ok b=>if b=true then g Δ else h Δ
 | .ex _=>exT js p Δ
 | .no=> .no
def az_1{H0:HB}{G0 G H:Hp}{σ:Sg}{Δ:SE}{O:OS}{D:Ends}{k:Bool->Fl}{P:Bool->Hp->Prop}{js:List Nat}(E:Ev K H0 G0 G H σ Δ O)
  {G1:Hp} (sg:Same G1 G) (q:Fin K EX H0 G0 G1 D (match p (Au Δ) with| .ok b=>k b| .ex _=>exT js p Δ| .no=> .no)) (i:∀b H',p (Au Δ)=.ok b->Ev K H0 G0 G H' σ Δ O->Fin K EX H0 G0 G1 D (k b)->P b H'):tDt K EX p σ H P:=by
 cases e1:p (Au Δ) with
 |ok b=>rw[e1]at q;exact⟨x_5 G H O,Au Δ,E.aH,E.gall,by rw[e1];exact λG' H' st=>i b H' e1 (E.keep st.hh) q⟩
 |ex x=>rw[e1]at q;exact ck_3 E sg q
 |no=>rw[e1]at q;exact q.elim
def Du(js:List Nat){c:Expr}{as bs:List Stmt}(hc:TD X EX c p)(ha:BD X EX as g)(hb:BD X EX bs h):SD X EX (.If c as bs pos) (Cm js p g h):=
 PS.imp (do_0 hc ha hb) λD σ H ⟨H0,G0,G,Δ,O,E,q⟩=>az_1 (k:=λb=>if b=true then g Δ else h Δ) E (Same.refl _) q λb H' _ E' q'=>by
  cases b with
  |true=>rw[if_pos rfl];exact⟨H0,G0,G,Δ,O,E',q'⟩
  |false=>rw[if_neg A7];exact⟨H0,G0,G,Δ,O,E',q'⟩
def k_3(js:List Nat)(p:FT)(g:FS):Nat->FS
 |0=>λ_=> .no
 |n + 1=>λ Δ=>match p (Au Δ) with
  | .ok b=>if b=true then(match g Δ with
    | .nx Δ'=>k_3 js p g n Δ'
    | .ct Δ'=>k_3 js p g n Δ'
    | .bk Δ'=> .nx Δ'
    |r=>r) else .nx Δ
  | .ex _=>exT js p Δ
  | .no=> .no
def ck_4(js:List Nat)(n:Nat){c:Expr}{body:List Stmt}(hp:PassesOwn (model X.prog X.w) X.A X.env X.xe)(hc:TD X EX c p)(hb:BD X EX body g):SD X EX (.While c body [] pos) (k_3 js p g n):=
 PS.imp (ch_3 hp hc hb) λD σ H ⟨H0,G0,G1,Δ,O,E,q⟩=>by
  refine⟨λm σ H=>∃G Δ O,Ev X.K H0 G0 G H σ Δ O/\Same G1 G/\Fin X.K EX H0 G0 G1 D (k_3 js p g m Δ),⟨n,G1,Δ,O,E,Same.refl _,q⟩, ?_⟩
  rintro m σ H ⟨G,Δ,O,E,sg,q⟩
  cases m with
  |zero=>exact False.elim q
  |succ m=>
   refine az_1 (k:=λb=>if b=true then(match g Δ with| .nx Δ'=>k_3 js p g m Δ'| .ct Δ'=>k_3 js p g m Δ'| .bk Δ'=> .nx Δ'|r=>r) else .nx Δ) E sg q λb H' _ E' q'=> ?_;cases b with
   |false=>rw[if_neg A7];exact q' σ G H' O E' sg
   |true=>
    rw[if_pos rfl];rw[if_pos rfl]at q';refine⟨λ σ' H'=>∃G Δ O,Ev X.K H0 G0 G H' σ' Δ O/\Same G1 G/\Fin X.K EX H0 G0 G1 D (k_3 js p g m Δ),λ σ' H' w=>⟨m,Q7 _,w⟩,H0,G0,G,Δ,O,E', ?_⟩;cases e1:g Δ with
    |nx Δ'=>rw[e1]at q';exact λ σ' G' H' O' E2 s2=>⟨G',Δ',O',E2,sg.trans s2,q'⟩
    |ct Δ'=>rw[e1]at q';exact λ σ' G' H' O' E2 s2=>⟨G',Δ',O',E2,sg.trans s2,q'⟩
    |bk Δ'=>rw[e1]at q';exact Fin.mono (r:=.nx Δ') sg q'
    |rt w=>rw[e1]at q';exact q'
    |rv d Δ'=>rw[e1]at q';exact Fin.mono (r:=.rv d Δ') sg q'
    |ex x Δ'=>rw[e1]at q';exact Fin.mono (r:=.ex x Δ') sg q'
    |no=>rw[e1]at q';exact q'
end
def Av(n:Nat)(ds:List D):SE:=ds.map Sl.sh ++ List.replicate (n - ds.length) .no
def Al(n:Nat)(g:FS)(ds:List D):R W:=match g (Av n ds) with
 | .nx _=> .ok (.sh .non)
 | .rt w=> .ok w
 | .ex x _=> .ex x
 |_=> .no
def bk_7{G H:Hp}{vs:List V}{ds:List D}{N:List Str}(g:Same G H)(r:HasL K G vs ds):Ev K ⟨H,λ_=>0⟩ G G H (p_7 N vs) (Av N.length ds) (λ_ _=>False):=by
 refine⟨Step.refl g, ?_,λi d e=> ?_,λi z d e zo=> ?_,λ_ _ ha=>ha.elim,λ_ _ _ ha=>ha.elim,λi d e=> ?_,λi d e=> ?_⟩
 ·unfold p_7 Av;simp only[B5,A3,G6,r.length]
 ·unfold Av at e
  by_cases hi:i < ds.length
  ·rw[B7 (by rw[A3];exact hi),B3]at e;cases q:ds[i]? with
   |none=>rw[q]at e;cases e
   |some d'=>
    rw[q]at e;cases e;obtain⟨v,e1,h⟩:=r.get q;refine⟨v, ?_,h⟩;unfold p_7;rw[B7 (by rw[A3,r.length];exact hi),B3,e1];rfl
  ·rw[D0 (by rw[A3];omega),E8]at e
   split at e <;> cases e
 ·exfalso;unfold Av at e
  by_cases hi:i < ds.length
  ·rw[B7 (by rw[A3];exact hi),B3]at e;cases q:ds[i]? with
   |none=>rw[q]at e;cases e
   |some d'=>rw[q]at e;cases e;cases zo
  ·rw[D0 (by rw[A3];omega),E8]at e
   split at e
   ·cases e;cases zo
   ·cases e
 ·exfalso;unfold Av at e
  by_cases hi:i < ds.length
  ·rw[B7 (by rw[A3];exact hi),B3]at e;cases q:ds[i]? with
   |none=>rw[q]at e;cases e
   |some d'=>rw[q]at e;cases e
  ·rw[D0 (by rw[A3];omega),E8]at e
   split at e <;> cases e
 ·exfalso;unfold Av at e
  by_cases hi:i < ds.length
  ·rw[B7 (by rw[A3];exact hi),B3]at e;cases q:ds[i]? with
   |none=>rw[q]at e;cases e
   |some d'=>rw[q]at e;cases e
  ·rw[D0 (by rw[A3];omega),E8]at e
   split at e <;> cases e
def fn_D{c:Bool}{P:Program}{w:World}{x qual:Str}{st:Stmt}{f:Addr}{N ps:List Str}{k:Nat}{g:FS}(F:Fun K x qual st f fd)(S:FnScope N ps (Cc st))
  (zj:∀(zp:Value) (A:Around) (outer:List Env) (s:Shared) (H:Hp) (E:XK),RoomC c k (A.deeper (envOfC qual (Cc st) s.heap.objs.size f zp))->
   BD (Eg c P w K mg base N qual (Cc st) f zp A outer s H E) (λ_=>EXof K E) (Fs st) g):FnX P w K mg base c (k + 1) f fd ps (Br K ps.length (Al N.length g)):=by
 refine Fun.okX F S (λvs H Q E h=>h.1) λzp A outer s H vs Q E hr h=>⟨_,zj zp A outer s H E hr, ?_⟩;obtain⟨hl,G,ds,g0,r,o⟩:=h;refine⟨⟨H,λ_=>0⟩,G,G,_,_,bk_7 g0 r, ?_⟩;unfold Al at o;cases e:g (Av N.length ds) with
 |nx Δ=>rw[e]at o;exact λ σ G' H' O E' _=>(WP.mono (w:=.sh .non) (Q:=Q) E'.st o).use E'.st.gh .non
 |rt w=>rw[e]at o;exact o
 |rv d Δ=>rw[e]at o;exact o.elim
 |ex x Δ=>rw[e]at o;exact λ σ G' H' O E' _=>(EXof K E).mono _ _ _ _ _ E'.st o
 |bk Δ=>rw[e]at o;exact o.elim
 |ct Δ=>rw[e]at o;exact o.elim
 |no=>rw[e]at o;exact o
def ck_5{c:Bool}{P:Program}{w:World}{x:Str}{st:Stmt}{f:Addr}{ps:List Str}{k:Nat}{Fn:AF}(F:Fun K x x st f fd)(hm:mg x=some (.ref f))(hb:Binds K fd ps [])
  (ok:FnX P w K mg base c k f fd ps (Br K ps.length Fn)):FnD P w K mg base c x k ps Fn:=⟨f,fd,ok,hm,F.kp,hb⟩
def ck_6(x:Str):It:=⟨λi _=>i < x.cps.size,λi H v H'=>H'=H/\∃c,x.cps[i]? =some c/\v=.str ⟨#[c]⟩,λi _=>i=x.cps.size⟩
def bs_5{P:Program}{w:World}{tg:Expr}{it:Addr}{n:Nat}{Pv:Nat->Value->Prop}{St:Nat->Heap->Prop}{J:It}
  (W:∀A':Around,A'.handled=none->Walks P w A' it [it] [it] n Pv St)
  (bq:∀i h,St i h->∃o nm vs,h.get? it=some o/\o.cls=.type nm/\o.data=.fields vs/\ ["enumerate","zip","dict_itemiterator","dict_reverseitemiterator","odict_iterator","itertools.zip_longest","itertools.pairwise"].contains nm=false)
  (cq:∀(i:Nat) (h h':Heap),St i h->(∀b∈ [it],∀o,h.get? b=some o->h'.get? b=some o)->St i h') (df:∀(A:Around) (i:Nat) (s:Shared) (Q E:AA),St i s.heap->Q (.ref it) s->wpAny (model P w) A (pyIter (.ref it)) Q E s)
  (hgo:∀i H,J.go i H->i < n) (hst:∀i H,J.stop i H->i=n) (hy:∀i H u,Pv i u->∃x,RelV x u/\J.yld i H x H):Turn P w K tg J [it] it St where
 mem:=by simp
 obj:=λi h st b hb=>by
  have e:b=it:=by simpa using hb
  subst e;obtain⟨o,nm,vs,e,c,d,_⟩:=bq i h st;exact⟨o,e,λv z=>by rw[d]at z;cases z⟩
 keep:=cq
 item:=by
  intro X hP hw hK hc i zd s σ H E I hf st hg;subst hP hw hK;obtain⟨f0,f1,f2,f3,f4,f5⟩:=hf it (by simp);refine(W X.A (I.ok.hd hc)).item i s _ _ (hgo i H hg) st λv h' tk hv st' kk=> ?_;have I1:Inv X zd σ H {s with heap:=h',toks:=tk}:=I.turned (λb o hb e=>kk b o (by simpa using hb) e) f0 f1 f3 f4 f5;obtain⟨x,rx,yx⟩:=hy i H v hv;obtain⟨o,nm,vs,e,c,d,hn⟩:=bq (i + 1) h' st';exact⟨v,rfl,bj_3 (s:={s with heap:=h',toks:=tk}) e c d hn ⟨x,H,I1,rx,yx,st',λb hb=>(hf b hb).1⟩⟩
 done:=by
  intro X hP hw hK hc i zd s σ H E I hf st hg;subst hP hw hK;obtain⟨f0,f1,f2,f3,f4,f5⟩:=hf it (by simp);obtain rfl:=hst i H hg;exact(W X.A (I.ok.hd hc)).done s _ _ st λh' tk kk=>⟨rfl,I.turned (λb o hb e=>kk b o (by simpa using hb) e) f0 f1 f3 f4 f5⟩
 self:=df
def ItD(K:Frag)(G1:Hp)(J:It)(ds:List D):Prop:=∀G H,Same G1 G->Same G H->∀i,
 (∀d,ds[i]? =some d->J.go i H/\∀x H',J.yld i H x H'->∃G',Step G H G' H'/\Has K G' x d)/\(ds.length=i->J.stop i H)
abbrev FI:=DE->R (List D)
def tI(K:Frag)(EX:Az)(fi:FI):TI:=λ σ H Q=>∃G δ,Same G H/\HasS K G σ δ/\match fi δ with
 | .ok ds=>∀J G' H',Step G H G' H'->ItD K G' J ds->Q J H'
 | .ex x=>(EX σ).p x G H
 | .no=>False
abbrev ID(X:Cx)(EX:Az)(tg iter:Expr)(fi:FI):Prop:=PI X tg iter (tI X.K EX fi)
def PI.imp{tg e:Expr}{t t':TI}(h:PI X tg e t)(i:∀σ H Q,t' σ H Q->t σ H Q):PI X tg e t':=λzd s σ H Q I q=>h zd s σ H Q I (i σ H Q q)
section
variable{X:Cx}{EX:Az}{tg e a b:Expr}{f:FE}{fa:FA}{p pos:Pos}
def tDa.seqI{G H:Hp}{σ:Sg}{δ:DE}{k:List D->R (List D)}{Q:It->Hp->Prop}{P:List V->Hp->Prop}(g:Same G H)(s:HasS K G σ δ)
  (h:match(fa δ).bind k with| .ok ds=>∀J G' H',Step G H G' H'->ItD K G' J ds->Q J H'| .ex x=>(EX σ).p x G H| .no=>False)
  (i:∀ds vs G' H',Step G H G' H'->HasL K G' vs ds->(match k ds with| .ok ds=>∀J G2 H2,Step G' H' G2 H2->ItD K G2 J ds->Q J H2| .ex x=>(EX σ).p x G' H'| .no=>False)->P vs H'):tDa K EX fa σ H P:=by
 refine⟨G,δ,g,s, ?_⟩;cases e:fa δ with
 |ok ds=>
  rw[e]at h;simp only[R.bind_ok]at h;refine λvs G' H' st r=>i ds vs G' H' st r ?_;cases e2:k ds with
  |ok ds'=>rw[e2]at h;exact λJ G2 H2 st2 it=>h J G2 H2 (st.trans st2) it
  |ex x=>rw[e2]at h;exact(EX σ).mono _ _ _ _ _ st h
  |no=>rw[e2]at h;exact h
 |ex x=>rw[e]at h;exact h
 |no=>rw[e]at h;exact h
def Cf(lo:Int)(n:Nat):List D:=(List.range n).map λ(k:Nat)=>D.int (lo + (k:Int))
def cd_4{lo:Int}{n i:Nat}{d:D}(h:(Cf lo n)[i]? =some d):i < n/\d=.int (lo + (i:Int)):=by
 unfold Cf at h;rw[B3]at h
 by_cases hi:i < n
 ·rw[E4 hi]at h;cases h;exact⟨hi,rfl⟩
 ·rw[D5 (by rw[K1];omega)]at h;cases h
def k_1(lo:Int)(n:Nat):(Cf lo n).length=n:=by unfold Cf;rw[A3,K1]
def cd_5{G:Hp}(lo:Int)(n:Nat):ItD K G (Itr lo n) (Cf lo n):=λG' H _ g i=>by
 refine⟨λd e=> ?_,λe=> ?_⟩
 ·obtain⟨hi,rfl⟩:=cd_4 e;refine⟨hi,λx H' y=> ?_⟩;obtain⟨e1,e2⟩:=y;subst e1 e2;exact⟨G',Step.refl g,.int _⟩
 ·rw[k_1]at e;exact P9 e
def Dl:List D->R (List D)
 | [.int j]=>if j.natAbs < 4611686018427387904 then .ok (Cf 0 j.toNat) else .no
 |_=> .no
def Aw(k:List D->R (List D))(fa:FA):FI:=λ δ=>(fa δ).bind k
def m_1(hm:X.mg "range" =none)(ha:AD X EX [a] fa)(hg:Gl X "range" :=by rfl)(hs:starEach [a] X.env= [(false,eval a X.env)]:=by rfl):ID X EX tg (.Call (.Name "range" p) [a] [] pos) (Aw Dl fa):=
 PI.imp (cb_7 hg hm ha hs) λ σ H Q ⟨G,δ,g0,s0,o⟩=>tDa.seqI g0 s0 o λds vs G' H' st r o'=>by
  cases r with
  |nil=>exact False.elim o'
  |cons h t=>
   cases t with
   |cons _ _=>cases h <;> exact False.elim o'
   |nil=>
    cases h with
    |int j=>
     by_cases hc:j.natAbs < 4611686018427387904
     ·rw[show Dl [.int j]=.ok (Cf 0 j.toNat) from if_pos hc]at o';exact⟨j,rfl,by omega,by omega,o' _ G' H' (Step.refl st.gh) (cd_5 0 j.toNat)⟩
     ·rw[show Dl [.int j]=.no from if_neg hc]at o';exact o'.elim
    |_=>exact False.elim o'
def s_3(x:Str):List D:=x.cps.toList.map λc=> .str ⟨#[c]⟩
def Eo:D->R (List D)
 | .lst ds=> .ok ds
 | .tup ds=> .ok ds
 | .str x=> .ok (s_3 x)
 |_=> .no
def Bo(f:FE):FI:=λ δ=>(f δ).bind λw=>Eo w.d
def iAny(K:Frag)(tl:TE):TI:=λ σ H Q=>tl σ H λx H1=>
 (∃a,x=.ref a/\(∃xs,SqL K H1 a xs)/\Q (Itl K a) H1)\/(∃a,x=.ref a/\(∃xs,SqT K H1 a xs)/\Q (Itt K a) H1)\/(∃z,x=.str z/\Q (ck_6 z) H1)
def dk_0{l:Expr}{tl:TE}(hl:PE X l tl):PI X tg l (iAny X.K tl):=by
 intro zd s σ H Q I h;refine Ax (hl zd s σ H _ I h) λv s1 ⟨x,H1,I1,r1,q1⟩=> ?_;rcases q1 with⟨a,e,⟨xs,hq⟩,q⟩|⟨a,e,⟨xs,hq⟩,q⟩|⟨z,e,q⟩
 ·subst e;cases r1;obtain⟨its,rv,p,hz⟩:=I1.list hq;refine Z5 p.isList ?_;refine⟨s1.heap.objs.size,[s1.heap.objs.size],_,_,H1,rfl,I1.kept (t':=s1.toks) λb o e=>A5 _ e,cb_6 a _,⟨_,B8 _ rfl,rfl,rfl⟩,λb hb=> ?_,q⟩;have e:b=s1.heap.objs.size:=by simpa using hb
  subst e;exact I1.fpOk (A8 _) (I1.hok.fresh (A8 _))
 ·subst e;cases r1;obtain⟨its,rv,p,hz⟩:=I1.tuple hq;refine wpAny_pyIter_tuple (show s1.heap.IsTuple a its.toArray from p) ?_;refine⟨s1.heap.objs.size,[s1.heap.objs.size],_,_,H1,rfl,I1.kept (t':=s1.toks) λb o e=>A5 _ e,bq_7 a _,⟨_,B8 _ rfl,rfl,rfl⟩,λb hb=> ?_,q⟩;have e:b=s1.heap.objs.size:=by simpa using hb
  subst e;exact I1.fpOk (A8 _) (I1.hok.fresh (A8 _))
 ·subst e;obtain⟨t,rfl⟩:=r1;have fin:∀(nm:String) (St:Nat->Heap->Prop),(∀i h,St i h↔h.IsStrIter s1.heap.objs.size nm z t i)->(∀A':Around,A'.handled=none->Walks X.prog X.w A' s1.heap.objs.size [s1.heap.objs.size] [s1.heap.objs.size] z.cps.size (SignAt z) St)->
    ["enumerate","zip","dict_itemiterator","dict_reverseitemiterator","odict_iterator","itertools.zip_longest","itertools.pairwise"].contains nm=false->
    (∀(A:Around) (i:Nat) (s:Shared) (Q E:AA),s.heap.IsStrIter s1.heap.objs.size nm z t i->Q (.ref s1.heap.objs.size) s->wpAny (model X.prog X.w) A (pyIter (.ref s1.heap.objs.size)) Q E s)->
    PIE X zd σ tg Q (.ref s1.heap.objs.size) {s1 with heap:=s1.heap.push {cls:=.type nm,data:=.fields #[.str z t,.int 0 0]}}:=by
   intro nm St hS W hn hslf;refine⟨s1.heap.objs.size,[s1.heap.objs.size],St,ck_6 z,H1,rfl,I1.kept (t':=s1.toks) λb o e=>A5 _ e,
    bs_5 W (λi h st=> ?_) (λi h h' st k=> ?_) (λA i s Q E st h=>hslf A i s Q E ((hS _ _).mp st) h) (λi H g=>g) (λi H g=> ?_) (λi H u hu=> ?_),(hS _ _).mpr ⟨_,B8 _ rfl,rfl,rfl⟩,λb hb=> ?_,q⟩
   ·obtain⟨o,ho,hc,hd⟩:=(hS _ _).mp st;exact⟨o,nm,_,ho,hc,hd,hn⟩
   ·obtain⟨o,ho,r⟩:=(hS _ _).mp st;exact(hS _ _).mpr ⟨o,k _ (by simp) o ho,r⟩
   ·exact g
   ·obtain⟨c,u',e1,e2⟩:=hu;subst e2;exact⟨.str ⟨#[c]⟩,⟨u',rfl⟩,rfl,c,e1,rfl⟩
   ·have e:b=s1.heap.objs.size:=by simpa using hb
    subst e;exact I1.fpOk (A8 _) (I1.hok.fresh (A8 _))
  cases ha:z.cps.all (· < 128)
  ·exact wpAny_pyIter_wide ha (fin "str_iterator" _ (λ_ _=>Iff.rfl) (λA' hA=>Walks.strWide hA _ z t) ⋯ λA i s Q E st h=>wpAny_pyIter_striter_wide st h)
  ·exact wpAny_pyIter_ascii ha (fin "str_ascii_iterator" _ (λ_ _=>Iff.rfl) (λA' hA=>Walks.strAscii hA _ z t) ⋯ λA i s Q E st h=>wpAny_pyIter_striter_ascii st h)
def ck_7{G:Hp}{a:Addr}{vs:List V}{ds:List D}(h:SqL K G a vs)(r:HasL K G vs ds):ItD K G (Itl K a) ds:=λG' H g1 g i=>by
 refine⟨λd e=> ?_,λe=> ?_⟩
 ·obtain⟨v,e1,hv⟩:=r.get e;refine⟨⟨vs,v,(g1.trans g).seq h,e1⟩,λx H' y=> ?_⟩;obtain⟨e2,y⟩:=y;subst e2;have e3:=y vs ((g1.trans g).seq h);rw[e1]at e3;cases e3;exact⟨G',Step.refl g,hv.mono g1⟩
 ·exact⟨vs,(g1.trans g).seq h,by rw[r.length];exact P9 e⟩
def cw_6{G:Hp}{a:Addr}{vs:List V}{ds:List D}(h:SqT K G a vs)(r:HasL K G vs ds):ItD K G (Itt K a) ds:=λG' H g1 g i=>by
 refine⟨λd e=> ?_,λe=> ?_⟩
 ·obtain⟨v,e1,hv⟩:=r.get e;refine⟨⟨vs,v,Same.tupS (g1.trans g) h,e1⟩,λx H' y=> ?_⟩;obtain⟨e2,y⟩:=y;subst e2;have e3:=y vs (Same.tupS (g1.trans g) h);rw[e1]at e3;cases e3;exact⟨G',Step.refl g,hv.mono g1⟩
 ·exact⟨vs,Same.tupS (g1.trans g) h,by rw[r.length];exact P9 e⟩
def cw_7{G:Hp}(z:Str):ItD K G (ck_6 z) (s_3 z):=λG' H g1 g i=>by
 refine⟨λd e=> ?_,λe=> ?_⟩
 ·unfold s_3 at e;rw[B3]at e;cases q:z.cps.toList[i]? with
  |none=>rw[q]at e;cases e
  |some c=>
   rw[q]at e;cases e;have hi:i < z.cps.size:=by
    have:=(B2.mp q).1;simpa using this
   refine⟨hi,λx H' y=> ?_⟩;obtain⟨e2,c',e3,e4⟩:=y;subst e2 e4;have:z.cps.toList[i]? =some c':=by simpa using e3
   rw[q]at this;cases this;exact⟨G',Step.refl g,.str _⟩
 ·unfold s_3 at e;rw[A3]at e;show i=z.cps.size;simp at e;omega
def o_0(he:ED X EX e f):ID X EX tg e (Bo f):=
 PI.imp (dk_0 he) λ σ H Q ⟨G,δ,g0,s0,o⟩=>by
  refine⟨G,δ,g0,s0, ?_⟩;unfold Bo at o;cases e1:f δ with
  |ok w=>
   rw[e1]at o;simp only[R.bind_ok]at o;refine WP.intro λv G' H' st r=> ?_;revert r o;cases w.d with
   |lst ds=>
    intro o r;cases r with
    |lst h r=>exact .inl ⟨_,rfl,⟨_,st.gh.seq h⟩,o _ G' H' st (ck_7 h r)⟩
   |tup ds=>
    intro o r;cases r with
    |tup h r=>exact .inr (.inl ⟨_,rfl,⟨_,Same.tupS st.gh h⟩,o _ G' H' st (cw_6 h r)⟩)
   |str z=>
    intro o r;cases r;exact .inr (.inr ⟨z,rfl,o _ G' H' st (cw_7 z)⟩)
   |_=>intro o _;exact False.elim o
  |ex x=>rw[e1]at o;exact o
  |no=>rw[e1]at o;exact o
end
abbrev FG:=D->SE->R SE
def tG(K:Frag)(EX:Az)(fg:FG):TG:=λv σ H Q=>∃H0 G0 G Δ O d,Ev K H0 G0 G H σ Δ O/\Has K G v d/\match fg d Δ with
 | .ok Δ'=>∀σ' G' H' O',Ev K H0 G0 G' H' σ' Δ' O'->Same G G'->Q σ' H'
 | .ex _=>False
 | .no=>False
def PG.imp{tg:Expr}{t t':TG}(h:PG X tg t)(i:∀v σ H Q,t' v σ H Q->t v σ H Q):PG X tg t':=λzd s σ H v u Q I r q=>h zd s σ H v u Q I r (i v σ H Q q)
abbrev GD(X:Cx)(EX:Az)(tg:Expr)(fg:FG):Prop:=PG X tg (tG X.K EX fg)
section
variable{X:Cx}{EX:Az}{pos:Pos}
def gV(i:Nat):FG:=λd Δ=> .ok (Δ.set i (.sh d))
def j_1{i:Nat}{x:Str}(hN:X.N.Nodup)(hi:X.N[i]? =some x:=by rfl)(hx:Loc X.env.scope x:=by trivial)
  (hf:X.fn x=true\/X.env.scope.names.lookup x=some .local:=by trivial):GD X EX (.Name x pos) (gV i):=
 PG.imp (z_9 hN hi hx hf) λv σ H Q ⟨H0,G0,G,Δ,O,d,E,r,q⟩=>q _ G H O (E.put r) (Same.refl _)
def gV2(i j:Nat):FG:=λd Δ=>match d with
 | .tup [a,b]=> .ok ((Δ.set i (.sh a)).set j (.sh b))
 |_=> .no
def bs_6{i j k:Nat}{x y:Str}{p1 p2:Pos}(hc:X.calm=true)(hN:X.N.Nodup)(hi:X.N[i]? =some x:=by rfl)(hj:X.N[j]? =some y:=by rfl)(hx:Loc X.env.scope x:=by trivial)(hy:Loc X.env.scope y:=by trivial)
  (hf:X.fn x=true\/X.env.scope.names.lookup x=some .local:=by trivial) (hf2:X.fn y=true\/X.env.scope.names.lookup y=some .local:=by trivial)
  (hn:(assignEach [.Name x p1,.Name y p2] X.env).length=2:=by rfl) (hst:(assignEach [.Name x p1,.Name y p2] X.env).findIdx? (·.1)=none:=by rfl)
  (hs:(assignEach [.Name x p1,.Name y p2] X.env).map (·.2)=assign (.Name x p1) X.env::(assignEach [.Name y p2] X.env).map (·.2):=by rfl) (hs2:(assignEach [.Name y p2] X.env).map (·.2)=assign (.Name y p2) X.env::(assignEach [] X.env).map (·.2):=by rfl):
  GD X EX (.Tuple [.Name x p1,.Name y p2] k pos) (gV2 i j):=
 PG.imp (ch_0 hc (ae_2 (z_9 hN hi hx hf) (ae_2 (z_9 hN hj hy hf2) bw_0 hs2) hs) hn hst) λv σ H Q ⟨H0,G0,G,Δ,O,d,E,r,q⟩=>by
  cases r with
  |tup h r=>
   cases r with
   |nil=>exact False.elim q
   |cons r1 r=>
    cases r with
    |nil=>exact False.elim q
    |cons r2 r=>
     cases r with
     |nil=>exact⟨_,_,rfl,Same.tupS E.st.gh h,rfl,_,_,rfl,_,_,rfl,rfl,q _ G H O ((E.put r1).put r2) (Same.refl _)⟩
     |cons _ _=>exact False.elim q
  |_=>exact False.elim q
def Bx(fg:FG)(g:FS):List D->FS
 | []=>λ Δ=> .nx Δ
 |d::ds=>λ Δ=>match fg d Δ with
  | .ok Δ1=>(match g Δ1 with
   | .nx Δ2=>Bx fg g ds Δ2
   | .ct Δ2=>Bx fg g ds Δ2
   | .bk Δ2=> .nx Δ2
   |r=>r)
  | .ex _=> .no
  | .no=> .no
def Bw(js:List Nat)(fi:FI)(fg:FG)(g:FS):FS:=λ Δ=>match fi (Bf Δ) with
 | .ok ds=>Bx fg g ds Δ
 | .ex x=> .ex x Δ
 | .no=>match fi (Bf (gsome js Δ)) with
  | .ok ds=>Bx fg g ds (gsome js Δ)
  | .ex x=> .ex x (gsome js Δ)
  | .no=> .no
def ae_8{α:Type}{l:List α}{i:Nat}(h:i < l.length):∃x,l[i]? =some x/\l.drop i=x::l.drop (i + 1):=⟨l[i],by simp[h],List.drop_eq_getElem_cons h⟩
def az_2{fg:FG}{g:FS}{H0:HB}{G0 G1 H1:Hp}{J:It}{ds:List D}{Δ:SE}{O:OS}{σ:Sg}{D:Ends}(E:Ev K H0 G0 G1 H1 σ Δ O)(it:ItD K G1 J ds)(q:Fin K EX H0 G0 G1 D (Bx fg g ds Δ)):
  ∃W:Nat->Nat->Sg->Hp->Prop,(∃m,W 0 m σ H1)/\∀i m σ H,W i m σ H->
   (J.stop i H/\D.nx σ H)\/(J.go i H/\∃N:Sg->Hp->Prop,(∀σ' H',N σ' H'->∃m',m' < m/\W (i + 1) m' σ' H')/\∀x H',J.yld i H x H'->tG K EX fg x σ H' λ σ2 H2=>tS K EX g {D with nx:=N,ct:=N,bk:=D.nx} σ2 H2):=by
 refine⟨λi m σ H=>m=ds.length - i/\i<=ds.length/\∃G Δ O,Ev K H0 G0 G H σ Δ O/\Same G1 G/\Fin K EX H0 G0 G1 D (Bx fg g (ds.drop i) Δ),⟨ds.length,by simp,F7 _,G1,Δ,O,E,Same.refl _,q⟩, ?_⟩
 rintro i m σ H ⟨rfl,hi,G,Δ,O,E,sg,q⟩
 obtain⟨i1,i2⟩:=it G H sg E.st.gh i
 by_cases hlt:i < ds.length
 ·obtain⟨d,e1,e2⟩:=ae_8 hlt;obtain⟨go,yl⟩:=i1 d e1;refine .inr ⟨go,λ σ' H'=>∃G Δ O,Ev K H0 G0 G H' σ' Δ O/\Same G1 G/\Fin K EX H0 G0 G1 D (Bx fg g (ds.drop (i + 1)) Δ),λ σ' H' w=>⟨ds.length - (i + 1),by omega,rfl,hlt,w⟩,λx H' y=> ?_⟩;obtain⟨G',st,hx⟩:=yl x H' y;rw[e2]at q;refine⟨H0,G0,G',Δ,O,d,E.grow st,hx, ?_⟩;have q':Fin K EX H0 G0 G1 D (match fg d Δ with
   | .ok Δ1=>(match g Δ1 with
    | .nx Δ2=>Bx fg g (ds.drop (i + 1)) Δ2
    | .ct Δ2=>Bx fg g (ds.drop (i + 1)) Δ2
    | .bk Δ2=> .nx Δ2
    |r=>r)
   | .ex _=> .no
   | .no=> .no):=q
  cases e3:fg d Δ with
  |ok Δ1=>
   rw[e3]at q';intro σ2 G2 H2 O2 E2 s2;have s12:Same G1 G2:=sg.trans (st.gg.trans s2);refine⟨H0,G0,G2,Δ1,O2,E2, ?_⟩;cases e4:g Δ1 with
   |nx Δ2=>simp only[e4]at q';exact λ σ3 G3 H3 O3 E3 s3=>⟨G3,Δ2,O3,E3,s12.trans s3,q'⟩
   |ct Δ2=>simp only[e4]at q';exact λ σ3 G3 H3 O3 E3 s3=>⟨G3,Δ2,O3,E3,s12.trans s3,q'⟩
   |bk Δ2=>simp only[e4]at q';exact λ σ3 G3 H3 O3 E3 s3=>q' σ3 G3 H3 O3 E3 (s12.trans s3)
   |rt w=>simp only[e4]at q';exact q'
   |rv d Δ2=>simp only[e4]at q';exact λv σ3 G3 H3 O3 E3 s3=>q' v σ3 G3 H3 O3 E3 (s12.trans s3)
   |ex x Δ2=>simp only[e4]at q';exact λ σ3 G3 H3 O3 E3 s3=>q' σ3 G3 H3 O3 E3 (s12.trans s3)
   |no=>simp only[e4]at q';exact q'
  |ex x=>rw[e3]at q';exact q'
  |no=>rw[e3]at q';exact q'
 ·have e:ds.length=i:=by omega
  refine .inl ⟨i2 e, ?_⟩;rw[U6 ()]at q;exact q σ G H O E sg
def j_3{tg iter:Expr}{body:List Stmt}{fi:FI}{fg:FG}{g:FS}(js:List Nat)(hp:PassesOwn (model X.prog X.w) X.A X.env X.xe)(hc:X.calm=true)(hi:ID X EX tg iter fi)(hg:GD X EX tg fg)(hb:BD X EX body g)
  (hs:∀x,foldedSetIterable iter X.env x=pure x:=by intro _;rfl):SD X EX (.For tg iter body [] pos) (Bw js fi fg g):=
 PS.imp (dh_4 hp hc hi hg hb hs) λD σ H ⟨H0,G0,G,Δ,O,E,q⟩=>by
  unfold Bw at q;cases e1:fi (Bf Δ) with
  |ok ds=>
   rw[e1]at q;refine⟨G,Bf Δ,E.st.gh,E.gsh, ?_⟩;rw[e1];exact λJ G' H' st it=>az_2 (E.grow st) it (Fin.mono st.gg q)
  |ex x=>
   rw[e1]at q;exact⟨G,Bf Δ,E.st.gh,E.gsh,by rw[e1];exact q σ G H O E (Same.refl _)⟩
  |no=>
   rw[e1]at q;obtain⟨G1,O1,sg,E1⟩:=E.gsome js;refine⟨G1,Bf (gsome js Δ),E1.st.gh,E1.gsh, ?_⟩;cases e2:fi (Bf (gsome js Δ)) with
   |ok ds=>
    simp only[e2]at q;exact λJ G' H' st it=>az_2 (E1.grow st) it (Fin.mono (sg.trans st.gg) q)
   |ex x=>simp only[e2]at q;exact q σ G1 H O1 E1 sg
   |no=>simp only[e2]at q;exact q
def sApp(i:Nat)(f:FE):FS:=λ Δ=>match Δ[i]? with
 |some (.ow (.lst ds))=>if ds.length < 16777216 then(match f (Bf Δ) with
   | .ok w=> .nx (Δ.set i (.ow (.lst (ds ++ [w.d]))))
   | .ex x=> .ex x Δ
   | .no=>match f (Au Δ) with
    | .ok w=>if Ay w.d=true then .nx (Δ.set i (.ow (.lst (ds ++ [w.d])))) else .no
    |_=> .no) else .no
 |_=> .no
def ck_8{i:Nat}{x:Str}{e:Expr}{f:FE}{p1 zh zf:Pos}(he:ED X EX e f)(hN:X.N[i]? =some x:=by rfl)(hv:Vis X.env.scope x:=by trivial)(hd:AG x:=by decide)
  (hcd:(x ==("__classdict__" :Str))=false:=by decide) (hsw:swapsWith (.Call (.Attribute (.Name x p1) "append" zh) [e] [] zf) none pos.line X.env=pure false:=by rfl)
  (ag:attributeBase (.Name x p1) "append" X.env (eval (.Name x p1) X.env)=eval (.Name x p1) X.env:=by rfl)
  (ax:((backTo zf (starEach [e] X.env)).all (λx=> !x.1) && (backToKw zf (keywordEach [] X.env)).all (λx=>x.1.isSome)
   && decide ([e].length + ([]:List Keyword).length + (if([]:List Keyword).isEmpty then 0 else 1) < 30))=true:=by rfl)
  (af:(zh.endLine ==zf.line)=true:=by rfl) (hs:starEach [e] X.env=(false,eval e X.env)::starEach [] X.env:=by rfl) (aa:(backTo zf (starEach [] X.env)).any (·.1)=false:=by rfl):
  SD X EX (.Expr (.Call (.Attribute (.Name x p1) "append" zh) [e] [] zf) pos) (sApp i f):=
 PS.imp (z_8 (bj_8 Q9 Q4 Q5 q_8 (l_5 hN hv hd hcd) (j_9 he p_4 hs) ag ax af hs aa) hsw) λD σ H ⟨H0,G0,G,Δ,O,E,q⟩=>by
  unfold sApp at q
  split at q
  ·rename_i ds e1
   split at q
   ·rename_i hz;obtain⟨v0,s1,t⟩:=E.ow i _ _ e1 rfl;obtain⟨a,vs,rfl,m,hH,rl⟩:=t.list_of
    ·skip
     refine⟨.ref a,s1,.inl ⟨rfl,_,SqL.of hH⟩, ?_⟩;have fin:∀{G' H':Hp} {v:V} {d:L3.D},Ev X.K H0 G0 G' H' σ Δ O->Same G G'->H' a=some (.lst vs)->HasL X.K G' vs ds->Has X.K G' v d->Fin X.K EX H0 G0 G D (.nx (Δ.set i (.ow (.lst (ds ++ [d])))))->
       bd_5 (.ref a) [v] H' λ_ H1=>D.nx σ H1:=λ{G' H' v d} E' sg hH' r' hv' q'=>
      ⟨a,vs,v,rfl,rfl,hH',by rw[r'.length,D2];exact hz,q' σ G' _ _ (E'.writeL s1 m (r'.append (.cons hv' .nil))) sg⟩
     cases e2:f (Bf Δ) with
     |ok w=>
      simp only[e2]at q;refine⟨G,Bf Δ,E.st.gh,E.gsh, ?_⟩;rw[e2];exact WP.intro λv G' H' st r=>fin (E.grow st) st.gg (st.hh _ _ hH) (rl.mono st.gg) r q
     |ex x=>
      simp only[e2]at q;exact⟨G,Bf Δ,E.st.gh,E.gsh,by rw[e2];exact q σ G H O E (Same.refl _)⟩
     |no=>
      simp only[e2]at q;refine⟨x_5 G H O,Au Δ,E.aH,E.gall, ?_⟩;cases e3:f (Au Δ) with
      |ok w=>
       simp only[e3]at q
       split at q
       ·rename_i fl;exact WP.intro λv G' H' st r=>fin (E.keep st.hh) (Same.refl _) (st.hh _ _ hH) rl (r.ofFl fl) q
       ·exact q.elim
      |ex x=>simp only[e3]at q;exact q.elim
      |no=>simp only[e3]at q;exact q
   ·exact q.elim
  ·exact q.elim
end
def j_4(X:Cx)(scope:Scope)(cl:List (Str×Addr))(N':List Str)(C:Addr)(s0:Shared)(H0:Hp)(fp:List Addr)(pn:AE):Cx where
 prog:=X.prog
 w:=X.w
 K:=X.K
 mg:=X.mg
 base:=X.base
 A:=X.A
 N:=N'
 s₀:=s0
 H₀:=H0
 env:=compEnvC scope cl C X.env
 outer:=X.stack
 stack:=X.stack
 ex:=fp
 fn:=λ_=>false
 calm:=X.calm
 pn:=pn
 xe:=λ_ _=>False
abbrev Et:=D->DE->R DE
def tGc(K:Frag)(EX:Az)(fg:Et):TG:=λv σ H Q=>∃G δ d,Same G H/\HasS K G σ δ/\Has K G v d/\match fg d δ with
 | .ok δ'=>∀σ',HasS K G σ' δ'->HasS K G σ' δ->Q σ' H
 | .ex x=>(EX σ).p x G H
 | .no=>False
abbrev GC(X:Cx)(EX:Az)(tg:Expr)(fg:Et):Prop:=PG X tg (tGc X.K EX fg)
def CTs(X:Cx)(EX:Az)(ifs:List Expr)(p:FT):Prop:=
 ∀(zd:AE) (s:Shared) (σ:Sg) (H:Hp) (Q:Bool->Hp->Prop),Inv X zd σ H s->tDt X.K EX p σ H Q->
  wpAny (model X.prog X.w) X.A (forIn ifs true λc r=>if r=true then do let ok<-isTrue c X.env (eval c X.env);pure (ForInStep.yield ok) else pure (ForInStep.yield r)) (TP X zd σ Q) X.xe s
section
variable{X:Cx}{EX:Az}{pos:Pos}
def gC(i:Nat):Et:=λd δ=>match δ[i]? with
 |some none=> .ok (δ.set i (some d))
 |_=> .no
def HasS.put{G:Hp}{σ:Sg}{δ:DE}{v:V}{d:D}(h:HasS K G σ δ)(r:Has K G v d)(i:Nat):HasS K G (σ.set i (some v)) (δ.set i (some d)):=by
 refine⟨by rw[F9,F9];exact h.len,λj d' e=> ?_⟩;rcases Fd e with⟨rfl,q⟩|⟨n,q⟩
 ·cases q;have hlt:i < δ.length:=by
   by_cases hh:i < δ.length
   ·exact hh
   ·rw[D5 (by rw[F9];omega)]at e;cases e
  exact⟨v,by rw[F6 (by rw[h.len];exact hlt)],r⟩
 ·obtain⟨v',e1,r'⟩:=h.get j d' q;exact⟨v',by rw[C8 n];exact e1,r'⟩
def cw_8{i:Nat}{x:Str}(hN:X.N.Nodup)(hi:X.N[i]? =some x:=by rfl)(hx:Loc X.env.scope x:=by trivial)
  (hf:X.fn x=true\/X.env.scope.names.lookup x=some .local:=by trivial):GC X EX (.Name x pos) (gC i):=
 PG.imp (z_9 hN hi hx hf) λv σ H Q ⟨G,δ,d,g,s,r,q⟩=>by
  unfold gC at q;cases e:δ[i]? with
  |none=>rw[e]at q;exact q.elim
  |some o=>
   rw[e]at q;cases o with
   |some _=>exact q.elim
   |none=>
    refine q _ (s.put r i) ⟨by rw[F9];exact s.len,λj d' e'=> ?_⟩;obtain⟨v',e1,r'⟩:=s.get j d' e';refine⟨v', ?_,r'⟩;rw[C8]
    ·exact e1
    ·rintro rfl
     rw[e]at e';cases e'
def v_7:CTs X EX [] (λ_=> .ok true):=λzd s σ H Q I ⟨G,δ,g,h,q⟩=>wpAny_tests_nil ⟨H,I,q G H (Step.refl g)⟩
def bs_8{c:Expr}{p:FT}(h:TD X EX c p):CTs X EX [c] p:=λzd s σ H Q I q=>wpAny_tests_one (h zd s σ H Q I q)
def n_1(fg:Et)(p:FT)(f:FE)(δ:DE):List D->R (List D)
 | []=> .ok []
 |d::ds=>(fg d δ).bind λ δ1=>(p δ1).bind λb=>if b=true then(f δ1).bind λw=>(n_1 fg p f δ ds).bind λrs=> .ok (w.d::rs) else n_1 fg p f δ ds
def R.calm{α:Type}:R α->R α
 | .ok w=> .ok w
 |_=> .no
@[simp] theorem R.calm_ok{α:Type}(a:α):(R.ok a).calm=.ok a:=rfl
@[simp] theorem R.calm_ex{α:Type}(x:Xn):(R.ex x:R α).calm=.no:=rfl
@[simp] theorem R.calm_no{α:Type}:(R.no:R α).calm=.no:=rfl
def Bu(m:Nat)(fi:FI)(fg:Et)(p:FT)(f:FE):FE:=λ δ=>((fi δ).bind λds=>if ds.length<=16777216 then(n_1 fg p f (δ ++ List.replicate m none) ds).bind λrs=> .ok (.ow (.lst rs)) else .no).calm
def R.calm_never{α:Type}{r:R α}{x:Xn}(h:r.calm=.ex x):False:=by
 cases r <;> cases h
def bk_8{m:Nat}{fi:FI}{fg:Et}{p:FT}{f:FE}{δ:DE}{x:Xn}(h:Bu m fi fg p f δ=.ex x):False:=R.calm_never h
@[reducible] def dk_1(prog:Program)(w:World)(A:Around)(env:Env)(tg elt:Expr)(ifs:List Expr)(it zn:Value)(bad:AA)(fin more:Shared->Prop):Option Value->Shared->Prop
 |none=>fin
 |some v=>wpAny (model prog w) A (letOwnedTupleGo tg it v) (λ_=>wpAny (model prog w) A (assign tg env v) (λ_=>
   wpAny (model prog w) A (forIn ifs true λc r=>if r=true then do let ok<-isTrue c env (eval c env);pure (ForInStep.yield ok) else pure (ForInStep.yield r)) (λok=>
    if ok=true then wpAny (model prog w) A (eval elt env) (λx=>wpAny (model prog w) A (call (.builtin "list.append") [zn,x]) (λ_=>more) bad) bad else more) bad) bad) bad
def aq_3{prog:Program}{w:World}{A:Around}{R:Result->Shared->Prop}{s:Shared}{elt target iter:Expr}{ifs:List Expr}{scope:Scope}{it zn:Value}{env:Env}(I:Nat->Shared->Prop)
  (turn:∀n s,I n s->wpAny (model prog w) A (pyNext it) (dk_1 prog w A env target elt ifs it zn (notedBy (model prog w) A env λe=>R (.error e)) (R (.ok .next)) λs'=>∃m,m < n/\I m s') (notedBy (model prog w) A env λe=>R (.error e)) s)
  (n:Nat) (h:I n s):codeAny (model prog w) A (.compLoop (.ListComp elt [⟨target,iter,ifs,0⟩] scope pos) 0 it zn env) R s:=by
 refine codeAny_loop rfl I (λk t hk=>wpAny_noted (env:=env) (m:=compTurn (.ListComp elt [⟨target,iter,ifs,0⟩] scope pos) 0 it zn env) (compTurn_list .. ▸ ?_)) n h;refine A4 (O6 (A4 (Ax (turn k t hk) ?_)))
 rintro (_|v) t1 g1
 ·exact C5 g1
 refine A4 (Ax g1 λ_ t2 g2=>A4 (Ax g2 λ_ t3 g3=>A4 (Ax g3 ?_)))
 rintro (_|_) t4 g4
 ·exact C5 ⟨rfl,g4⟩
 ·exact A4 (A4 (Ax g4 λ_ t5 g5=>A4 (Ax g5 λ_ t6 g6=>C5 (C5 ⟨rfl,g6⟩))))
structure CompN(X:Cx)(scope:Scope)(cl:List (Str×Addr))(N':List Str):Prop where
 clos:closureFor scope X.env=pure cl
 cell:∀y∈scope.names,y.2≠ .cell
 kind:scope.kind=.function
 names:∀y∈scope.names,y.2=.local->scope.names.lookup y.1=some .local
 sub:∀x c,cl.lookup x=some c->X.env.cells.lookup x=some c
 has:∀x,((relabel scope X.env).names.lookup x=some .cell\/(relabel scope X.env).names.lookup x=some .free)->∃c,cl.lookup x=some c
 old:∀(i:Nat) (x:Str),N'[i]? =some x->i < X.N.length->Vis (relabel scope X.env) x->X.N[i]? =some x/\(X.env.scope.names.lookup x=some .cell\/X.env.scope.names.lookup x=some .free)/\(∃c,cl.lookup x=some c)/\((relabel scope X.env).names.lookup x=some .cell\/(relabel scope X.env).names.lookup x=some .free)
def Dg(cells:List (Str×Addr)):List (Str×NameKind)->List (Str×Addr)->List (Str×Addr)
 | [],zn=>zn
 |(x,k)::r,zn=>Dg cells r (if k=.free then(x,(cells.lookup x).getD 0)::zn else zn)
def ab_8{scope:Scope}{env:Env}(h:∀p∈scope.names,p.2=.free->∃c,env.cells.lookup p.1=some c):closureFor scope env=pure (Dg env.cells scope.names []):=by
 have all:∀(names:List (Str×NameKind)) (zn:List (Str×Addr)),(∀p∈names,p.2=.free->∃c,env.cells.lookup p.1=some c)->
   (forIn names zn λ(x:Str×NameKind) (r:List (Str×Addr))=>if(x.2 == .free)=true then do let a<-cellOf env x.1;pure (ForInStep.yield ((x.1,a)::r)) else pure (ForInStep.yield r):Sem (List (Str×Addr)))=pure (Dg env.cells names zn):=by
  intro names
  induction names with
  |nil=>intro zn _;rfl
  |cons p r ih=>
   intro zn hp;obtain⟨x,k⟩:=p;rw[List.forIn_cons]
   by_cases hk:k=.free
   ·subst hk;obtain⟨c,e⟩:=hp (x,.free) K2 rfl;have e1:cellOf env x=pure c:=by unfold cellOf;rw[show env.cells.lookup x=some c from e]
    simp only[O7,if_true,e1,pure_bind];rw[ih _ λq hq=>hp q (D3 _ hq)];show _=pure (Dg env.cells r (if NameKind.free=.free then(x,(env.cells.lookup x).getD 0)::zn else zn));rw[if_pos rfl,show env.cells.lookup x=some c from e];rfl
   ·have hb:(k ==NameKind.free)=false:=by simpa using hk
    simp only[hb,D8,L9,pure_bind];rw[ih _ λq hq=>hp q (D3 _ hq)];show _=pure (Dg env.cells r (if k=.free then(x,(env.cells.lookup x).getD 0)::zn else zn));rw[if_neg hk]
 unfold closureFor;have:=all scope.names [] h;simpa using this
theorem aq_4{cells:List (Str×Addr)}{q:Str×Addr}:∀{names:List (Str×NameKind)} {zn:List (Str×Addr)},q∈Dg cells names zn->q∈zn\/((q.1,NameKind.free)∈names/\q.2=(cells.lookup q.1).getD 0)
 | [],zn,h=> .inl h
 |(x,k)::r,zn,h=>by
  rcases aq_4 (names:=r) h with h|⟨h1,h2⟩
  ·split at h
   ·rename_i hk;rcases C4.mp h with rfl|h
    ·exact .inr ⟨by rw[hk];exact K2,rfl⟩
    ·exact .inl h
   ·exact .inl h
  ·exact .inr ⟨D3 _ h1,h2⟩
theorem bk_9{cells:List (Str×Addr)}{x:Str}:∀{names:List (Str×NameKind)} {zn:List (Str×Addr)},(zn.lookup x).isSome=true->((Dg cells names zn).lookup x).isSome=true
 | [],zn,h=>h
 |(y,k)::r,zn,h=>by
  refine bk_9 (names:=r) ?_
  split
  ·rw[J9]
   split
   ·rfl
   ·exact h
  ·exact h
theorem aq_5{cells:List (Str×Addr)}{x:Str}:∀{names:List (Str×NameKind)} {zn:List (Str×Addr)},(x,NameKind.free)∈names->((Dg cells names zn).lookup x).isSome=true
 |(y,k)::r,zn,h=>by
  rcases C4.mp h with h|h
  ·cases h;refine bk_9 (names:=r) ?_;rw[if_pos rfl,J9];simp
  ·exact aq_5 (names:=r) h
theorem r_1{env:Env}:∀(names:List (Str×NameKind)) (x:Str),
  (names.map λ(n,k)=>if(k ==NameKind.free && env.scope.kind == .function && env.kindOf n ==some .cell) then(n,NameKind.cell) else(n,k)).lookup x=(names.lookup x).map λk=>if(k ==NameKind.free && env.scope.kind == .function && env.kindOf x ==some .cell)=true then NameKind.cell else k
 | [],x=>rfl
 |(n,k)::r,x=>by
  have ih:=r_1 (env:=env) r x;show List.lookup x ((if(k ==NameKind.free && env.scope.kind == .function && env.kindOf n ==some .cell)=true then(n,NameKind.cell) else(n,k))::_)=_;cases hx:x ==n with
  |true=>
   have e:x=n:=eq_of_beq hx;subst e
   by_cases hc:(k ==NameKind.free && env.scope.kind == .function && env.kindOf x ==some .cell)=true
   ·rw[if_pos hc];simp only[J9,O7,L4];rw[if_pos hc]
   ·rw[if_neg hc];simp only[J9,O7,L4];rw[if_neg hc]
  |false=>
   by_cases hc:(k ==NameKind.free && env.scope.kind == .function && env.kindOf n ==some .cell)=true
   ·rw[if_pos hc];simp only[J9,hx];exact ih
   ·rw[if_neg hc];simp only[J9,hx];exact ih
def Ex(inner outer:List (Str×NameKind))(N N':List Str):Bool:=
 (inner.all λp=>p.2 != .cell && (p.2 != .local || inner.lookup p.1 ==some .local) && (p.2 != .free || (outer.lookup p.1 ==some .cell || outer.lookup p.1 ==some .free))) &&
 (List.range N.length).all λi=>match N'[i]? with
  |some x=>(match inner.lookup x with
   |some .free=>N[i]? ==some x && (outer.lookup x ==some .cell || outer.lookup x ==some .free)
   |some .local=>false
   |some .cell=>false
   |_=>true)
  |none=>true
def y_1{scope:Scope}{N':List Str}(ok:X.Ok)(hk:scope.kind=.function)(hb:Ex scope.names X.env.scope.names X.N N'=true):CompN X scope (Dg X.env.cells scope.names []) N':=by
 unfold Ex at hb;rw[C9]at hb;obtain⟨h1,h2⟩:=hb;have h1:=F2.mp h1;have h2:=F2.mp h2;have fr:∀p∈scope.names,p.2=.free->∃c,X.env.cells.lookup p.1=some c:=λp hp hf=>by
  have z:=h1 p hp;simp only[hf,C9,R8,bne_iff_ne,L6]at z;exact ok.has p.1 (by
   rcases z.2 with z|z
   ·exact absurd rfl z
   ·exact z)
 have inn:∀x k,scope.names.lookup x=some k->(x,k)∈scope.names:=λx k e=>K3 e;have bb:∀p∈scope.names,p.2≠ .cell:=λp hp hc=>by
  have z:=h1 p hp;rw[hc]at z;simp at z
 have fu:∀x,scope.names.lookup x=some .free->∃c,(Dg X.env.cells scope.names []).lookup x=some c:=λx e=>Q3.mp (aq_5 (inn x _ e));have jd:∀x,((relabel scope X.env).names.lookup x=some .cell\/(relabel scope X.env).names.lookup x=some .free)->scope.names.lookup x=some .free:=λx h=>by
  unfold relabel at h;rw[r_1]at h;cases e:scope.names.lookup x with
  |none=>rw[e]at h;simp at h
  |some k=>
   rw[e]at h;have nc:=bb (x,k) (inn x k e);cases k with
   |free=>rfl
   |cell=>exact absurd rfl nc
   |«local»=>simp at h
   |globalExplicit=>simp at h
   |globalImplicit=>simp at h
 refine⟨ab_8 fr,bb,hk,λy hy hl=> ?_,λx c e=> ?_,λx h=>fu x (jd x h),λi x e hi hv=> ?_⟩
 ·have z:=h1 y hy;simp only[hl,C9,R8,bne_iff_ne,L6]at z;rcases z.1.2 with z|z
  ·exact absurd rfl z
  ·exact z
 ·rcases aq_4 (K3 e) with z|⟨z1,z2⟩
  ·exact absurd z (by simp)
  ·obtain⟨c',e'⟩:=fr (x,.free) z1 rfl;have z2:c=(X.env.cells.lookup x).getD 0:=z2;have e':X.env.cells.lookup x=some c':=e';rw[e']at z2⊢;cases z2;rfl
 ·have z:=h2 i (K0.mpr hi);rw[e]at z;dsimp only at z;have look:scope.names.lookup x=some .free/\(((relabel scope X.env).names.lookup x=some .cell\/(relabel scope X.env).names.lookup x=some .free)):=by
   unfold Vis relabel at hv;unfold relabel;rw[r_1]at hv⊢;cases q:scope.names.lookup x with
   |none=>rw[q]at hv;simp at hv
   |some k=>
    rw[q]at hv z;cases k with
    |free=>
     refine⟨rfl, ?_⟩
     by_cases hc:(X.env.scope.kind == .function && X.env.kindOf x ==some .cell)=true
     ·left;simp[Bool.and_assoc,hc]
     ·right;simp[Bool.and_assoc,hc]
    |cell=>simp at z
    |«local»=>simp at z
    |globalExplicit=>simp at hv
    |globalImplicit=>simp at hv
  rw[look.1]at z;simp only[C9,R8,L6]at z;exact⟨z.1,z.2,fu x look.1,look.2⟩
structure TurnZ(P:Program)(w:World)(K:Frag)(tg:Expr)(J:It)(fp:List Addr)(it:Addr)(tn:Nat->Heap->Prop)(B:Cx->Prop):Prop where
 obj:∀i h,tn i h->∀b∈fp,∃o,h.get? b=some o/\∀v,o.data≠ .cell v
 keep:∀i h h',tn i h->(∀b∈fp,∀o,h.get? b=some o->h'.get? b=some o)->tn i h'
 item:∀(X:Cx),X.prog=P->X.w=w->X.K=K->∀(i:Nat) (zd:AE) (s:Shared) (σ:Sg) (H:Hp) (E:AA),B X->Inv X zd σ H s->(∀b∈fp,Ea X zd H b)->tn i s.heap->J.go i H->
  wpAny (model P w) X.A (pyNext (.ref it)) (λr s1=>∃u,r=some u/\
   wpAny (model P w) X.A (letOwnedTupleGo tg (.ref it) u) (λ_ s2=>∃x H',Inv X zd σ H' s2/\RelV x u/\J.yld i H x H'/\tn (i + 1) s2.heap/\∀b∈fp,H' b=none) E s1) E s
 done:∀(X:Cx),X.prog=P->X.w=w->X.K=K->∀(i:Nat) (zd:AE) (s:Shared) (σ:Sg) (H:Hp) (E:AA),B X->Inv X zd σ H s->(∀b∈fp,Ea X zd H b)->tn i s.heap->J.stop i H->
  wpAny (model P w) X.A (pyNext (.ref it)) (λr s1=>r=none/\Inv X zd σ H s1) E s
 self:∀(A:Around) (i:Nat) (s:Shared) (Q:AA) (E:AA),tn i s.heap->Q (.ref it) s->wpAny (model P w) A (pyIter (.ref it)) Q E s
def ak_1:Cx->Prop:=λX=>X.calm=true
def Turn.z{P:Program}{w:World}{tg:Expr}{J:It}{fp:List Addr}{it:Addr}{tn:Nat->Heap->Prop}(T:Turn P w K tg J fp it tn):TurnZ P w K tg J fp it tn ak_1:=
 ⟨T.obj,T.keep,λX a b c i zd s σ H E hc=>T.item X a b c hc i zd s σ H E,λX a b c i zd s σ H E hc=>T.done X a b c hc i zd s σ H E,T.self⟩
def BX:Cx->Prop:=λX=>X.A.handled=none\/∃(x:Addr) (o:Obj) (u:HO) (us:Array Value),X.A.handled=some (.ref x)/\X.H₀ x=some (.frz o u)/\o.data=.fields us/\us[2]? =some .none
def BX.ne{zd:AE}{s:Shared}{σ:Sg}{a:Addr}(b:BX X)(I:Inv X zd σ H s)(n:H a=none):X.A.handled≠some (.ref a):=λz=>by
 rcases b with b|⟨x,o,u,us,e,h,_⟩
 ·rw[b]at z;cases z
 ·rw[e]at z;injection z with z;injection z with z;rw[<-z,I.base.frzs x o u h]at n;cases n
def BX.on{X Y:Cx}{zd:AE}{s:Shared}{σ:Sg}(b:BX X)(I:Inv X zd σ H s)(e1:Y.A.handled=X.A.handled)(e2:Y.H₀=H):BX Y:=by
 rcases b with b|⟨x,o,u,us,e,h,d⟩
 ·exact .inl (e1.trans b)
 ·exact .inr ⟨x,o,u,us,e1.trans e,by rw[e2];exact I.base.frzs x o u h,d⟩
def PIZ(X:Cx)(B:Cx->Prop)(tg iter:Expr)(wi:TI):Prop:=
 ∀(zd:AE) (s:Shared) (σ:Sg) (H:Hp) (R:It->Hp->Prop),Inv X zd σ H s->wi σ H R->
  wpAny (model X.prog X.w) X.A (eval iter X.env) (λv s1=>wpAny (model X.prog X.w) X.A (pyIter v) (λitv s2=>∃(it:Addr) (fp:List Addr) (tn:Nat->Heap->Prop) (J:It) (H':Hp),itv=.ref it/\Inv X zd σ H' s2/\TurnZ X.prog X.w X.K tg J fp it tn B/\tn 0 s2.heap/\(∀b∈fp,Ea X zd H' b)/\R J H') X.xe s1) X.xe s
theorem PI.z{tg iter:Expr}{wi:TI}(h:PI X tg iter wi):PIZ X ak_1 tg iter wi:=λzd s σ H R I q=>
 D1 (h zd s σ H R I q) (λv s1 h1=>D1 h1 (λitv s2 ⟨it,fp,tn,J,H',e,I2,T,r⟩=>⟨it,fp,tn,J,H',e,I2,Turn.z T,r⟩) λ_ _ z=>z) λ_ _ z=>z
def cd_6{elt iter tg:Expr}{ifs:List Expr}{scope:Scope}{N':List Str}{fi:FI}{fg:Et}{p:FT}{f:FE}{m:Nat}(hx0:∀e s,¬X.xe e s){B:Cx->Prop}(hk:scope.kind=.function)(hb:Ex scope.names X.env.scope.names X.N N'=true)
  (hm:N'.length=X.N.length + m)
  (hin:∀C s0 H0 fp pn,GC (j_4 X scope (Dg X.env.cells scope.names []) N' C s0 H0 fp pn) Ds tg fg/\CTs (j_4 X scope (Dg X.env.cells scope.names []) N' C s0 H0 fp pn) Ds ifs p/\ED (j_4 X scope (Dg X.env.cells scope.names []) N' C s0 H0 fp pn) Ds elt f)
  {zd:AE} {s:Shared} {σ:Sg} {δ:DE} (I:Inv X zd σ H s) {Z:Hp->Hp->Prop} (hZ:∀G2 H2,Z G2 H2->Same G2 H2/\HasS X.K G2 σ δ) (hB:∀C s0 H0 fp pn,Inv X zd σ H0 s0->B (j_4 X scope (Dg X.env.cells scope.names []) N' C s0 H0 fp pn))
  (hit:wpAny (model X.prog X.w) X.A (eval iter X.env) (λxv s₁=>wpAny (model X.prog X.w) X.A (pyIter xv) (λitv s₂=>∃(it:Addr) (fp:List Addr) (tn:Nat->Heap->Prop) (J:It) (H2:Hp) (ds:List D) (G2:Hp),itv=.ref it/\Inv X zd σ H2 s₂/\TurnZ X.prog X.w X.K tg J fp it tn B/\tn 0 s₂.heap/\(∀b∈fp,Ea X zd H2 b)/\fi δ=.ok ds/\Z G2 H2/\ItD X.K G2 J ds) X.xe s₁) X.xe s)
  {RR:Value->Addr->Result->Shared->Prop}
  (o:match Bu m fi fg p f δ with| .ok _=>True| .ex x=>False| .no=>False)
  (hRR:∀(Da C:Addr) (s1:Shared) (G2 H2 G' H':Hp) (vs:List V) (rs:List D),Bu m fi fg p f δ=.ok (.ow (.lst rs))->Inv X zd σ H' s1->(∃m,s1.heap.Ns C m)->Ea X zd H' C->Z G2 H2->Step G2 H2 G' H'->H2 Da=none->H' Da=some (.lst vs)->G' Da=none->HasL X.K G' vs rs->RR (.ref Da) C (.ok .next) s1):
  wpAny (model X.prog X.w) X.A (eval iter X.env) (λx s₁=>wpAny (model X.prog X.w) X.A (pyIter x) (λit s₂=>wpAny (model X.prog X.w) X.A (newList []) (λzn s₃=>
   wpAny (model X.prog X.w) X.A (newFunctionEnv scope X.env.globals (Dg X.env.cells scope.names []) [] X.env.qual none .none (some X.env)) (λcenv s₄=>
    codeAny (model X.prog X.w) X.A (.compStart (.ListComp elt [⟨tg,iter,ifs,0⟩] scope pos) 0 it zn {cenv with scope:=relabel scope X.env}) (RR zn cenv.locals) s₄) X.xe s₃) X.xe s₂) X.xe s₁) X.xe s:=by
 have n:=y_1 I.ok hk hb;generalize hcle:Dg X.env.cells scope.names []=cl at n hin hB⊢;have dv:∀ds,fi δ=.ok ds->ds.length<=16777216/\(match n_1 fg p f (δ ++ List.replicate m none) ds with| .ok rs=>Bu m fi fg p f δ=.ok (.ow (.lst rs))| .ex x=>False| .no=>False):=λds e=>by
  unfold Bu at o⊢;simp only[e,R.bind_ok]at o⊢
  by_cases hz:ds.length<=16777216
  ·refine⟨hz, ?_⟩;rw[if_pos hz]at o⊢;cases e2:n_1 fg p f (δ ++ List.replicate m none) ds with
   |ok rs=>rfl
   |ex x=>rw[e2]at o;exact o
   |no=>rw[e2]at o;exact o
  ·rw[if_neg hz]at o;exact o.elim
 
 refine D1 hit (λxv s₁ h₁=>D1 h₁ (λitv s₂ h₂=> ?_) λ_ _ e=>(hx0 _ _ e).elim) λ_ _ e=>(hx0 _ _ e).elim;obtain⟨it,fp,tn,J,H2,ds,G2,rfl,I2,T,st2,f2,e2,hz2,itd⟩:=h₂;obtain⟨sg2,h0⟩:=hZ G2 H2 hz2;obtain⟨hz,o⟩:=dv ds e2
 
 have hfD:H2 s₂.heap.objs.size=none:=I2.hok.fresh (A8 _);refine S5 (X0 n.cell (by intro y hy;simp at hy) (λh₁ hns₁ hsb₁=> ?_) n.kind);dsimp only at hns₁ hsb₁⊢;generalize hDa:s₂.heap.objs.size=Da at hfD;have hDn: @Eq Nat s₂.heap.objs.size Da:=hDa;have I3:Inv X zd σ (upd H2 Da (.lst [])) {s₂ with heap:=s₂.heap.push {cls:=.type "list",dict:=none,data:=.seq ([]:List Value).toArray}}:=by
  rw[<-hDa];exact I2.lnew (t':=s₂.toks) .nil (F7 _)
 generalize hH3:s₂.heap.push {cls:=.type "list",dict:=none,data:=.seq ([]:List Value).toArray}=hp3 at hns₁ hsb₁ I3⊢;have hC:hp3.objs.size=Da + 1:=by rw[<-hH3,K9,hDa]
 generalize hCe:hp3.objs.size=C at hns₁ hsb₁ hC;have hCn: @Eq Nat hp3.objs.size C:=hCe;have hC2: @Eq Nat C (Da + 1):=hC;have dq:∀b o,s₂.heap.get? b=some o->hp3.get? b=some o:=λb o e=>by rw[<-hH3];exact A5 _ e
 have up:∀b o,hp3.get? b=some o->h₁.get? b=some o:=λb o e=>hsb₁.extBut b o (B4 (show @LT.lt Nat _ b C by rw[<-hCn];exact A6 e)) (A5 _ e)
 
 have fpC:∀b∈fp,b < s₂.heap.objs.size:=λb hb=>by
  obtain⟨o,e,_⟩:=T.obj _ _ st2 b hb;exact A6 e
 have hcl:∀x c,cl.lookup x=some c->c < hp3.objs.size/\c∉fp/\(upd H2 Da (.lst [])) c=none:=λx c e=>by
  have e':=n.sub x c e;obtain⟨v,hv⟩:=I3.cell x c e';exact⟨hv.lt,λz=>(f2 c z).2.2.2.2.1 x c e' rfl,I3.freeC x c e'⟩
 let X':=j_4 X scope cl N' C {s₂ with heap:=hp3} (upd H2 Da (.lst [])) fp (X.pn ++ zd)
 have ok':X'.Ok:=by
  refine⟨I.ok.mod,n.kind,I.ok.glob,I.ok.blt,P9 hCe,λx y c h1 h2=>I.ok.inj x y c (n.sub x c h1) (n.sub y c h2),λx hx=>n.has x hx,λx c z=> ?_,I.ok.hd,I.ok.frames,.inl rfl,λb hb=>⟨?_,λx c e z=> ?_⟩,λb o e=> ?_, ?_,λb o e hb=> ?_,λb hb z=> ?_,I3.stack,I3.stkFree,I3.tab⟩
  ·exact absurd z A7
  ·exact B4 (B9 (fpC b hb) (show @LE.le Nat _ s₂.heap.objs.size C by omega))
  ·subst z;exact(hcl x c e).2.1 hb
  ·exact I3.bs b o e
  ·exact C7 I.ok.bsz I3.sz
  ·rcases(f2 b hb).2.2.2.1 with z|z
   ·exact I.ok.noex b o e z
   ·exact absurd (A6 (I.ok.bs b o e).1) (Nat.not_lt_of_le z)
  ·rcases C4.mp (I3.stkSub b z) with z|z
   ·exact(f2 b hb).2.1 z
   ·exact(f2 b hb).2.2.1 z
 have lenσ:σ.length=X.N.length:=I.len;have I4:Inv X' [] (σ ++ List.replicate m none) (upd H2 Da (.lst [])) {s₂ with heap:=h₁,toks:=s₂.toks + ([]:List (Str×Value)).length}:=by
  refine⟨ok',rfl,I2.bare,Un.kept up,⟨_,hns₁,λi x v e1 e2 e3=> ?_⟩,λx c e=> ?_, ?_,λx c e=>(hcl x c e).2.2,λp hp=> ?_,I3.hok.kept up, ?_⟩
  ·have hi:i < σ.length:=by
    by_cases hh:i < σ.length
    ·exact hh
    ·rw[D0 (),E8]at e2
     split at e2 <;> cases e2
   rw[B7 hi]at e2;obtain⟨n1,n2,⟨c,n3⟩,n4⟩:=n.old i x e1 () e3;obtain⟨mm,hnm,hl⟩:=I3.loc;obtain⟨u,r,l⟩:=hl i x v n1 e2 (.inr n2);refine⟨u,r,.inr ⟨n4,c,n3, ?_⟩⟩;have n3':=n.sub x c n3;rcases l with⟨k1,k2⟩|⟨k1,c',k2,k3⟩
   ·exfalso;have k1':X.env.scope.names.lookup x=some .local:=k1;rcases n2 with n2|n2
    ·rw[n2]at k1';cases k1'
    ·rw[n2]at k1';cases k1'
   ·rw[n3']at k2;cases k2;exact k3.keeps up
  ·obtain⟨v,hv⟩:=I3.cell x c (n.sub x c e);exact⟨v,hv.keeps up⟩
  ·show upd H2 Da (.lst []) C=none;exact I3.hok.fresh (by show hp3.objs.size<=C;omega)
  ·have hp':p∈X.pn ++ zd:=by
    have hp2:p∈(X.pn ++ zd) ++ []:=hp
    rwa[D7]at hp2
   obtain⟨z1,z2,z3,z4,z5⟩:=I3.pin p hp';refine⟨up _ _ z1,z2, ?_,λz=> ?_,z5⟩
   ·exact B4 (show @LT.lt Nat _ p.1 C by rw[<-hCn];exact A6 z1)
   ·rcases C4.mp (I3.stkSub p.1 z) with z|z
    ·exact z3 z
    ·exact z4 z
  ·rw[B5,G6,lenσ];exact hm.symm
 obtain⟨hgc,hct,hel⟩:=hin C {s₂ with heap:=hp3} (upd H2 Da (.lst [])) fp (X.pn ++ zd);have hS4:HasS X.K G2 (σ ++ List.replicate m none) (δ ++ List.replicate m none):=by
  refine⟨by rw[B5,B5,G6,G6,h0.len],λi d e=> ?_⟩
  by_cases hh:i < δ.length
  ·rw[B7 hh]at e;obtain⟨v,e1,r⟩:=h0.get i d e;exact⟨v,by rw[B7 (by rw[h0.len];exact hh)];exact e1,r⟩
  ·rw[D0 (),E8]at e
   split at e <;> cases e
 generalize hδ:δ ++ List.replicate m none=δ' at hS4 o;have stn:tn 0 h₁:=T.keep 0 _ _ st2 λb hb o e=>up b o (dq b o e);have fpn:∀b∈fp,(upd H2 Da (.lst [])) b=none:=λb hb=>by
  rw[Aq (B4 (show @LT.lt Nat _ b Da by rw[<-hDn];exact fpC b hb))];exact(f2 b hb).1
 have bp:∀{pl:AE} {H':Hp},pl= []->(∀b∈fp,H' b=none)->∀b∈fp,Ea X' pl H' b:=λ{pl H'} hpl hn b hb=>by
  subst hpl;refine⟨hn b hb, ?_,λz=> ?_,.inl hb,λx c e z=> ?_,λp hp z=> ?_⟩
  ·exact B4 (B9 (fpC b hb) (show @LE.le Nat _ s₂.heap.objs.size C by omega))
  ·rcases C4.mp (I3.stkSub b z) with z|z
   ·exact(f2 b hb).2.1 z
   ·exact(f2 b hb).2.2.1 z
  ·subst z;exact(hcl x c e).2.1 hb
  ·have hp':p∈X.pn ++ zd:=by
    have hp2:p∈(X.pn ++ zd) ++ []:=hp
    rwa[D7]at hp2
   exact(f2 b hb).2.2.2.2.2 p hp' z
 have loop:∀s4:Shared,Inv X' [] (σ ++ List.replicate m none) (upd H2 Da (.lst [])) s4->tn 0 s4.heap->codeAny (model X.prog X.w) X.A (.compLoop (.ListComp elt [⟨tg,iter,ifs,0⟩] scope pos) 0 (.ref it) (.ref Da) (compEnvC scope cl C X.env)) (RR (.ref Da) C) s4:=by
  intro s4 I4 tn4;refine aq_3 (λk s'=>∃i σ' H' G' vs rs,k=ds.length - i/\i<=ds.length/\Inv X' [] σ' H' s'/\tn i s'.heap/\(∀b∈fp,H' b=none)/\HasS X.K G' σ' δ'/\Step G2 H2 G' H'/\Same G2 G'/\H' Da=some (.lst vs)/\G' Da=none/\
   HasL X.K G' vs rs/\rs.length<=i/\(match n_1 fg p f δ' (ds.drop i) with| .ok rs2=>Bu m fi fg p f δ=.ok (.ow (.lst (rs ++ rs2)))| .ex x=>False| .no=>False)) ?_ ds.length
   ⟨0,_,_,G2,[],[],by simp,F7 _,I4,tn4,fpn,hS4,Step.own sg2 hfD _,Same.refl _,Bp,sg2.free hfD,.nil,F7 _,by simpa using o⟩
  rintro k s' ⟨i,σ',H',G',vs,rs,rfl,hi,I',tni,fn',hS,st,sg,hD,gD,rl,hl,o'⟩
  obtain⟨i1,i2⟩:=itd G' H' sg st.gh i
  by_cases hlt:i < ds.length
  ·obtain⟨d,e1,e2⟩:=ae_8 hlt;obtain⟨go,yl⟩:=i1 d e1;refine Ax (T.item X' rfl rfl rfl i [] s' σ' H' _ (hB _ _ _ _ _ I3) I' (bp rfl fn') tni go) λr s1 ⟨u,hr,h1⟩=> ?_;subst hr;refine Ax h1 λ_ s5 ⟨x,H5,I5,r5,y5,st5,fr5⟩=> ?_;obtain⟨G5,ae,hx5⟩:=yl x H5 y5;have I5':=I5.pinned (bp rfl fr5) (T.obj _ _ st5);rw[e2]at o';have o1:match((fg d δ').bind λ δ1=>(p δ1).bind λb=>if b=true then(f δ1).bind λw=>(n_1 fg p f δ' (ds.drop (i + 1))).bind λrs=> .ok (w.d::rs) else n_1 fg p f δ' (ds.drop (i + 1))) with| .ok rs2=>Bu m fi fg p f δ=.ok (.ow (.lst (rs ++ rs2)))| .ex x=>False| .no=>False:=o'
   have hS5:HasS X.K G5 σ' δ':=hS.mono ae.gg;refine D1 (hgc _ s5 σ' H5 x u (λ σ6 H6=>∃δ1,fg d δ'=.ok δ1/\H6=H5/\HasS X.K G5 σ6 δ1/\HasS X.K G5 σ6 δ') I5' r5 ⟨G5,δ',d,ae.gh,hS5,hx5, ?_⟩) (λ_ s6 ⟨σ6,H6,I6,δ1,e6,eH,hS6,hS6'⟩=> ?_) λ_ _ z=>False.elim z
   ·cases e6:fg d δ' with
    |ok δ1=>exact λ σ6 h6 h6'=>⟨δ1,rfl,rfl,h6,h6'⟩
    |ex x=>rw[e6]at o1;exact o1
    |no=>rw[e6]at o1;exact o1
   subst eH;rw[e6]at o1;simp only[R.bind_ok]at o1;refine D1 (hct _ s6 σ6 H6 (λb H7=>∃G7,p δ1=.ok b/\Step G5 H6 G7 H7) I6 ⟨G5,δ1,ae.gh,hS6, ?_⟩) (λb s7 ⟨H7,I7,G7,e7,stp7⟩=> ?_) λ_ _ z=>False.elim z
   ·cases e7:p δ1 with
    |ok b=>exact λG7 H7 st7=>⟨G7,rfl,st7⟩
    |ex x=>rw[e7]at o1;exact o1
    |no=>rw[e7]at o1;exact o1
   rw[e7]at o1;simp only[R.bind_ok]at o1
   
   have gD7:G7 Da=none:=(ae.trans stp7).nw Da gD (by rw[hD];simp);have hD7:H7 Da=some (.lst vs):=(ae.trans stp7).hh _ _ hD;have bf:∀{σ9:Sg} {H9:Hp} {s9:Shared},Inv X' ([] ++ ah_5 fp s5.heap) σ9 H9 s9->tn (i + 1) s9.heap/\∀b∈fp,H9 b=none:=λ{σ9 H9 s9} I9=>
    ⟨T.keep _ _ _ st5 λb hb o e=>(I9.pin (b,o) (A9 _ (A9 _ (o_1 hb e)))).1,λb hb=>by
     obtain⟨o,e,d⟩:=T.obj _ _ st5 b hb;exact(I9.pin (b,o) (A9 _ (A9 _ (o_1 hb e)))).2.1⟩
   have hSk:∀{G9:Hp},Same G7 G9->HasS X.K G9 σ6 δ':=λ{G9} sm=>hS6'.mono (stp7.gg.trans sm);cases b with
   |false=>
    rw[if_neg A7]at o1⊢;exact⟨ds.length - (i + 1),by omega,i + 1,σ6,H7,G7,vs,rs,rfl,hlt,I7.unpinned,(bf I7).1,(bf I7).2,hSk (Same.refl _),st.trans (ae.trans stp7),sg.trans (ae.gg.trans stp7.gg),hD7,gD7,rl.mono (ae.gg.trans stp7.gg),by omega,o1⟩
   |true=>
    rw[if_pos rfl]at o1⊢;refine D1 (hel _ s7 σ6 H7 (λv H8=>∃w G8,f δ1=.ok w/\Step G7 H7 G8 H8/\Has X.K G8 v w.d) I7 ⟨G7,δ1,stp7.gh,hS6.mono stp7.gg, ?_⟩) (λu8 s8 ⟨v8,H8,I8,r8,w8,G8,e8,stp8,hv8⟩=> ?_) λ_ _ z=>False.elim z
    ·cases e8:f δ1 with
     |ok w=>exact WP.intro λv G8 H8 st8 r8=>⟨w,G8,rfl,st8,r8⟩
     |ex x=>rw[e8]at o1;exact o1
     |no=>rw[e8]at o1;exact o1
    rw[e8]at o1;simp only[R.bind_ok]at o1;have gD8:G8 Da=none:=stp8.nw Da gD7 (by rw[hD7];simp);have hD8:H8 Da=some (.lst vs):=stp8.hh _ _ hD7;have rl8:HasL X.K G8 vs rs:=rl.mono (ae.gg.trans (stp7.gg.trans stp8.gg));refine D1 (q_8 (X:=X') _ s8 σ6 H8 (.ref Da) [v8] (.ref Da) [u8] (λ_ H9=>H9=upd H8 Da (.lst (vs ++ [v8]))) I8 rfl (.cons r8 .nil) ⟨Da,vs,v8,rfl,rfl,hD8,by rw[rl.length,D2];omega,rfl⟩) (λ_ s9 ⟨_,H9,I9,_,e9⟩=> ?_) λ_ _ z=>False.elim z;subst e9;have stA:=st.trans (ae.trans (stp7.trans stp8));refine⟨ds.length - (i + 1),by omega,i + 1,σ6,_,G8,vs ++ [v8],rs ++ [w8.d],rfl,hlt,I9.unpinned,(bf I9).1,(bf I9).2,hSk stp8.gg,⟨λb o z=> ?_,λb o z=> ?_,stA.gg,stA.nw⟩,sg.trans (ae.gg.trans (stp7.gg.trans stp8.gg)),Bp,gD8,rl8.append (.cons hv8 .nil),by rw[B5,L8];omega, ?_⟩
    ·rw[Aq (Co z hfD)];exact stA.hh b o z
    ·rw[Aq (Co z gD8)];exact stp8.gh b o z
    ·cases e10:n_1 fg p f δ' (ds.drop (i + 1)) with
     |ok rs2=>
      rw[e10]at o1;simp only[R.bind_ok]at o1⊢;rw[M9];exact o1
     |ex x=>rw[e10]at o1;exact o1
     |no=>rw[e10]at o1;exact o1
  ·have e:ds.length=i:=by omega
   refine Ax (T.done X' rfl rfl rfl i [] s' σ' H' _ (hB _ _ _ _ _ I3) I' (bp rfl fn') tni (i2 e)) λr s1 ⟨hr,I1⟩=> ?_;subst hr;rw[U6 ()]at o';have o1:Bu m fi fg p f δ=.ok (.ow (.lst (rs ++ []))):=o';rw[D7]at o1;obtain⟨mm,hnm,_⟩:=I1.loc;have de:Inv X zd σ H' s1:=I3.call' (s':=s1) (ch:=fp) I1.os I1.base I1.hok I1.bare λb hb=>by
    obtain⟨f0,f1',f2',f3,f4,f5⟩:=f2 b hb;exact⟨f3,f1',f4,f5⟩
   exact hRR Da C s1 G2 H2 G' H' vs rs o1 de ⟨mm,hnm⟩ (I3.fpOk (by show hp3.objs.size<=C;omega) I1.free) hz2 st hfD hD gD rl
 exact ZB5 (loop _ I4 stn) (T.self X.A 0 _ _ _ stn (loop _ I4 stn))
structure CompOk(X:Cx)(scope:Scope)(N':List Str)(m:Nat)(tg:Expr)(ifs:List Expr)(elt:Expr)(fg:Et)(p:FT)(f:FE):Prop where
 hk:scope.kind=.function
 hb:Ex scope.names X.env.scope.names X.N N'=true
 hm:N'.length=X.N.length + m
 hin:∀C s0 H0 fp pn,GC (j_4 X scope (Dg X.env.cells scope.names []) N' C s0 H0 fp pn) Ds tg fg/\CTs (j_4 X scope (Dg X.env.cells scope.names []) N' C s0 H0 fp pn) Ds ifs p/\ED (j_4 X scope (Dg X.env.cells scope.names []) N' C s0 H0 fp pn) Ds elt f
def SrcC(X:Cx)(B:Cx->Prop)(tg iter:Expr)(fi:FI):Prop:=
 ∀(zd:AE) (s:Shared) (σ:Sg) (G H:Hp) (δ:DE) (ds:List D),Inv X zd σ H s->Same G H->HasS X.K G σ δ->fi δ=.ok ds->∃Z:Hp->Hp->Prop,
  (∀G2 H2,Z G2 H2->Same G2 H2/\HasS X.K G2 σ δ)/\
  wpAny (model X.prog X.w) X.A (eval iter X.env) (λxv s₁=>wpAny (model X.prog X.w) X.A (pyIter xv) (λitv s₂=>∃(it:Addr) (fp:List Addr) (tn:Nat->Heap->Prop) (J:It) (H2 G2:Hp),itv=.ref it/\Inv X zd σ H2 s₂/\TurnZ X.prog X.w X.K tg J fp it tn B/\tn 0 s₂.heap/\(∀b∈fp,Ea X zd H2 b)/\Z G2 H2/\ItD X.K G2 J ds) X.xe s₁) X.xe s/\
  ∀(Da C:Addr) (s1:Shared) (G2 H2 G' H':Hp) (vs:List V) (rs:List D),Inv X zd σ H' s1->Ea X zd H' C->Z G2 H2->Step G2 H2 G' H'->H2 Da=none->H' Da=some (.lst vs)->G' Da=none->HasL X.K G' vs rs->
   ∃G' H',Inv X zd σ H' s1/\Ea X zd H' C/\Step G H G' H'/\H Da=none/\H' Da=some (.lst vs)/\G' Da=none/\HasL X.K G' vs rs
def ck_9{iter tg:Expr}{fi:FI}{B:Cx->Prop}(hi:PIZ X B tg iter (tI X.K Ds fi)):SrcC X B tg iter fi:=λzd s σ G H δ ds I g0 h0 ed=>by
 refine⟨Step G H,λG2 H2 z=>⟨z.gh,h0.mono z.gg⟩,D1 (hi zd s σ H (λJ H2=>∃G2,Step G H G2 H2/\ItD X.K G2 J ds) I ⟨G,δ,g0,h0, ?_⟩) (λxv s₁ h₁=>D1 h₁ (λitv s₂ h₂=> ?_) λ_ _ e=>e) (λ_ _ e=>e),λDa C s1 G2 H2 G' H' vs rs Io fc z st h1 h2 h3 rl=>⟨G',H',Io,fc,z.trans st,z.hh.free h1,h2,h3,rl⟩⟩
 ·rw[ed];exact λJ G2 H2 st it=>⟨G2,st,it⟩
 ·obtain⟨it,fp,tn,J,H2,rfl,I2,T,st2,f2,G2,stp,itd⟩:=h₂;exact⟨it,fp,tn,J,H2,G2,rfl,I2,T,st2,f2,stp,itd⟩
def Eb{iter tg:Expr}{fi:FI}(hi:ID X Ds tg iter fi):SrcC X ak_1 tg iter fi:=ck_9 (PI.z hi)
section
variable{elt iter tg:Expr}{ifs:List Expr}{scope:Scope}{N':List Str}{fi:FI}{fg:Et}{p:FT}{f:FE}{m:Nat}
def aq_6(hx0:∀e s,¬X.xe e s){B:Cx->Prop}(src:SrcC X B tg iter fi)(ho:CompOk X scope N' m tg ifs elt fg p f)
  {zd:AE} {s:Shared} {σ:Sg} {G H:Hp} {δ:DE} (I:Inv X zd σ H s) (g0:Same G H) (h0:HasS X.K G σ δ) (hB:∀C s0 H0 fp pn,Inv X zd σ H0 s0->B (j_4 X scope (Dg X.env.cells scope.names []) N' C s0 H0 fp pn)) {RR:Value->Addr->Result->Shared->Prop}
  (o:match Bu m fi fg p f δ with| .ok _=>True| .ex x=>False| .no=>False)
  (hRR:∀(Da C:Addr) (s1:Shared) (G' H':Hp) (vs:List V) (rs:List D),Bu m fi fg p f δ=.ok (.ow (.lst rs))->Inv X zd σ H' s1->(∃m,s1.heap.Ns C m)->Ea X zd H' C->Step G H G' H'->H Da=none->H' Da=some (.lst vs)->G' Da=none->HasL X.K G' vs rs->RR (.ref Da) C (.ok .next) s1):
  wpAny (model X.prog X.w) X.A (eval iter X.env) (λx s₁=>wpAny (model X.prog X.w) X.A (pyIter x) (λit s₂=>wpAny (model X.prog X.w) X.A (newList []) (λzn s₃=>
   wpAny (model X.prog X.w) X.A (newFunctionEnv scope X.env.globals (Dg X.env.cells scope.names []) [] X.env.qual none .none (some X.env)) (λcenv s₄=>
    codeAny (model X.prog X.w) X.A (.compStart (.ListComp elt [⟨tg,iter,ifs,0⟩] scope pos) 0 it zn {cenv with scope:=relabel scope X.env}) (RR zn cenv.locals) s₄) X.xe s₃) X.xe s₂) X.xe s₁) X.xe s:=by
 obtain⟨ds,ed⟩:∃ds,fi δ=.ok ds:=by
  unfold Bu at o;cases e:fi δ with
  |ok ds=>exact⟨ds,rfl⟩
  |ex x=>rw[e]at o;exact o.elim
  |no=>rw[e]at o;exact o.elim
 obtain⟨Z,z1,z2,z3⟩:=src zd s σ G H δ ds I g0 h0 ed;refine cd_6 hx0 (B:=B) ho.hk ho.hb ho.hm ho.hin I (Z:=Z) z1 hB (D1 z2 (λ_ _ h=>D1 h (λ_ _ ⟨it,fp,tn,J,H2,G2,a,b,c,d,e,z,i⟩=>⟨it,fp,tn,J,H2,ds,G2,a,b,c,d,e,ed,z,i⟩) λ_ _ e=>e) λ_ _ e=>e) o λDa C s1 G2 H2 G' H' vs rs e Io hm' fc z st h1 h2 h3 rl=> ?_;obtain⟨G'',H'',x1,x2,x3,x4,x5,x6,x7⟩:=z3 Da C s1 G2 H2 G' H' vs rs Io fc z st h1 h2 h3 rl;exact hRR Da C s1 G'' H'' vs rs e x1 hm' x2 x3 x4 x5 x6 x7
def cd_7(hx0:∀e s,¬X.xe e s){B:Cx->Prop}(hB:∀zd σ C s0 H0 fp pn,Inv X zd σ H0 s0->B (j_4 X scope (Dg X.env.cells scope.names []) N' C s0 H0 fp pn))(src:SrcC X B tg iter fi)(ho:CompOk X scope N' m tg ifs elt fg p f)
  (hs:∀x,foldedSetIterable iter X.env x=pure x:=by intro _;rfl):ED X Ds (.ListComp elt [⟨tg,iter,ifs,0⟩] scope pos) (Bu m fi fg p f):=by
 intro zd s σ H Q I q;obtain⟨G,δ,g0,h0,o⟩:=q;rw[eval_ListComp];have n:=y_1 I.ok ho.hk ho.hb;refine T4 (use:=none) rfl hs n.clos n.kind n.names (aq_6 (RR:=λzn C=>compPost (model X.prog X.w) X.A X.xe none (EP X zd σ Q) zn C) hx0 src ho I g0 h0 (hB _ _) ?_ λDa C s1 G' H' vs rs e Io hm' fc st h1 h2 h3 rl=> ?_)
 ·cases e:Bu m fi fg p f δ with
  |ok w=>trivial
  |ex x=>rw[e]at o;exact o
  |no=>rw[e]at o;exact o
 ·rw[e]at o;obtain⟨mm,hnm⟩:=hm';obtain⟨c0,c1,c2,c3,c4,c5⟩:=fc;exact⟨mm,hnm,λh' sb=>⟨.ref Da,H',Io.turned (t':=s1.toks) (λb ob hb e=>(sb.2 b hb).trans e) c0 c1 c3 c4 c5,rfl,o (.ref Da) (λb=>b=Da) G' H' st (λa e=>by subst e;exact⟨h1,h3,by rw[h2];simp⟩) (.list h2 rfl rl)⟩⟩
def o_7(hc:X.calm=true)(src:SrcC X.nox ak_1 tg iter fi)(ho:CompOk X scope N' m tg ifs elt fg p f)
  (hs:∀x,foldedSetIterable iter X.env x=pure x:=by intro _;rfl):ED X EX (.ListComp elt [⟨tg,iter,ifs,0⟩] scope pos) (Bu m fi fg p f):=
 PE.imp (PE.nox (cd_7 (X:=X.nox) (λ_ _ z=>z) (B:=ak_1) (λ_ _ _ _ _ _ _ _=>hc) src ⟨ho.hk,ho.hb,ho.hm,ho.hin⟩ hs)) λ σ H Q ⟨G,δ,g0,h0,o⟩=>by
  refine⟨G,δ,g0,h0, ?_⟩;cases e:Bu m fi fg p f δ with
  |ok w=>rw[e]at o;exact o
  |ex x=>exact(bk_8 e).elim
  |no=>rw[e]at o;exact o
end
theorem PS.nox{st:Stmt}{t:TS}(h:PS X.nox st t):PS X st t:=λzd s σ H D I hw=>
 D1 (h zd s σ H D (I.wish _) hw) (λ_ _ q=>q.unwish) λ_ _ z=>False.elim z
def bx_3{i:Nat}{js:List Nat}{f:FE}(h:∀δ x,f δ≠ .ex x){Δ Δ':SE}{x:Xn}(e:Aj i js f Δ=.ex x Δ'):False:=by
 unfold Aj at e;have hp:∀Δ2,Dv i Δ2 (f (Bf Δ2))=.ex x Δ'->False:=λ Δ2 e2=>by
  unfold Dv at e2;cases q:f (Bf Δ2) with
  |ok w=>rw[q]at e2;cases w <;> cases e2
  |ex y=>exact h _ _ q
  |no=>rw[q]at e2;cases e2
 cases q:f (Bf Δ) with
 |ok w=>rw[q]at e;cases w <;> cases e
 |ex y=>exact h _ _ q
 |no=>
  rw[q]at e;cases q2:f (Au Δ) with
  |ok w=>
   simp only[q2]at e
   split at e
   ·cases e
   ·exact hp _ e
  |ex y=>exact h _ _ q2
  |no=>simp only[q2]at e;cases e
def cl_0{elt iter tg:Expr}{ifs:List Expr}{scope:Scope}{N':List Str}{fi:FI}{fg:Et}{p:FT}{f:FE}{m i:Nat}{y:Str}{py aw:Pos}(hx0:∀e s,¬X.xe e s)(hc:X.calm=true)(src:SrcC X ak_1 tg iter fi)(ho:CompOk X scope N' m tg ifs elt fg p f)
  (hN:X.N.Nodup) (hy:X.N[i]? =some y) (hx:Loc X.env.scope y) (hf:X.fn y=true\/X.env.scope.names.lookup y=some .local)
  (hsw:swapsWith (.ListComp elt [⟨tg,iter,ifs,0⟩] scope pos) (some (.Name y py)) aw.line X.env=pure true)
  (hs:∀x,foldedSetIterable iter X.env x=pure x):PS X (.Assign [.Name y py] (.ListComp elt [⟨tg,iter,ifs,0⟩] scope pos) aw) (tAsg (tD X.K Ds (Bu m fi fg p f)) (ax_5 i)):=by
 intro zd s σ H D I q;obtain⟨G,δ,g0,h0,o⟩:=q;have n:=y_1 I.ok ho.hk ho.hb;rw[exec_Assign_Name_used _ _ _ _ hsw];refine A4 (O6 (A4 ?_));show wpAny _ X.A (do let _<-comprehension (.ListComp elt [⟨tg,iter,ifs,0⟩] scope pos) scope X.env _ (newList []) false (eval iter X.env) (some (assign (.Name y py) X.env))) _ _ s;refine A4 (D1 (T4 (use:=some (assign (.Name y py) X.env)) (Q:=λ_ s'=>SP X zd D .next s') rfl hs n.clos n.kind n.names
  (aq_6 (RR:=λzn C=>compPost (model X.prog X.w) X.A X.xe (some (assign (.Name y py) X.env)) (λ_ s'=>SP X zd D .next s') zn C) hx0 src ho I g0 h0 (λ_ _ _ _ _ _=>hc) ?_ λDa C s1 G' H' vs rs e Io hm' fc st h1 h2 h3 rl=> ?_)) (λ_ s' hq=>C5 (C5 hq)) λ_ _ e=>e)
 ·cases e:Bu m fi fg p f δ with
  |ok w=>trivial
  |ex x=>rw[e]at o;exact o
  |no=>rw[e]at o;exact o
 ·rw[e]at o;obtain⟨mm,hnm⟩:=hm';obtain⟨c0,c1,c2,c3,c4,c5⟩:=fc;show wpAny _ X.A (assign (.Name y py) X.env (.ref Da)) _ _ _;refine Z2 (ah_4 Io hN hy hx (v:=.ref Da) rfl (λs2 I2 ⟨a,sb,ha⟩=> ?_) hf);have hCa:C≠a:=by
   rcases ha with rfl|ha
   ·exact c1
   ·exact λz=>c4 y a ha z.symm
  refine⟨mm,hnm.sameBut sb hCa,λh' sb'=>⟨_,H',I2.turned (t':=s2.toks) (λb ob hb e=>(sb'.2 b hb).trans e) c0 c1 c3 c4 c5, ?_⟩⟩;exact o (.ref Da) (λb=>b=Da) G' H' st (λa e=>by subst e;exact⟨h1,h3,by rw[h2];simp⟩) (.list h2 rfl rl)
def bx_4(js:List Nat){elt iter tg:Expr}{ifs:List Expr}{scope:Scope}{N':List Str}{fi:FI}{fg:Et}{p:FT}{f:FE}{m i:Nat}{y:Str}{py aw:Pos}(hc:X.calm=true)(src:SrcC X.nox ak_1 tg iter fi)(ho:CompOk X scope N' m tg ifs elt fg p f)
  (hN:X.N.Nodup) (hy:X.N[i]? =some y:=by rfl) (hx:Loc X.env.scope y:=by trivial) (hf:X.fn y=true\/X.env.scope.names.lookup y=some .local:=by trivial)
  (hsw:swapsWith (.ListComp elt [⟨tg,iter,ifs,0⟩] scope pos) (some (.Name y py)) aw.line X.env=pure true:=by rfl)
  (hs:∀x,foldedSetIterable iter X.env x=pure x:=by intro _;rfl):SD X EX (.Assign [.Name y py] (.ListComp elt [⟨tg,iter,ifs,0⟩] scope pos) aw) (Aj i js (Bu m fi fg p f)):=
 PS.imp (PS.nox (cl_0 (X:=X.nox) (λ_ _ z=>z) hc src ⟨ho.hk,ho.hb,ho.hm,ho.hin⟩ hN hy hx hf hsw hs)) λD σ H ⟨H0,G0,G,Δ,O,E,q⟩=>by
  refine aq_2 (EX:=Ds) (js:=js) ⟨H0,G0,G,Δ,O,E, ?_⟩;cases e:Aj i js (Bu m fi fg p f) Δ with
  |ex x Δ'=>exact(bx_3 (λ_ _ z=>bk_8 z) e).elim
  |_=>rw[e]at q;exact q
end
def ah_8:bootBuiltins "bool" =some (.type "bool"):=by decide +kernel
def i_7{k:Nat}{scope:Scope}{cl:List (Str×Addr)}{N':List Str}{C:Addr}{s0:Shared}{H0:Hp}{fp:List Addr}{pn:AE}{c:Bool}(h:RoomC c k (Cx.A X)):RoomC c k (Cx.A (j_4 X scope cl N' C s0 H0 fp pn)):=h
def cd_8{scope:Scope}{cl:List (Str×Addr)}{N':List Str}{C:Addr}{s0:Shared}{H0:Hp}{fp:List Addr}{pn:AE}(h:Cx.calm X=true):Cx.calm (j_4 X scope cl N' C s0 H0 fp pn)=true:=h
section
variable{X:Cx}{EX:Az}{a b e:Expr}{es:List Expr}{f g:FE}{fa:FA}{pos p2:Pos}
abbrev FO:=DE->R (Option Int)
def tDo(K:Frag)(EX:Az)(fo:FO):TO:=λ σ H Q=>∃G δ,Same G H/\HasS K G σ δ/\match fo δ with
 | .ok i=>∀G' H',Step G H G' H'->Q i H'
 | .ex x=>(EX σ).p x G H
 | .no=>False
abbrev OD(X:Cx)(EX:Az)(e:Option Expr)(fo:FO):Prop:=PO X e (tDo X.K EX fo)
def oNone:FO:=λ_=> .ok none
def intPart:D->R (Option Int)
 | .int i=> .ok (some i)
 |_=> .no
def Fv(f:FE):FO:=λ δ=>(f δ).bind λw=>intPart w.d
def PO.imp{e:Option Expr}{t t':TO}(h:PO X e t)(i:∀σ H Q,t' σ H Q->t σ H Q):PO X e t':=λzd s σ H Q I q=>h zd s σ H Q I (i σ H Q q)
def cw_9:OD X EX none oNone:=PO.imp cu_8 λ σ H Q ⟨G,δ,g,s,o⟩=>o G H (Step.refl g)
def cx_0(h:ED X EX e f):OD X EX (some e) (Fv f):=PO.imp (cu_9 h) λ σ H Q ⟨G,δ,g,s,o⟩=>by
 refine⟨G,δ,g,s, ?_⟩;unfold Fv at o;cases e1:f δ with
 |ok w=>
  rw[e1]at o;simp only[R.bind_ok]at o;refine WP.intro λv G' H' st r=> ?_;revert r o;cases w.d with
  |int i=>intro o r;cases r;exact⟨i,rfl,o G' H' st⟩
  |_=>intro o _;exact False.elim o
 |ex x=>rw[e1]at o;exact o
 |no=>rw[e1]at o;exact o
def cutL{α:Type}(xs:List α)(lo hi:Option Int):List α:=(xs.drop (HT.sIx xs.length 0 lo)).take (HT.sIx xs.length xs.length hi - HT.sIx xs.length 0 lo)
def be_4:D->Option Int->Option Int->R W
 | .lst ds,lo,hi=> .ok (.ow (.lst (cutL ds lo hi)))
 | .str x,lo,hi=>if x.length<=16777216 then .ok (.sh (.str (Txt.slice x lo hi))) else .no
 |_,_,_=> .no
def dk_2:SlR X (λx lo hi H Q=>∃z,x=.str z/\z.length<=sizeLine/\Q (.str (Txt.slice z lo hi)) H):=by
 intro zd s σ H x v vl vu lo hi sl Q I rx hs pl pu h;obtain⟨z,rfl,hz,q⟩:=h;obtain⟨t,rfl⟩:=rx;refine⟨"str",_,PySem.F.slot_str_getitem.lookup,typeIs_str _ _ _, ?_⟩;obtain⟨o,ho,hc,hd⟩:=hs;have fin:∀t' k,EP X zd σ Q (.str (Txt.slice z lo hi) t') {s with toks:=k}:=λt' k=>⟨.str _,H,I.tok _,⟨_,rfl⟩,q⟩;cases pl with
 |none=>
  cases pu with
  |none=>exact R0 (l:=none) (u:=none) (st:=none) ⟨o,ho,hc,hd⟩ rfl (X4 ⟨C7 (ZB6 z _ _) hz,fin⟩)
  |int j uj=>exact R0 (l:=none) (u:=some (j,uj)) (st:=none) ⟨o,ho,hc,hd⟩ rfl (X4 ⟨C7 (ZB6 z _ _) hz,fin⟩)
 |int i ui=>
  cases pu with
  |none=>exact R0 (l:=some (i,ui)) (u:=none) (st:=none) ⟨o,ho,hc,hd⟩ rfl (X4 ⟨C7 (ZB6 z _ _) hz,fin⟩)
  |int j uj=>exact R0 (l:=some (i,ui)) (u:=some (j,uj)) (st:=none) ⟨o,ho,hc,hd⟩ rfl (X4 ⟨C7 (ZB6 z _ _) hz,fin⟩)
def rSlD(K:Frag):V->Option Int->Option Int->Hp->VK->Prop:=λx lo hi H Q=>∃(EX:EXT) (G:Hp) (d:D),Same G H/\Has K G x d/\Out K EX G H (be_4 d lo hi) Q
def sl_d:SlR X (rSlD X.K):=by
 intro zd s σ H x v vl vu lo hi sl Q I rx hs pl pu h;obtain⟨EX,G,d,g,r,o⟩:=h;cases r with
 |lst h r=>
  rename_i vs ds;refine cv_0 zd s σ H _ v vl vu lo hi sl Q I rx hs pl pu ⟨_,_,rfl,g.seq h,λp hp=> ?_⟩;have jg:HasL X.K G (cutV vs lo hi) (cutL ds lo hi):=by
   unfold cutV cutL;rw[r.length];exact(r.drop _).take _
  exact q_3 o g jg p hp
 |str z=>
  simp only[be_4]at o
  split at o
  ·rename_i hz;exact dk_2 zd s σ H _ v vl vu lo hi sl Q I rx hs pl pu ⟨z,rfl,by rw[D2];exact hz,Cq o g (.str _)⟩
  ·exact o.elim
 |_=>exact False.elim o
def Dw(f:FE)(lo hi:FO):FE:=λ δ=>(f δ).bind λw=>(lo δ).bind λl=>(hi δ).bind λu=>be_4 w.d l u
def tDo.seq{G H:Hp}{σ:Sg}{δ:DE}{fo:FO}{k:Option Int->R W}{Q:VK}{P:Option Int->Hp->Prop}(g:Same G H)(s:HasS K G σ δ)(h:Out K (EX σ) G H ((fo δ).bind k) Q)
  (i:∀b G' H',fo δ=.ok b->Step G H G' H'->Out K (EX σ) G' H' (k b) Q->P b H'):tDo K EX fo σ H P:=by
 refine⟨G,δ,g,s, ?_⟩;cases e:fo δ with
 |ok w=>rw[e]at h;exact λG' H' st=>i w G' H' e st (Out.mono st h)
 |ex x=>rw[e]at h;exact h
 |no=>rw[e]at h;exact h
def cl_1{lo hi:Option Expr}{fl fh:FO}(he:ED X EX e f)(hl:OD X EX lo fl)(hu:OD X EX hi fh):ED X EX (.Subscript e (.Slice lo hi none p2) pos) (Dw f fl fh):=
 PE.imp (ci_2 sl_d he hl hu) λ σ H Q ⟨G,δ,g0,s0,o⟩=>tD.seq g0 s0 o λw v G1 H1 _ st1 r1 o1=>tDo.seq st1.gh (s0.mono st1.gg) o1 λl G2 H2 _ st2 o2=>
  tDo.seq st2.gh (s0.mono (st1.gg.trans st2.gg)) o2 λu G3 H3 _ st3 o3=>⟨_,G3,w.d,st3.gh,r1.mono (st2.gg.trans st3.gg),o3⟩
def tyD(T:String):D->Bool
 | .str _=>T == "str"
 | .int _=>T == "int"
 | .lst _=>T == "list"
 |_=>false
def dq_4{G H:Hp}{T:String}{v:V}{d:D}(g:Same G H)(r:Has K G v d)(h:tyD T d=true):tyV K T v H:=by
 cases r with
 |str x=>exact eq_of_beq h
 |int i=>exact eq_of_beq h
 |lst hq r=>exact .inl ⟨eq_of_beq h,_,g.seq hq⟩
 |_=>cases h
def rDm(K:Frag)(fn:D->AF):V->List V->Hp->VK->Prop:=λx vs H Q=>∃(EX:EXT) (G:Hp) (d:D) (ds:List D),Same G H/\Has K G x d/\HasL K G vs ds/\Out K EX G H (fn d ds) Q
abbrev MtD(X:Cx)(id:String)(fn:D->AF):Prop:=MtR X id (rDm X.K fn)
def eMeth(T:String)(fn:D->AF)(f:FE)(fa:FA):FE:=λ δ=>(f δ).bind λw=>if tyD T w.d=true then(fa δ).bind λds=>fn w.d ds else .no
variable{o:Expr}{name:Str}{zh zf:Pos}{T id:String}{fn:D->AF}
def bx_5(pa:PlainAttrs T)(slot:Slot T name id)(hty:typeOf (.builtin id)=pure (.type "method_descriptor"))(hm:MtD X id fn)(ho:ED X EX o f)(ha:AD X EX (e::es) fa)
  (ag:attributeBase o name X.env (eval o X.env)=eval o X.env:=by rfl)
  (ax:((backTo zf (starEach (e::es) X.env)).all (λx=> !x.1) && (backToKw zf (keywordEach [] X.env)).all (λx=>x.1.isSome)
   && decide ((e::es).length + ([]:List Keyword).length + (if([]:List Keyword).isEmpty then 0 else 1) < 30))=true:=by rfl)
  (af:(zh.endLine ==zf.line)=true:=by rfl) (hs:starEach (e::es) X.env=(false,eval e X.env)::starEach es X.env:=by rfl) (aa:(backTo zf (starEach es X.env)).any (·.1)=false:=by rfl):
  ED X EX (.Call (.Attribute o name zh) (e::es) [] zf) (eMeth T fn f fa):=
 PE.imp (bj_8 pa slot hty hm ho ha ag ax af hs aa) λ σ H Q ⟨G,δ,g0,s0,o⟩=>tD.seq g0 s0 o λw v G1 H1 _ st1 r1 o1=>by
  split at o1
  ·rename_i ht;exact⟨dq_4 st1.gh r1 ht,tDa.seq st1.gh (s0.mono st1.gg) o1 λds vs G2 H2 _ st2 r2 o2=>⟨_,G2,w.d,ds,st2.gh,r1.mono st2.gg,r2,o2⟩⟩
  ·exact o1.elim
def eMeth0(T:String)(fn:D->AF)(f:FE):FE:=λ δ=>(f δ).bind λw=>if tyD T w.d=true then fn w.d [] else .no
def bx_6{G:Hp}{v:V}{d:D}{vs:List V}{ds:List D}(r:Has K G v d)(rl:HasL K G vs ds){P:Prop}(h:∀x y,v=.str x->d=.str x->vs= [.str y]->ds= [.str y]->P)(n:(∀x y,¬(d=.str x/\ds= [.str y]))->P):P:=by
 by_cases e:∃x y,d=.str x/\ds= [.str y]
 ·obtain⟨x,y,rfl,rfl⟩:=e;cases r;cases rl with
  |cons a t=>cases a;cases t;exact h x y rfl rfl rfl rfl
 ·exact n λx y z=>e ⟨x,y,z⟩
def bl_0:D->List D->R W
 | .str x,[.str y]=> .ok (.sh (.int (Txt.find x y)))
 |_,_=> .no
def cl_2:MtD X "str.find" bl_0:=by
 intro zd s σ H x vs v us Q I rx rv h;obtain⟨EX,G,d,ds,g,r,rl,o⟩:=h;refine bx_6 r rl (λx y e1 e2 e3 e4=> ?_) λn=> ?_
 ·subst e1 e2 e3 e4;obtain⟨t,rfl⟩:=rx;obtain⟨u,rfl,t',rfl⟩:=rv.one;exact SC.find ⟨.int _,H,I.tok _,⟨_,rfl⟩,Cq o g (.int _)⟩
 ·have e:bl_0 d ds=.no:=by
   unfold bl_0
   split
   ·rename_i x y;exact absurd ⟨rfl,rfl⟩ (n x y)
   ·rfl
  rw[e]at o;exact o.elim
def Cr(T:String):D->Option Bool
 | .non=>some false
 | .bl _=>some (T == "bool" || T == "int")
 | .int _=>some (T == "int")
 | .str _=>some (T == "str")
 | .lst _=>some (T == "list")
 | .tup _=>some (T == "tuple")
 |_=>none
def eIs(T:String)(f:FE):FE:=λ δ=>(f δ).bind λw=>match Cr T w.d with
 |some k=> .ok (.sh (.bl k))
 |none=> .no
structure KitT(K:Frag)(T:String):Prop where
 non:kitOne K (.type "NoneType") (.type T)=some false
 bl:kitOne K (.type "bool") (.type T)=some (T == "bool" || T == "int")
 int:kitOne K (.type "int") (.type T)=some (T == "int")
 str:kitOne K (.type "str") (.type T)=some (T == "str")
 lst:kitOne K (.type "list") (.type T)=some (T == "list")
 tup:kitOne K (.type "tuple") (.type T)=some (T == "tuple")
def cl_3{T:String}(k:KitT X.K T):CallR X (.builtin "isinstance") (λxs H Q=>∃G x d b,xs= [x,.ty T]/\Same G H/\Has X.K G x d/\Cr T d=some b/\Q (.bl b) H):=by
 intro zd s σ H xs us Q I rv h;obtain⟨G,x,d,b,rfl,g,r,e,q⟩:=h;obtain⟨u,u2,rfl,r1,r2⟩:=rv.two;cases r2;have fin:∀tk,EP X zd σ Q (.bool b) {s with toks:=tk}:=λtk=>⟨.bl b,H,I.tok _,rfl,q⟩;cases r with
 |non=>cases r1;exact kia_one kitx_none I.kIn True.intro (k.non.trans e) (λz=>nomatch z) fin
 |bl y=>cases r1;exact kia_one kitx_bool I.kIn True.intro (k.bl.trans e) (λz=>nomatch z) fin
 |int i=>obtain⟨t,rfl⟩:=r1;exact kia_one kitx_int I.kIn True.intro (k.int.trans e) (λz=>nomatch z) fin
 |str y=>obtain⟨t,rfl⟩:=r1;exact kia_one kitx_str I.kIn True.intro (k.str.trans e) (λz=>nomatch z) fin
 |lst h r=>
  cases r1;obtain⟨its,_,⟨ob,n,e1,c,_,_⟩,_⟩:=I.list (g.seq h);exact kia_one kitx_list I.kIn ⟨ob,e1,c⟩ (k.lst.trans e) (λz=>nomatch z) fin
 |tup h r=>
  cases r1;obtain⟨its,_,⟨ob,e1,c,_⟩,_⟩:=I.tuple (Same.tupS g h);exact kia_one kitx_tuple I.kIn ⟨ob,e1,c⟩ (k.tup.trans e) (λz=>nomatch z) fin
 |exn0 _ _=>cases e
 |exn1 _ _ _ _ _=>cases e
 |dic _ _ _=>cases e
 |obj _ _ _ _=>cases e
def r_2{Tn:Str}{T:String}{pp p3:Pos}(k:KitT X.K T)(ha:ED X EX a f)(hm:X.mg "isinstance" =none)(hmT:X.mg Tn=none)(hvT:bootBuiltins Tn=some (.type T))(hg:Gl X "isinstance" :=by rfl)(hgT:Gl X Tn:=by rfl)
  (hn:Tn≠ "__name__" :=by decide) (hdT:AG Tn:=by decide)
  (he:starEach [a,.Name Tn p3] X.env=(false,eval a X.env)::starEach [.Name Tn p3] X.env:=by rfl) (hpl:(backTo pos (starEach [.Name Tn p3] X.env)).any (·.1)=false:=by rfl)
  (hs:starEach [.Name Tn p3] X.env=(false,eval (.Name Tn p3) X.env)::starEach [] X.env:=by rfl):ED X EX (.Call (.Name "isinstance" pp) [a,.Name Tn p3] [] pos) (eIs T f):=
 PE.imp (bj_6 (cl_3 k) hg hm boot_isinstance (j_9 ha (j_9 (ct_9 (v:=.ty T) hgT hmT hvT rfl hn hdT) p_4 hs) he) ⋯ ⋯ he hpl) λ σ H Q ⟨G,δ,g0,s0,o⟩=>tD.seq g0 s0 o λw v G1 H1 _ st1 r1 o1=>by
  split at o1
  ·rename_i b e;exact⟨G1,v,w.d,b,rfl,st1.gh,r1,e,Cq o1 st1.gh (.bl b)⟩
  ·exact o1.elim
end
def aq_7(K:Frag):Sp:=λvs H Q _=>∃(a:Addr) (ns:List Int),vs= [.ref a]/\SqL K H a (ns.map V.int)/\ns.length<=63/\∀H',Q (.bl true) H'
theorem bx_7{G:Hp}:∀ns:List Int,HasL K G (ns.map V.int) (ns.map D.int)
 | []=> .nil
 |n::ns=> .cons (.int n) (bx_7 ns)
def dk_3{P:Program}{w:World}{k:Nat}{f:Addr}{x:Str}{F:AF}(h:FnX P w K mg base true k f fd [x] (Br K 1 F))
  (hF:∀ns:List Int,ns.length<=63->∃v,F [.lst (ns.map D.int)]=.ok v/\v.d=.bl true):FnOk P w K mg base CX0 k f fd [x] (aq_7 K):=by
 have hs:∀vs H Q E,aq_7 K vs H Q E->Br K 1 F vs H Q λ_ _ _=>False:=λvs H Q E q=>by
  obtain⟨a,ns,rfl,hS,hl,q⟩:=q;obtain⟨v,e,ev⟩:=hF ns hl;refine⟨rfl,H,[.lst (ns.map D.int)],Same.refl _,.cons (.lst hS (bx_7 ns)) .nil, ?_⟩;rw[e];refine WP.intro λu G' H' st r=> ?_;rw[ev]at r;cases r;exact q H'
 refine⟨λvs H Q E q=>(hs vs H Q E q).1,λA outer s H args us vs Q E hr e0 hb hv q=>R7 (h.run A outer s H args us vs Q _ (RoomC.of hr) e0 hb hv (hs vs H Q E q)) λr s' hq=> ?_⟩;cases r with
 |error e=>
  obtain⟨a,C,dx,T,H',_,_,_,_,_,_,_,_,_,_,z⟩:=hq;exact z
 |ok fl=>cases fl <;> exact hq
def dq_5{l:PySem.W.OpenLaw}{q:Program}{loose:List Str}{XP:(AB)->Heap->Prop}{YP:World->Heap->Prop}{d:DefRec}{K:Params->Frag}{x:Str}{k:Nat}(hn:l.most=some 63)(hdf:d.params.defaults= [])(hr:Room k callerA)
  (hY:∀(w:World) (h:Heap),YP w h->(K w.params).In h) (hT:∀(w:World) (h:Heap),YP w h->∀c P,PySem.W.tabIn (K w.params) "numbers_by_bucket" =some (c,P)->isCodeTable h P/\h.get? P=some {cls:=.none,data:=.fields #[]}/\(K w.params).lookup P=none)
  (F:∀(w:World) (mg:AB) (fa:Addr) (h:Heap),(K w.params).In h->h.Ns mainGlobals mg->mg d.name=some (.ref fa)->
   ∃fd:FuncData,(∀(s:Shared) (u:Value),BindsTo s fd ⟨[u],[]⟩ [(x,u)])/\∀base:Heap,(K w.params).In base->base.Ns mainGlobals mg->FnOk l.prog w (K w.params) mg base CX0 k fa fd [x] (aq_7 (K w.params))):
  PySem.W.WalkO q loose XP YP l.row.toRowW d [] (λf vs=>PySem.call f vs):=
 cv_2 (n:=63) (k:=k) (x:=x) (CX:=λ_=>CX0) (sp:=λw=>aq_7 (K w.params)) hn ⋯ hdf hr hY hT F (λ_ _ a ns hl _ hS=>⟨a,ns,rfl,hS,hl,λ_=>rfl⟩) λ_ _ _ _ _ z=>z
def Inv.pair{zd:AE}{σ:Sg}{s:Shared}{e it:Addr}{h':Heap}{tk:Nat}{its:List Value}{vs:List V}(I:Inv X zd σ H s)(fe:Ea X zd H e)(fi:Ea X zd H it)
  (k:∀b o,b≠e->b≠it->s.heap.get? b=some o->h'.get? b=some o) (he:∃o,h'.get? e=some o) (hi:∃o,h'.get? it=some o) (ht:h'.get? s.heap.objs.size=some {cls:=.type "tuple",data:=.seq its.toArray}) (rv:Vals vs its) (hz:vs.length<=sizeLine):
  Inv X zd σ (upd H s.heap.objs.size (.tup vs)) {s with heap:=h',toks:=tk}:=by
 have hn:H s.heap.objs.size=none:=I.hok.fresh (A8 _);obtain⟨e0,e1,e2,e3,e4,e5⟩:=fe;obtain⟨i0,i1,i2,i3,i4,i5⟩:=fi;have neH:∀b u,H b=some u->b≠e/\b≠it:=λb u q=>⟨λz=>(by rw[z,e0]at q;cases q),λz=>(by rw[z,i0]at q;cases q)⟩;have lt:∀b o,s.heap.get? b=some o->b≠s.heap.objs.size:=λb o q=>B4 (A6 q);refine I.step (g':=s.gens) (d':=s.drawn) (ch:=[e,it]) (λb hb=> ?_) (λb o _ _ hc q _=>k b o (λz=>hc (by simp[z])) (λz=>hc (by simp[z])) q)
  (λb o _ _ hc q _=>⟨o.slots,k b o (λz=>hc (by simp[z])) (λz=>hc (by simp[z])) q⟩) (λb o _ q n=>by rw[Aq (lt b o q)];exact n) (λb o hc q=>⟨o,k b o (λz=>hc (by simp[z])) (λz=>hc (by simp[z])) q⟩)
  (λb xs q=>by rw[Aq (Co q hn)];exact q) (λb o u q=>by rw[Aq (Co q hn)];exact q) (λb ps q=>⟨#[],by rw[Aq (Co q hn),q];simp⟩) (λm hm=> ?_) (λb u q=> ?_) I.bare
 ·have hb':b=e\/b=it:=by simpa using hb
  rcases hb' with rfl|rfl
  ·exact⟨e3,e1,e4,e5⟩
  ·exact⟨i3,i1,i4,i5⟩
 ·obtain⟨o,es,ep,ho,r⟩:=hm;exact⟨o,es,ep,k _ o (Ne.symm e1) (Ne.symm i1) ho,r⟩
 ·by_cases z:b=s.heap.objs.size
  ·subst z;rw[Bp]at q;cases q;exact⟨hz,its,rv,⟨_,ht,rfl,0,rfl⟩⟩
  ·rw[Aq z]at q;refine(I.hok b u q).stay (λc v hc r=> ?_) (λc r=>by rw[Aq (Co r hn)];exact r) (λc xs r=>by rw[Aq (Co r hn)];exact r) λc o r=>by rw[Aq (Co r hn)];exact r
   rcases hc with rfl|hc
   ·exact k c v (neH c u q).1 (neH c u q).2 r
   ·exact k c v (neH c _ hc).1 (neH c _ hc).2 r
def Inv.turned2{zd:AE}{σ:Sg}{s:Shared}{e it:Addr}{h':Heap}{tk:Nat}(I:Inv X zd σ H s)(fe:Ea X zd H e)(fi:Ea X zd H it)
  (k:∀b o,b≠e->b≠it->s.heap.get? b=some o->h'.get? b=some o):Inv X zd σ H {s with heap:=h',toks:=tk}:=by
 obtain⟨e0,e1,e2,e3,e4,e5⟩:=fe;obtain⟨i0,i1,i2,i3,i4,i5⟩:=fi;have neH:∀b u,H b=some u->b≠e/\b≠it:=λb u q=>⟨λz=>(by rw[z,e0]at q;cases q),λz=>(by rw[z,i0]at q;cases q)⟩;refine I.step (g':=s.gens) (d':=s.drawn) (ch:=[e,it]) (λb hb=> ?_) (λb o _ _ hc q _=>k b o (λz=>hc (by simp[z])) (λz=>hc (by simp[z])) q)
  (λb o _ _ hc q _=>⟨o.slots,k b o (λz=>hc (by simp[z])) (λz=>hc (by simp[z])) q⟩) (λb o _ q n=>n) (λb o hc q=>⟨o,k b o (λz=>hc (by simp[z])) (λz=>hc (by simp[z])) q⟩)
  (λb xs q=>q) (λb o u q=>q) (λb ps q=>⟨#[],by rw[q];simp⟩) (λm hm=> ?_) (λb u q=> ?_) I.bare
 ·have hb':b=e\/b=it:=by simpa using hb
  rcases hb' with rfl|rfl
  ·exact⟨e3,e1,e4,e5⟩
  ·exact⟨i3,i1,i4,i5⟩
 ·obtain⟨o,es,ep,ho,r⟩:=hm;exact⟨o,es,ep,k _ o (Ne.symm e1) (Ne.symm i1) ho,r⟩
 ·refine(I.hok b u q).stay (λc v hc r=> ?_) (λc r=>r) λc xs r=>r;rcases hc with rfl|hc
  ·exact k c v (neH c u q).1 (neH c u q).2 r
  ·exact k c v (neH c _ hc).1 (neH c _ hc).2 r
def enL(K:Frag)(l:Addr):It:=
 ⟨λi H=>∃xs x,SqL K H l xs/\xs[i]? =some x,λi H v H'=>∃p,H p=none/\v=.ref p/\∀xs x,SqL K H l xs->xs[i]? =some x->H'=upd H p (.tup [.int (i:Int),x]),λi H=>∃xs,SqL K H l xs/\xs.length=i⟩
def enS(z:Str):It:=
 ⟨λi _=>i < z.cps.size,λi H v H'=>∃p c,H p=none/\v=.ref p/\z.cps[i]? =some c/\H'=upd H p (.tup [.int (i:Int),.str ⟨#[c]⟩]),λi _=>i=z.cps.size⟩
def cl_4{P:Program}{w:World}{elts:List Expr}{x1:Nat}(e it l:Addr)(hei:e≠it):Turn P w K (.Tuple elts x1 pos) (enL K l) [e,it] e (λi h=>(∃old,IsEnum h e it (i:Int) old)/\h.IsListIter it l i) where
 mem:=by simp
 obj:=λi h st b hb=>by
  have hb':b=e\/b=it:=by simpa using hb
  rcases hb' with rfl|rfl
  ·obtain⟨⟨old,q⟩,_⟩:=st;exact⟨_,q,λv z=>by cases z⟩
  ·obtain⟨_,⟨o,q,c,d⟩⟩:=st;exact⟨o,q,λv z=>by rw[d]at z;cases z⟩
 keep:=λi h h' st k=>by
  obtain⟨⟨old,q⟩,r⟩:=st;exact⟨⟨old,k e (by simp) _ q⟩,r.at λo z=>k it (by simp) o z⟩
 item:=by
  intro X hP hw hK hc i zd s σ H E I hf st hg;subst hP hw hK;obtain⟨xs,x,hq,hx⟩:=hg;obtain⟨its,rv,p,hz⟩:=I.list hq;obtain⟨u,hu,ru⟩:=rv.get hx;obtain⟨⟨old,he⟩,hit⟩:=st;have fe:=hf e (by simp);have fi:=hf it (by simp);have pl:=p.isList;have nle:l≠e:=λz=>by
   subst z;obtain⟨o,ho,hc',_⟩:=pl;rw[show s.heap.get? l=_ from he]at ho;cases ho;exact absurd hc' (by simp)
  have nli:l≠it:=λz=>by
   subst z;obtain⟨o,ho,hc',_⟩:=pl;obtain⟨o',ho',hc2,_⟩:=hit;rw[ho]at ho';cases ho';rw[hc']at hc2;exact absurd hc2 (by simp)
  have hlt:i < its.toArray.size:=by
   have:=(B2.mp hu).1;simpa using this
  refine ZA6 (Draws.list (A:=X.A.in1) (I.ok.hd hc) it l nli its.toArray) he ⟨hit,pl⟩ hlt hei (by simp[hei,Ne.symm nle]) λy h' tk hy ho hst dw hsz kk=> ?_;have ey:y=u:=by
   have:its.toArray[i]? =some u:=by simpa using hu
   rw[this]at hy;exact(K4 hy).symm
  subst ey;refine⟨_,rfl,Y5 ho λh'' cf sb=> ?_⟩;have bg:∃old,IsEnum h'' e it ((i + 1:Nat):Int) old:=⟨_,by
   have e1:((i + 1:Nat):Int)=(i:Int) + 1:=by omega
   rw[e1];exact cf⟩
  refine⟨.ref s.heap.objs.size,upd H s.heap.objs.size (.tup [.int (i:Int),x]), ?_,rfl,⟨_,I.hok.fresh (A8 _),rfl,λys y' hy' ey'=> ?_⟩,⟨bg, ?_⟩,λb hb=> ?_⟩
  ·have ne:s.heap.objs.size≠e:=λz=>absurd (A6 he) (by rw[<-z];exact E9 _);refine Inv.pair (its:=[.int (i:Int) tk,y]) I fe fi (λb o h1 h2 q=>(sb.2 b h1).trans (kk b o h1 h2 q)) ⟨_,cf⟩ ?_ ((sb.2 _ ne).trans dw) (.cons ⟨_,rfl⟩ (.cons ru .nil)) (by show 2<=sizeLine;decide);obtain⟨⟨o,q,_⟩,_⟩:=hst;exact⟨o,(sb.2 it (Ne.symm hei)).trans q⟩
  ·have:=I.list_inj hy' hq;subst this;rw[hx]at ey';cases ey';rfl
  ·exact hst.1.at λo z=>(sb.2 it (Ne.symm hei)).trans z
  ·have hb':b=e\/b=it:=by simpa using hb
   have hbl:b < s.heap.objs.size:=by
    rcases hb' with rfl|rfl
    ·exact A6 he
    ·obtain⟨o,q,_⟩:=hit;exact A6 q
   rw[Aq (B4 hbl)];exact(hf b hb).1
 done:=by
  intro X hP hw hK hc i zd s σ H E I hf st hg;subst hP hw hK;obtain⟨xs,hq,hx⟩:=hg;obtain⟨its,rv,p,hz⟩:=I.list hq;obtain⟨⟨old,he⟩,hit⟩:=st;have hl:=rv.length;have pl:=p.isList;have nli:l≠it:=λz=>by
   subst z;obtain⟨o,ho,hc',_⟩:=pl;obtain⟨o',ho',hc2,_⟩:=hit;rw[ho]at ho';cases ho';rw[hc']at hc2;exact absurd hc2 (by simp)
  have en:i=its.toArray.size:=by simp;omega
  refine ZB7 (Draws.list (A:=X.A.in1) (I.ok.hd hc) it l nli its.toArray) he (by rw[<-en];exact⟨hit,pl⟩) λh' eb=>⟨rfl, ?_⟩;exact Inv.turned2 (tk:=s.toks) I (hf e (by simp)) (hf it (by simp)) λb o h1 h2 q=>eb b o h2 q
 self:=λA i s Q E st h=>by
  obtain⟨⟨old,he⟩,_⟩:=st;exact U7 he h
def az_3{prog:Program}{w:World}{A:Around}(hh:A.handled=none)(it:Addr)(x:Str)(t:Tok):
  Draws prog w A it [it] x.cps.size (λi v=>∃c u,x.cps[i]? =some c/\v=.str ⟨#[c]⟩ u) (λi h=>h.IsStrIter it (strIterType x) x t i):=by
 unfold strIterType;cases ha:x.cps.all (· < 128)
 ·exact Draws.strWide hh it x t
 ·exact Draws.strAscii hh it x t
def cl_5{P:Program}{w:World}{elts:List Expr}{x1:Nat}(e it:Addr)(z:Str)(t:Tok)(hei:e≠it):Turn P w K (.Tuple elts x1 pos) (enS z) [e,it] e (λi h=>(∃old,IsEnum h e it (i:Int) old)/\h.IsStrIter it (strIterType z) z t i) where
 mem:=by simp
 obj:=λi h st b hb=>by
  have hb':b=e\/b=it:=by simpa using hb
  rcases hb' with rfl|rfl
  ·obtain⟨⟨old,q⟩,_⟩:=st;exact⟨_,q,λv z=>by cases z⟩
  ·obtain⟨_,⟨o,q,c,d⟩⟩:=st;exact⟨o,q,λv z=>by rw[d]at z;cases z⟩
 keep:=λi h h' st k=>by
  obtain⟨⟨old,q⟩,⟨o,r,c⟩⟩:=st;exact⟨⟨old,k e (by simp) _ q⟩,⟨o,k it (by simp) o r,c⟩⟩
 item:=by
  intro X hP hw hK hc i zd s σ H E I hf st hg;subst hP hw hK;obtain⟨⟨old,he⟩,hit⟩:=st;have fe:=hf e (by simp);have fi:=hf it (by simp);refine ZA6 (az_3 (A:=X.A.in1) (I.ok.hd hc) it z t) he hit hg hei (by simp[hei]) λy h' tk hy ho hst dw hsz kk=> ?_;obtain⟨c,uc,hcx,rfl⟩:=hy;refine⟨_,rfl,Y5 ho λh'' cf sb=> ?_⟩;have bg:∃old,IsEnum h'' e it ((i + 1:Nat):Int) old:=⟨_,by
   have e1:((i + 1:Nat):Int)=(i:Int) + 1:=by omega
   rw[e1];exact cf⟩
  refine⟨.ref s.heap.objs.size,upd H s.heap.objs.size (.tup [.int (i:Int),.str ⟨#[c]⟩]), ?_,rfl,⟨_,c,I.hok.fresh (A8 _),rfl,hcx,rfl⟩,⟨bg, ?_⟩,λb hb=> ?_⟩
  ·have ne:s.heap.objs.size≠e:=λz=>absurd (A6 he) (by rw[<-z];exact E9 _);refine Inv.pair (its:=[.int (i:Int) tk,.str ⟨#[c]⟩ uc]) I fe fi (λb o h1 h2 q=>(sb.2 b h1).trans (kk b o h1 h2 q)) ⟨_,cf⟩ ?_ ((sb.2 _ ne).trans dw) (.cons ⟨_,rfl⟩ (.cons ⟨_,rfl⟩ .nil)) (by show 2<=sizeLine;decide);obtain⟨o,q,_⟩:=hst;exact⟨o,(sb.2 it (Ne.symm hei)).trans q⟩
  ·obtain⟨o,q,r⟩:=hst;exact⟨o,(sb.2 it (Ne.symm hei)).trans q,r⟩
  ·have hb':b=e\/b=it:=by simpa using hb
   have hbl:b < s.heap.objs.size:=by
    rcases hb' with rfl|rfl
    ·exact A6 he
    ·obtain⟨o,q,_⟩:=hit;exact A6 q
   rw[Aq (B4 hbl)];exact(hf b hb).1
 done:=by
  intro X hP hw hK hc i zd s σ H E I hf st hg;subst hP hw hK;obtain⟨⟨old,he⟩,hit⟩:=st;have en:i=z.cps.size:=hg;refine ZB7 (az_3 (A:=X.A.in1) (I.ok.hd hc) it z t) he (by rw[<-en];exact hit) λh' eb=>⟨rfl, ?_⟩;exact Inv.turned2 (tk:=s.toks) I (hf e (by simp)) (hf it (by simp)) λb o h1 h2 q=>eb b o h2 q
 self:=λA i s Q E st h=>by
  obtain⟨⟨old,he⟩,_⟩:=st;exact U7 he h
def s_4(k:Nat):List D->List D
 | []=> []
 |d::ds=> .tup [.int (k:Int),d]::s_4 (k + 1) ds
theorem u_2:∀{ds:List D} {k i:Nat} {d:D},(s_4 k ds)[i]? =some d->∃d',ds[i]? =some d'/\d=.tup [.int ((k + i:Nat):Int),d']
 | [],_,_,_,h=>by simp[s_4]at h
 |x::ds,k,0,d,h=>by simp[s_4]at h;exact⟨x,rfl,h.symm⟩
 |x::ds,k,i + 1,d,h=>by
  obtain⟨d',e1,e2⟩:=u_2 (ds:=ds) (k:=k + 1) (i:=i) (by simpa[s_4] using h);exact⟨d',by simpa using e1,by rw[e2,show k + 1 + i=k + (i + 1) by omega]⟩
theorem ah_9:∀(ds:List D) (k:Nat),(s_4 k ds).length=ds.length
 | [],_=>rfl
 |_::ds,k=>by simp[s_4,ah_9 ds (k + 1)]
def bt_0:D->R (List D)
 | .lst ds=> .ok (s_4 0 ds)
 | .str x=> .ok (s_4 0 (s_3 x))
 |_=> .no
def az_4(f:FE):FI:=λ δ=>(f δ).bind λw=>bt_0 w.d
section
variable{X:Cx}{EX:Az}{a:Expr}{f:FE}{elts:List Expr}{x1:Nat}{tp p pos:Pos}
def iEn(K:Frag)(t:TA):TI:=λ σ H Q=>t σ H λvs H1=>(∃l,vs= [.ref l]/\(∃xs,SqL K H1 l xs)/\Q (enL K l) H1)\/(∃z,vs= [.str z]/\Q (enS z) H1)
def cx_1{ta:TA}(hg:Gl X "enumerate")(hm:X.mg "enumerate" =none)(ha:PA X [a] ta)(hs:starEach [a] X.env= [(false,eval a X.env)]:=by rfl):PI X (.Tuple elts x1 tp) (.Call (.Name "enumerate" p) [a] [] pos) (iEn X.K ta):=by
 intro zd s σ H Q I h;refine Call_ (l_6 I hg hm PyProof.Rows.boot_enumerate (D6 (Ax (ha pos zd s σ H _ I h) λus s1 ⟨vs,H1,I1,r1,q1⟩=> ?_) hs rfl));rcases q1 with⟨l,rfl,⟨xs,hq⟩,q⟩|⟨z,rfl,q⟩
 ·obtain⟨u,rfl,ru⟩:=r1.one;cases ru;obtain⟨its,rv,pl,hz⟩:=I1.list hq;refine call_enumerate_list pl.isList λh' he hit hsz kk=>U7 he ?_;refine⟨s1.heap.objs.size + 1,[s1.heap.objs.size + 1,s1.heap.objs.size],_,enL X.K l,H1,rfl,I1.kept (t':=s1.toks) kk,cl_4 _ _ l (Nat.succ_ne_self _),⟨⟨_,he⟩,hit⟩,λb hb=> ?_,q⟩;have hb':b=s1.heap.objs.size + 1\/b=s1.heap.objs.size:=by simpa using hb
  have hbl:s1.heap.objs.size<=b:=by
   rcases hb' with rfl|rfl
   ·exact N5 _
   ·exact A8 _
  exact I1.fpOk hbl (I1.hok.fresh hbl)
 ·obtain⟨u,rfl,t,rfl⟩:=r1.one;refine call_enumerate_str λh' he hit hsz kk=>U7 he ?_;refine⟨s1.heap.objs.size + 1,[s1.heap.objs.size + 1,s1.heap.objs.size],_,enS z,H1,rfl,I1.kept (t':=s1.toks) kk,cl_5 _ _ z t (Nat.succ_ne_self _),⟨⟨_,he⟩,hit⟩,λb hb=> ?_,q⟩;have hb':b=s1.heap.objs.size + 1\/b=s1.heap.objs.size:=by simpa using hb
  have hbl:s1.heap.objs.size<=b:=by
   rcases hb' with rfl|rfl
   ·exact N5 _
   ·exact A8 _
  exact I1.fpOk hbl (I1.hok.fresh hbl)
def cx_2{G:Hp}{l:Addr}{vs:List V}{ds:List D}(h:SqL K G l vs)(r:HasL K G vs ds):ItD K G (enL K l) (s_4 0 ds):=λG' H g1 g i=>by
 refine⟨λd e=> ?_,λe=> ?_⟩
 ·obtain⟨d',e1,rfl⟩:=u_2 e;obtain⟨v,e2,hv⟩:=r.get e1;refine⟨⟨vs,v,(g1.trans g).seq h,e2⟩,λx H' y=> ?_⟩;obtain⟨p,hp,rfl,y⟩:=y;have:=y vs v ((g1.trans g).seq h) e2;subst this;refine⟨_,Step.new g hp _,.tup (SqT.of Bp) (.cons (by rw[O5];exact .int _) (.cons (hv.mono (g1.trans (g_8 (g.free hp) _))) .nil))⟩
 ·rw[ah_9]at e;exact⟨vs,(g1.trans g).seq h,by rw[r.length];exact e⟩
def cx_3{G:Hp}(z:Str):ItD K G (enS z) (s_4 0 (s_3 z)):=λG' H g1 g i=>by
 refine⟨λd e=> ?_,λe=> ?_⟩
 ·obtain⟨d',e1,rfl⟩:=u_2 e;unfold s_3 at e1;rw[B3]at e1;cases q:z.cps.toList[i]? with
  |none=>rw[q]at e1;cases e1
  |some c=>
   rw[q]at e1;cases e1;have hi:i < z.cps.size:=by
    have:=(B2.mp q).1;simpa using this
   refine⟨hi,λx H' y=> ?_⟩;obtain⟨p,c',hp,rfl,hc,rfl⟩:=y;have:z.cps.toList[i]? =some c':=by simpa using hc
   rw[q]at this;cases this;refine⟨_,Step.new g hp _,.tup (SqT.of Bp) (.cons (by rw[O5];exact .int _) (.cons (.str _) .nil))⟩
 ·rw[ah_9]at e;unfold s_3 at e;rw[A3]at e;show i=z.cps.size;simp at e;omega
def bx_8(hm:X.mg "enumerate" =none)(he:ED X EX a f)(hg:Gl X "enumerate" :=by rfl)(hs:starEach [a] X.env= [(false,eval a X.env)]:=by rfl)(hs1:starEach [a] X.env=(false,eval a X.env)::starEach [] X.env:=by rfl):
  ID X EX (.Tuple elts x1 tp) (.Call (.Name "enumerate" p) [a] [] pos) (az_4 f):=
 PI.imp (cx_1 hg hm (j_9 he p_4 hs1) hs) λ σ H Q ⟨G,δ,g0,s0,o⟩=>by
  refine⟨G,δ,g0,s0, ?_⟩;unfold az_4 at o;cases e1:f δ with
  |ok w=>
   rw[e1]at o;simp only[R.bind_ok]at o;refine WP.intro λv G' H' st r=> ?_;revert r o;cases w.d with
   |lst ds=>
    intro o r;cases r with
    |lst h r=>exact .inl ⟨_,rfl,⟨_,st.gh.seq h⟩,o _ G' H' st (cx_2 h r)⟩
   |str z=>
    intro o r;cases r;exact .inr ⟨z,rfl,o _ G' H' st (cx_3 z)⟩
   |_=>intro o _;exact False.elim o
  |ex x=>rw[e1]at o;exact o
  |no=>rw[e1]at o;exact o
end
def Itr3(lo c:Int)(n:Nat):It:=⟨λi _=>i < n,λi H x H'=>H'=H/\x=.int (lo + (i:Int) * c),λi _=>n<=i⟩
def ak_2{P:Program}{w:World}{tg:Expr}(it:Addr)(lo c:Int)(n:Nat):Turn P w K tg (Itr3 lo c n) [it] it (λi h=>IsRangeIter h it (lo + (i:Nat) * c) ((n:Int) - (i:Nat)) c) where
 mem:=by simp
 obj:=λi h st b hb=>by
  have e:b=it:=by simpa using hb
  subst e;exact⟨_,st,λv z=>by
   have z':Data.fields _=Data.cell v:=z;cases z'⟩
 keep:=λi h h' st k=>k it (by simp) _ st
 item:=by
  intro X hP hw hK hc i zd s σ H E I hf st hg;subst hP hw hK;obtain⟨f0,f1,f2,f3,f4,f5⟩:=hf it (by simp);have W:=Walks.range (prog:=X.prog) (w:=X.w) (I.ok.hd hc) it lo c n;refine W.item i s _ _ hg st λv h' tk hv st' kk=> ?_;obtain⟨t,rfl⟩:=hv;have I1:Inv X zd σ H {s with heap:=h',toks:=tk}:=I.turned (λb o hb e=>kk b o (by simpa using hb) e) f0 f1 f3 f4 f5;exact⟨_,rfl,bj_3 (s:={s with heap:=h',toks:=tk}) (n:= "range_iterator") st' rfl rfl ⋯ ⟨.int (lo + (i:Int) * c),H,I1,⟨t,rfl⟩,⟨rfl,rfl⟩,st',λb hb=>(hf b hb).1⟩⟩
 done:=by
  intro X hP hw hK hc i zd s σ H E I hf st hg;subst hP hw hK;obtain⟨f0,f1,f2,f3,f4,f5⟩:=hf it (by simp);exact ZB1 (I.ok.hd hc) st (by have:n<=i:=hg;omega) λh' eb=>⟨rfl,I.turned (t':=s.toks) (λb o hb e=>eb b o hb e) f0 f1 f3 f4 f5⟩
 self:=λ_ _ _ _ _ st h=>ZB2 st h
def C3(i j c:Int):Prop:=0<=i/\i.natAbs < 1073741824/\j.natAbs < 1073741824/\0 < c/\c.natAbs < 1073741824
instance (i j c:Int):Decidable (C3 i j c):=by unfold C3;exact inferInstance
section
variable{X:Cx}{EX:Az}{tg a b c:Expr}{fa:FA}{ta:TA}{p pos:Pos}
def v_8(lo c:Int)(n:Nat):List D:=(List.range n).map λ(k:Nat)=>D.int (lo + (k:Int) * c)
def aq_8{lo c:Int}{n i:Nat}{d:D}(h:(v_8 lo c n)[i]? =some d):i < n/\d=.int (lo + (i:Int) * c):=by
 unfold v_8 at h;rw[B3]at h
 by_cases hi:i < n
 ·rw[E4 hi]at h;cases h;exact⟨hi,rfl⟩
 ·rw[D5 (by rw[K1];omega)]at h;cases h
def aq_9(lo c:Int)(n:Nat):(v_8 lo c n).length=n:=by unfold v_8;rw[A3,K1]
end
section
variable{X:Cx}{EX:Az}{a:Expr}{f:FE}{pos:Pos}
def negD:D->R W
 | .int i=> .ok (.sh (.int (-i)))
 |_=> .no
def eNeg(f:FE):FE:=λ δ=>(f δ).bind λw=>negD w.d
def dk_5(ha:ED X EX a f):ED X EX (.UnaryOp .USub a pos) (eNeg f):=
 PE.imp (do_4 di_1 ha) λ σ H Q ⟨G,δ,g0,s0,o⟩=>tD.seq g0 s0 o λw v G1 H1 _ st1 r1 o1=>by
  revert r1 o1;cases w.d with
  |int i=>intro r1 o1;cases r1;exact⟨i,rfl,Cq o1 st1.gh (.int _)⟩
  |_=>intro _ o1;exact False.elim o1
def ai_0:List D->Option (List Bool)
 | []=>some []
 | .bl b::ds=>(ai_0 ds).map (b:: ·)
 |_=>none
def allD:List D->R W
 | [.lst ds]=>match ai_0 ds with
  |some bs=> .ok (.sh (.bl (bs.all id)))
  |none=> .no
 |_=> .no
theorem bl_1{G:Hp}:∀{vs:List V} {ds:List D} {us:List Value} {bs:List Bool},HasL K G vs ds->Vals vs us->ai_0 ds=some bs->us=bs.map Value.bool
 |_,_,_,_,.nil,r,e=>by cases r;cases e;rfl
 |_,_,_,_,.cons h t,r,e=>by
  cases r with
  |cons r1 r2=>
   cases h with
   |bl x=>
    cases r1;simp only[ai_0]at e;obtain⟨zs,q,rfl⟩:=N1.mp e;rw[B1,bl_1 t r2 q]
   |_=>cases e
def cd_9(bs:List Bool):(List.range bs.length).all (λi=>bs.getD i true)=bs.all id:=by
 rw[P4,F2,F2];constructor
 ·intro h b hb;obtain⟨i,hi,e⟩:=List.getElem_of_mem hb;have:=h i (K0.mpr hi);simp[hi]at this;rw[<-e];exact this
 ·intro h i hi;have hi:=K0.mp hi;simp[hi];exact h _ (W3 hi)
def ce_0(hc:X.calm=true):Fe X (.builtin "all") allD:=by
 intro zd s σ H vs us Q I rv q;obtain⟨EX,G,ds,g,r,o⟩:=q;cases r with
 |nil=>exact False.elim o
 |cons h t=>
  cases t with
  |cons _ _=>cases h <;> exact False.elim o
  |nil=>
   cases h with
   |lst h r=>
    rename_i l _ _;simp only[allD]at o
    split at o
    ·rename_i bs e;obtain⟨u,rfl,ru⟩:=rv.one;cases ru;obtain⟨its,rv',pl,hz⟩:=I.list (g.seq h);have eb:=bl_1 r rv' e;subst eb;have nl:l≠s.heap.objs.size:=λz=>by
      obtain⟨o',ho,_⟩:=pl.isList;exact absurd (A6 ho) (by rw[<-z];exact E9 _)
     refine call_all_walk (Z5 pl.isList ⟨s.heap.objs.size,_,_,_,_,_,λi=>bs.getD i true,rfl,Walks.list (A:=X.A.in1) (I.ok.hd hc) s.heap.objs.size l nl (bs.map Value.bool).toArray,⟨⟨_,B8 _ rfl,rfl,rfl⟩, ?_⟩,λi v s' Q' E' hP hQ=> ?_,λh' tk kk=> ?_⟩)
     ·exact pl.isList.at λo z=>A5 _ z
     ·have hP':(bs.map Value.bool)[i]? =some v:=by simpa using hP
      rw[B3]at hP';cases q:bs[i]? with
      |none=>rw[q]at hP';cases hP'
      |some b=>
       rw[q]at hP';cases hP';have:bs.getD i true=b:=by simp[List.getD,q]
       dsimp only at hQ;rw[this]at hQ;exact P8 hQ
     ·have en:(bs.map Value.bool).toArray.size=bs.length:=by simp
      rw[en,cd_9];refine⟨.bl _,H,I.kept (t':=tk) λb o' z=>kk b o' (by
       have hb:b≠s.heap.objs.size:=B4 (A6 z);simpa using hb) (A5 _ z),rfl,Cq o g (.bl _)⟩
    ·exact o.elim
   |_=>exact False.elim o
def ai_1:D->List D->R W
 | .str x,[.str y]=>match Builtin.Str.occurrences x y 0 x.length 1 with
  |i::_=> .ok (.sh (.int (i:Nat)))
  | []=> .no
 |_,_=> .no
def ce_1:MtD X "str.index" ai_1:=by
 intro zd s σ H x vs v us Q I rx rv h;obtain⟨EX,G,d,ds,g,r,rl,o⟩:=h;refine bx_6 r rl (λx y e1 e2 e3 e4=> ?_) λn=> ?_
 ·subst e1 e2 e3 e4;obtain⟨t,rfl⟩:=rx;obtain⟨u,rfl,t',rfl⟩:=rv.one;simp only[ai_1]at o
  split at o
  ·rename_i i v_2 e;exact SC.index e ⟨.int _,H,I.tok _,⟨_,rfl⟩,Cq o g (.int _)⟩
  ·exact o.elim
 ·have e:ai_1 d ds=.no:=by
   unfold ai_1
   split
   ·rename_i x y;exact absurd ⟨rfl,rfl⟩ (n x y)
   ·rfl
  rw[e]at o;exact o.elim
end
section
variable{prog:Program}{w:World}{A:Around}{E:AA}{s:Shared}
def ae_9{env:Env}{elts:List Expr}{x1}{t:Addr}{items:Array Value}{Q:Unit->Shared->Prop}(hh:A.handled=none)(ht:s.heap.IsList t items)
  (hn:(assignEach elts env).length=items.size) (cw:(assignEach elts env).findIdx? (·.1)=none)
  (h:∀h',Heap.ExtBut s.heap.objs.size s.heap h'->wpAny (model prog w) A (assignInOrder ((assignEach elts env).map (·.2)) items.toList) Q E {s with heap:=h'}):
  wpAny (model prog w) A (assign (.Tuple elts x1 pos) env (.ref t)) Q E s:=by
 rw[assign_Tuple,unpack,hn,cw];exact A4 (O6 (A4 (M7 (kun_itemsOf hh ht h))))
end
section
variable{X:Cx}{EX:Az}{pos:Pos}
def gSeq(K:Frag)(n:Nat)(t:TGs):TG:=λv σ H Q=>∃a xs,v=.ref a/\(SqT K H a xs\/SqL K H a xs)/\xs.length=n/\t xs σ H Q
def dk_6{es:List Expr}{k:Nat}{t:TGs}{n:Nat}(hc:X.calm=true)(h:PGs X es t)
  (hn:(assignEach es X.env).length=n:=by rfl) (hst:(assignEach es X.env).findIdx? (·.1)=none:=by rfl):PG X (.Tuple es k pos) (gSeq X.K n t):=by
 intro zd s σ H v u Q I r hw;obtain⟨a,xs,e1,hq,hl,hw⟩:=hw;rcases hq with hq|hq
 ·exact ch_0 hc h hn hst zd s σ H v u Q I r ⟨a,xs,e1,hq,hl,hw⟩
 ·subst e1;cases r;obtain⟨its,rv,ht,hz⟩:=I.list hq;refine ae_9 (I.ok.hd hc) ht.isList (by simp[hn,<-hl,rv.length]) hst λh' hx=> ?_;have I1:Inv X zd σ H {s with heap:=h'}:=I.kept (t':=s.toks) λb o e=>hx b o (B4 (A6 e)) e;exact h zd _ σ H xs _ Q I1 (by simpa using rv) hw
def HasS.skip{G:Hp}{σ:Sg}{δ:DE}{v:V}{i:Nat}(h:HasS K G σ δ)(e:δ[i]? =some none):HasS K G (σ.set i (some v)) δ:=by
 refine⟨by rw[F9];exact h.len,λj d' e'=> ?_⟩;obtain⟨v',e1,r'⟩:=h.get j d' e';refine⟨v', ?_,r'⟩;rw[C8]
 ·exact e1
 ·rintro rfl
  rw[e]at e';cases e'
end
section
variable{X:Cx}{EX:Az}
def nonB:D->Bool
 | .non=>true
 |_=>false
def isND(neg:Bool):D->D->R W
 |d,.non=> .ok (.sh (.bl (if neg then !nonB d else nonB d)))
 |_,_=> .no
def dk_7{G:Hp}{v:V}{d:D}(r:Has K G v d):decide (v=.non)=nonB d:=by
 cases r <;> rfl
def be_5:Eu X (compareOp .Is) (isND false):=by
 intro zd s σ H x y v u Q I rx ry q;obtain⟨EX,G,a,b,g,ra,rb,o⟩:=q;cases rb with
 |non=>exact di_2 zd s σ H _ _ _ _ Q I rx ry ⟨rfl,by rw[dk_7 ra];exact Cq o g (.bl _)⟩
 |_=>exact False.elim o
def bl_2(i:Nat)(fi fe:FE):FS:=λ Δ=>match Δ[i]? with
 |some (.ow (.lst ds))=>(match fe (Au Δ) with
  | .ok w=>if Ay w.d=true then(match fi (Au Δ) with
   | .ok z=>(match z.d with
    | .int k=>(match ixN ds.length k with
     |some j=> .nx (Δ.set i (.ow (.lst (ds.set j w.d))))
     |none=> .no)
    |_=> .no)
   |_=> .no) else .no
  |_=> .no)
 |_=> .no
def cx_4{i:Nat}{x:Str}{e ie:Expr}{fe fi:FE}{p1 zi pos:Pos}(he:ED X EX e fe)(hi:ED X EX ie fi)(hN:X.N[i]? =some x:=by rfl)(hv:Vis X.env.scope x:=by trivial)(hd:AG x:=by decide)
  (hcd:(x ==("__classdict__" :Str))=false:=by decide)
  (ha:∀v,assign (.Subscript (.Name x p1) ie zi) X.env v=(do
   let ov<-holding [v] (eval (.Name x p1) X.env)
   let iv<-holding [v,ov] (eval ie X.env)
   standAt zi
   holding [v,ov,iv] (setItem ov iv v)
   release [v,ov,iv] []):=by intro _;rfl)
  (hs:swapsWithSole [.Subscript (.Name x p1) ie zi] e pos.line X.env=pure false:=by rfl) (hw:swappedStores [.Subscript (.Name x p1) ie zi] e X.env=pure none:=by rfl)
  (h1:(assignEach [.Subscript (.Name x p1) ie zi] X.env).map (·.2)= [assign (.Subscript (.Name x p1) ie zi) X.env]:=by rfl):
  SD X EX (.Assign [.Subscript (.Name x p1) ie zi] e pos) (bl_2 i fi fe):=
 PS.imp (ch_1 he (dh_2 (l_5 hN hv hd hcd) hi ci_4 ha) hs hw h1) λD σ H ⟨H0,G0,G,Δ,O,E,q⟩=>by
  unfold bl_2 at q
  split at q
  ·rename_i ds e1;obtain⟨v0,s1,t⟩:=E.ow i _ _ e1 rfl;obtain⟨a,vs,rfl,m,hH,rl⟩:=t.list_of
   ·skip
    refine⟨x_5 G H O,Au Δ,E.aH,E.gall, ?_⟩;cases e2:fe (Au Δ) with
    |ex x=>rw[e2]at q;exact q.elim
    |no=>rw[e2]at q;exact q.elim
    |ok w=>
     simp only[e2]at q
     split at q
     ·rename_i fl;refine WP.intro λv G' H' st r=> ?_;have E1:=E.keep st.hh;refine⟨.ref a,s1,x_5 G H' O,Au Δ,E1.aH,E1.gall, ?_⟩;cases e3:fi (Au Δ) with
      |ex x=>simp only[e3]at q;exact q.elim
      |no=>simp only[e3]at q;exact q.elim
      |ok z=>
       simp only[e3]at q;refine WP.intro λv2 G2 H2 st2 r2=> ?_;revert q r2;cases z.d with
       |int k=>
        intro q r2;cases r2;cases e4:ixN ds.length k with
        |none=>simp only[e4]at q;exact q.elim
        |some j=>
         simp only[e4]at q;have hH2:H2 a=some (.lst vs):=st2.hh _ _ (st.hh _ _ hH);refine⟨a,vs,k,j,rfl,rfl,hH2,by rw[rl.length];exact e4, ?_⟩;exact q σ G _ _ ((E1.keep st2.hh).writeL s1 m (HasL.set (r.ofFl fl) j rl)) (Same.refl _)
       |_=>intro q _;exact False.elim q
     ·exact q.elim
  ·exact q.elim
end
section
variable{X:Cx}{EX:Az}{tg a b:Expr}{f g:FE}{fa:FA}{p pos:Pos}
theorem HasL.rep{G:Hp}{vs:List V}{ds:List D}(r:HasL K G vs ds):∀n:Nat,HasL K G (List.replicate n vs).flatten (List.replicate n ds).flatten
 |0=> .nil
 |n + 1=>by rw[L7,L7,Q1,Q1];exact r.append (HasL.rep r n)
def repD(ds:List D):D->R W
 | .int k=>if k.natAbs < 4611686018427387904/\ds.length * k.toNat<=16777216 then .ok (.ow (.lst (List.replicate k.toNat ds).flatten)) else .no
 |_=> .no
def eRep(fa:FA)(f:FE):FE:=λ δ=>(fa δ).bind λds=>if ds.length<=16777216 then(f δ).bind λw=>repD ds w.d else .no
def dk_8{es:List Expr}{gv:Pos}(ha:AD X EX es fa)(hb:ED X EX b f):ED X EX (.BinOp (.List es gv) .Mult b pos) (eRep fa f):=
 PE.imp (de_2 dj_1 (br_5 ha) hb) λ σ H Q ⟨G,δ,g0,s0,o⟩=>tDa.seq g0 s0 o λds vs G' H' _ st r o'=>by
  split at o'
  ·rename_i hz;refine⟨by rw[r.length,D2];exact hz,λq hq=> ?_⟩;have so:=Step.own st.gh hq (.lst vs);refine tD.seq so.gh (s0.mono st.gg) (Out.mono so o') λw v G2 H2 _ st2 r2 o2=> ?_;revert r2 o2;cases w.d with
   |int k=>
    intro r2 o2;cases r2;simp only[repD]at o2
    split at o2
    ·rename_i hk;exact⟨q,k,vs,rfl,rfl,st2.hh _ _ Bp,by have:=hk.1;omega,by have:=hk.1;omega,by rw[r.length,D2];exact hk.2,q_3 o2 st2.gh ((r.mono st2.gg).rep k.toNat)⟩
    ·exact o2.elim
   |_=>intro _ o2;exact False.elim o2
  ·exact o'.elim
def u_3:List D->Option (List Int)
 | []=>some []
 | .int i::ds=>(u_3 ds).map (i:: ·)
 |_=>none
theorem be_6{G:Hp}:∀{vs:List V} {ds:List D} {us:List Value} {is:List Int},HasL K G vs ds->Vals vs us->u_3 ds=some is->us.length=is.length/\∀(j:Nat) (v:Value),us[j]? =some v->∃t,v=.int (is.getD j 0) t
 |_,_,_,_,.nil,r,e=>by cases r;cases e;exact⟨rfl,λj v h=>by simp at h⟩
 |_,_,_,_,.cons h t,r,e=>by
  cases r with
  |cons r1 r2=>
   cases h with
   |int x=>
    obtain⟨tk,rfl⟩:=r1;simp only[u_3]at e;obtain⟨zs,q,rfl⟩:=N1.mp e;obtain⟨h1,h2⟩:=be_6 t r2 q;refine⟨by simp[h1],λj v hj=> ?_⟩;cases j with
    |zero=>simp at hj;subst hj;exact⟨tk,rfl⟩
    |succ j=>
     obtain⟨t',e'⟩:=h2 j v (by simpa using hj);exact⟨t',by rw[e'];simp⟩
   |_=>cases e
def ce_2{G:Hp}(lo:Int):∀n:Nat,HasL K G ((List.range n).map λ(k:Nat)=>V.int (lo + (k:Int))) (Cf lo n):=by
 intro n;unfold Cf;generalize List.range n=l
 induction l with
 |nil=>exact .nil
 |cons a l ih=>exact .cons (.int _) ih
def dq_8{n:Nat}{lo:Int}{zn:Array Value}(h:PySem.ItemsOf (λi v=>∃t,v=.int (lo + i * 1) t) zn n):Vals ((List.range n).map λ(k:Nat)=>V.int (lo + (k:Int))) zn.toList:=by
 obtain⟨h1,h2⟩:=h;have all:∀(l:List Value) (k:Nat),(∀(j:Nat) v,l[j]? =some v->∃t,v=.int (lo + ((k + j:Nat):Int)) t)->Vals ((List.range' k l.length).map λ(k:Nat)=>V.int (lo + (k:Int))) l:=by
  intro l
  induction l with
  |nil=>intro k _;exact .nil
  |cons a l ih=>
   intro k h;rw[C6,List.range'_succ,B1];refine .cons ?_ (ih (k + 1) λj v hj=> ?_)
   ·obtain⟨t,e⟩:=h 0 a rfl;exact⟨t,by rw[e];rfl⟩
   ·obtain⟨t,e⟩:=h (j + 1) v (by simpa using hj);exact⟨t,by rw[e,show k + (j + 1)=k + 1 + j by omega]⟩
 have:=all zn.toList 0 λj v hj=>by
  obtain⟨t,e⟩:=h2 j v (by simpa using hj);exact⟨t,by rw[e];simp⟩
 rw[show zn.toList.length=n by simpa using h1]at this;rw[List.range_eq_range'];exact this
def bl_3{zd:AE}{s:Shared}{σ:Sg}{Q:VK}{lo hi:Int}{t u v:Tok}{tk:Nat}(hc:X.calm=true)(I:Inv X zd σ H s)(h1: -(2 ^ 62)<=lo)(h2:lo < 2 ^ 62)(h3: -(2 ^ 62)<=hi)(h4:hi < 2 ^ 62)(hz:(hi - lo).toNat<=16777216)
  (q:∀p,H p=none->Q (.ref p) (upd H p (.lst ((List.range (hi - lo).toNat).map λ(k:Nat)=>V.int (lo + (k:Int)))))):
  wpAny (model X.prog X.w) X.A (call (.type "list") [.ref s.heap.objs.size]) (EP X zd σ Q) X.xe {s with heap:=s.heap.push {cls:=.type "range",data:=.fields #[.int lo t,.int hi u,.int 1 v]},toks:=tk}:=by
 have I1:Inv X zd σ H {s with heap:=s.heap.push {cls:=.type "range",data:=.fields #[.int lo t,.int hi u,.int 1 v]},toks:=tk}:=I.kept λb o e=>A5 _ e;have en:Builtin.Range.rangeSize lo hi 1=(((hi - lo).toNat:Nat):Int):=by rw[rangeSize_one];split <;> omega
 refine PySem.call_list_range (I1.ok.hd hc) (IsRange.new ..) (small_one h1 h2 h3 h4) en hz λh' tk' zn c kk hat it=> ?_;have rv:=dq_8 it;have fr:=I1.hok.fresh (A8 _);refine⟨.ref _,upd H _ (.lst _),I1.laid (t':=tk') kk (A8 _) ⟨?_,zn.toList,c,rv,by simpa using hat⟩,rfl,q _ fr⟩;rw[rv.length,D2];have:=it.1;simp;omega
def eRng(k:List D->R (List D))(fa:FA):FE:=λ δ=>(fa δ).bind λas=>(k as).bind λds=>if ds.length<=16777216 then .ok (.ow (.lst ds)) else .no
def av_7{p' pos':Pos}(hc:X.calm=true)(hml:X.mg "list" =none)(hm:X.mg "range" =none)(ha:AD X EX [a] fa)(hgl:Gl X "list" :=by rfl)(hg:Gl X "range" :=by rfl)
  (hs:starEach [a] X.env= [(false,eval a X.env)]:=by rfl)
  (hs2:starEach [.Call (.Name "range" p') [a] [] pos'] X.env=(false,eval (.Call (.Name "range" p') [a] [] pos') X.env)::starEach [] X.env:=by rfl):
  ED X EX (.Call (.Name "list" p) [.Call (.Name "range" p') [a] [] pos'] [] pos) (eRng Dl fa):=by
 intro zd s σ H Q I q;obtain⟨G,δ,g0,s0,o⟩:=q;refine Call_ (l_6 I hgl hml N3 (D6 ?_ hs2 rfl));rw[hs2];show wpAny _ _ (spliced ((false,eval (.Call (.Name "range" p') [a] [] pos') X.env)::backTo pos (starEach [] X.env))) _ _ s;refine K6 ?_;refine Call_ (l_6 I hg hm boot_range (D6 (Ax (ha pos' zd s σ H _ I (tDa.seq g0 s0 o (P:=λvs H1=>∃j G1,Same G1 H1/\vs= [.int j]/\j.natAbs < 4611686018427387904/\j.toNat<=16777216/\Out X.K (EX σ) G1 H1 (.ok (.ow (.lst (Cf 0 j.toNat)))) Q) λds vs G' H' _ st r o'=> ?_)) λus s1 ⟨vs,H1,I1,r1,q1⟩=> ?_) hs rfl))
 ·cases r with
  |nil=>exact False.elim o'
  |cons h t=>
   cases t with
   |cons _ _=>cases h <;> exact False.elim o'
   |nil=>
    cases h with
    |int j=>
     simp only[Dl]at o'
     split at o'
     ·rename_i hj;simp only[R.bind_ok,k_1]at o'
      split at o'
      ·rename_i hl;exact⟨j,G',st.gh,rfl,hj,hl,o'⟩
      ·exact o'.elim
     ·exact o'.elim
    |_=>exact False.elim o'
 ·obtain⟨j,G1,sg,rfl,hj,hl,o'⟩:=q1;obtain⟨u,rfl,t,rfl⟩:=r1.one;refine ZD6 ?_;refine M8 ?_;have hl':(j - 0).toNat<=16777216:=by simpa using hl
  refine bl_3 hc I1 () () () () hl' ?_;rw[Int.sub_zero];exact q_3 o' sg (ce_2 0 _)
def gP(i j:Nat):FG:=λd Δ=>match d with
 | .tup [a,b]=> .ok ((Δ.set i (.sh a)).set j (.sh b))
 | .lst [a,b]=> .ok ((Δ.set i (.sh a)).set j (.sh b))
 |_=> .no
def cx_7{i j k:Nat}{x y:Str}{p1 p2:Pos}(hc:X.calm=true)(hN:X.N.Nodup)(hi:X.N[i]? =some x:=by rfl)(hj:X.N[j]? =some y:=by rfl)(hx:Loc X.env.scope x:=by trivial)(hy:Loc X.env.scope y:=by trivial)
  (hf:X.fn x=true\/X.env.scope.names.lookup x=some .local:=by trivial) (hf2:X.fn y=true\/X.env.scope.names.lookup y=some .local:=by trivial)
  (hn:(assignEach [.Name x p1,.Name y p2] X.env).length=2:=by rfl) (hst:(assignEach [.Name x p1,.Name y p2] X.env).findIdx? (·.1)=none:=by rfl)
  (hs:(assignEach [.Name x p1,.Name y p2] X.env).map (·.2)=assign (.Name x p1) X.env::(assignEach [.Name y p2] X.env).map (·.2):=by rfl) (hs2:(assignEach [.Name y p2] X.env).map (·.2)=assign (.Name y p2) X.env::(assignEach [] X.env).map (·.2):=by rfl):
  GD X EX (.Tuple [.Name x p1,.Name y p2] k pos) (gP i j):=
 PG.imp (dk_6 hc (ae_2 (z_9 hN hi hx hf) (ae_2 (z_9 hN hj hy hf2) bw_0 hs2) hs) hn hst) λv σ H Q ⟨H0,G0,G,Δ,O,d,E,r,q⟩=>by
  cases r with
  |tup h r=>
   cases r with
   |nil=>exact False.elim q
   |cons r1 r=>
    cases r with
    |nil=>exact False.elim q
    |cons r2 r=>
     cases r with
     |nil=>exact⟨_,_,rfl,.inl (Same.tupS E.st.gh h),rfl,_,_,rfl,_,_,rfl,rfl,q _ G H O ((E.put r1).put r2) (Same.refl _)⟩
     |cons _ _=>exact False.elim q
  |lst h r=>
   cases r with
   |nil=>exact False.elim q
   |cons r1 r=>
    cases r with
    |nil=>exact False.elim q
    |cons r2 r=>
     cases r with
     |nil=>exact⟨_,_,rfl,.inr (E.st.gh.seq h),rfl,_,_,rfl,_,_,rfl,rfl,q _ G H O ((E.put r1).put r2) (Same.refl _)⟩
     |cons _ _=>exact False.elim q
  |_=>exact False.elim q
def sUnp(fg:FG)(js:List Nat)(f:FE):FS:=λ Δ=>match f (Bf (gsome js Δ)) with
 | .ok w=>(match fg w.d (gsome js Δ) with
  | .ok Δ'=> .nx Δ'
  |_=> .no)
 | .ex x=> .ex x (gsome js Δ)
 | .no=> .no
def dk_9{fg:FG}(js:List Nat){e tg:Expr}(he:ED X EX e f)(hg:GD X EX tg fg)(hs:swapsWithSole [tg] e pos.line X.env=pure false:=by rfl)(hw:swappedStores [tg] e X.env=pure none:=by rfl)
  (h1:(assignEach [tg] X.env).map (·.2)= [assign tg X.env]:=by rfl):SD X EX (.Assign [tg] e pos) (sUnp fg js f):=
 PS.imp (ch_1 he hg hs hw h1) λD σ H ⟨H0,G0,G,Δ,O,E,q⟩=>by
  obtain⟨G1,O1,sg,E1⟩:=E.gsome js;unfold sUnp at q;refine⟨G1,Bf (gsome js Δ),E1.st.gh,E1.gsh, ?_⟩;cases e1:f (Bf (gsome js Δ)) with
  |ok w=>
   simp only[e1]at q;refine WP.intro λv G' H' st r=>⟨H0,G0,G',gsome js Δ,O1,w.d,E1.grow st,r, ?_⟩;cases e2:fg w.d (gsome js Δ) with
   |ok Δ'=>simp only[e2]at q;exact λ σ' G2 H2 O2 E2 s2=>q σ' G2 H2 O2 E2 (sg.trans (st.gg.trans s2))
   |ex x=>simp only[e2]at q;exact q.elim
   |no=>simp only[e2]at q;exact q.elim
  |ex x=>simp only[e1]at q;exact q σ G1 H O1 E1 sg
  |no=>simp only[e1]at q;exact q.elim
end
@[elab_as_elim] theorem be_7{P:List Value->Prop}{us:List Value}{n:Nat}(h:us.length=n)(k:∀y:Nat->Value,P ((List.range n).map y)):P us:=by
 have e:us=(List.range n).map λi=>us.getD i .none:=by
  apply N2;intro i;rw[B3]
  by_cases hi:i < n
  ·rw[E4 hi,L4,F0,B6 ()];rfl
  ·rw[D5 (),D5 (by rw[K1];omega)];rfl
 rw[e];exact k _
section
variable{K:Frag}{x qual:Str}{st:Stmt}{f:Addr}{fd:FuncData}{ps:List Str}
def Fun.binds1(F:Fun K x qual st f fd)(hl:ps.length=1:=by rfl)(h:∀(kV doc pm:Value) (an:Option Addr) (zp ct a:Value),bindArgs (fnOf x qual (i_3 st) (Fs st) (Cc st) .none kV doc pm an zp ct) ⟨[a],[]⟩=pure (ps.zip [a]):=by intros;rfl):Binds K fd ps []:=
 F.binds λkV doc pm an zp ct us hu=>be_7 (hu.trans hl) λy=>h kV doc pm an zp ct (y 0)
def Fun.binds2(F:Fun K x qual st f fd)(hl:ps.length=2:=by rfl)(h:∀(kV doc pm:Value) (an:Option Addr) (zp ct a b:Value),bindArgs (fnOf x qual (i_3 st) (Fs st) (Cc st) .none kV doc pm an zp ct) ⟨[a,b],[]⟩=pure (ps.zip [a,b]):=by intros;rfl):Binds K fd ps []:=
 F.binds λkV doc pm an zp ct us hu=>be_7 (hu.trans hl) λy=>h kV doc pm an zp ct (y 0) (y 1)
def Fun.binds3(F:Fun K x qual st f fd)(hl:ps.length=3:=by rfl)(h:∀(kV doc pm:Value) (an:Option Addr) (zp ct a b c:Value),bindArgs (fnOf x qual (i_3 st) (Fs st) (Cc st) .none kV doc pm an zp ct) ⟨[a,b,c],[]⟩=pure (ps.zip [a,b,c]):=by intros;rfl):Binds K fd ps []:=
 F.binds λkV doc pm an zp ct us hu=>be_7 (hu.trans hl) λy=>h kV doc pm an zp ct (y 0) (y 1) (y 2)
def Fun.binds4(F:Fun K x qual st f fd)(hl:ps.length=4:=by rfl)(h:∀(kV doc pm:Value) (an:Option Addr) (zp ct a b c d:Value),bindArgs (fnOf x qual (i_3 st) (Fs st) (Cc st) .none kV doc pm an zp ct) ⟨[a,b,c,d],[]⟩=pure (ps.zip [a,b,c,d]):=by intros;rfl):Binds K fd ps []:=
 F.binds λkV doc pm an zp ct us hu=>be_7 (hu.trans hl) λy=>h kV doc pm an zp ct (y 0) (y 1) (y 2) (y 3)
end
def Inv.pairN{zd:AE}{σ:Sg}{s:Shared}{ch:List Addr}{h':Heap}{tk:Nat}{its:List Value}{vs:List V}(I:Inv X zd σ H s)(hf:∀b∈ch,Ea X zd H b)
  (k:∀b o,b∉ch->s.heap.get? b=some o->h'.get? b=some o) (ht:h'.get? s.heap.objs.size=some {cls:=.type "tuple",data:=.seq its.toArray}) (rv:Vals vs its) (hz:vs.length<=sizeLine):
  Inv X zd σ (upd H s.heap.objs.size (.tup vs)) {s with heap:=h',toks:=tk}:=by
 have hn:H s.heap.objs.size=none:=I.hok.fresh (A8 _);have neH:∀b u,H b=some u->b∉ch:=λb u q hb=>by rw[(hf b hb).1]at q;cases q
 have lt:∀b o,s.heap.get? b=some o->b≠s.heap.objs.size:=λb o q=>B4 (A6 q);refine I.step (g':=s.gens) (d':=s.drawn) (ch:=ch) (λb hb=> ?_) (λb o _ _ hc q _=>k b o hc q)
  (λb o _ _ hc q _=>⟨o.slots,k b o hc q⟩) (λb o _ q n=>by rw[Aq (lt b o q)];exact n) (λb o hc q=>⟨o,k b o hc q⟩)
  (λb xs q=>by rw[Aq (Co q hn)];exact q) (λb o u q=>by rw[Aq (Co q hn)];exact q) (λb ps q=>⟨#[],by rw[Aq (Co q hn),q];simp⟩) (λm hm=> ?_) (λb u q=> ?_) I.bare
 ·obtain⟨e0,e1,e2,e3,e4,e5⟩:=hf b hb;exact⟨e3,e1,e4,e5⟩
 ·obtain⟨o,es,ep,ho,r⟩:=hm;exact⟨o,es,ep,k _ o (λhb=>(hf _ hb).2.1 rfl) ho,r⟩
 ·by_cases z:b=s.heap.objs.size
  ·subst z;rw[Bp]at q;cases q;exact⟨hz,its,rv,⟨_,ht,rfl,0,rfl⟩⟩
  ·rw[Aq z]at q;refine(I.hok b u q).stay (λc v hc r=> ?_) (λc r=>by rw[Aq (Co r hn)];exact r) (λc xs r=>by rw[Aq (Co r hn)];exact r) λc o r=>by rw[Aq (Co r hn)];exact r
   rcases hc with rfl|hc
   ·exact k c v (neH c u q) r
   ·exact k c v (neH c _ hc) r
def Inv.turnedN{zd:AE}{σ:Sg}{s:Shared}{ch:List Addr}{h':Heap}{tk:Nat}(I:Inv X zd σ H s)(hf:∀b∈ch,Ea X zd H b)
  (k:∀b o,b∉ch->s.heap.get? b=some o->h'.get? b=some o):Inv X zd σ H {s with heap:=h',toks:=tk}:=by
 have neH:∀b u,H b=some u->b∉ch:=λb u q hb=>by rw[(hf b hb).1]at q;cases q
 refine I.step (g':=s.gens) (d':=s.drawn) (ch:=ch) (λb hb=> ?_) (λb o _ _ hc q _=>k b o hc q)
  (λb o _ _ hc q _=>⟨o.slots,k b o hc q⟩) (λb o _ q n=>n) (λb o hc q=>⟨o,k b o hc q⟩)
  (λb xs q=>q) (λb o u q=>q) (λb ps q=>⟨#[],by rw[q];simp⟩) (λm hm=> ?_) (λb u q=> ?_) I.bare
 ·obtain⟨e0,e1,e2,e3,e4,e5⟩:=hf b hb;exact⟨e3,e1,e4,e5⟩
 ·obtain⟨o,es,ep,ho,r⟩:=hm;exact⟨o,es,ep,k _ o (λhb=>(hf _ hb).2.1 rfl) ho,r⟩
 ·refine(I.hok b u q).stay (λc v hc r=> ?_) (λc r=>r) λc xs r=>r;rcases hc with rfl|hc
  ·exact k c v (neH c u q) r
  ·exact k c v (neH c _ hc) r
def y_2{h:Heap}{a b:Addr}{o u:Obj}(h1:h.get? a=some o)(h2:h.get? b=some u)(n:o.cls≠u.cls):a≠b:=λz=>by
 subst z;rw[h1]at h2;cases h2;exact n rfl
structure ZApart(z TI TO i1 i2:Addr):Prop where
 TIz:TI≠z
 TOz:TO≠z
 i1z:i1≠z
 i2z:i2≠z
 TITO:TI≠TO
 TIi1:TI≠i1
 TIi2:TI≠i2
 TOi1:TO≠i1
 TOi2:TO≠i2
 i12:i1≠i2
def zpL(K:Frag)(l1 l2:Addr)(xs ys:List V):It:=
 ⟨λi H=>SqL K H l1 xs/\SqL K H l2 ys/\i < xs.length/\i < ys.length,λi H v H'=>∃p x y,H p=none/\v=.ref p/\xs[i]? =some x/\ys[i]? =some y/\H'=upd H p (.tup [x,y]),λi H=>SqL K H l1 xs/\SqL K H l2 ys/\i=min xs.length ys.length⟩
def cl_8{h:Heap}{z TI TO i1 i2 l1 l2:Addr}{xs ys:Array Value}{a b:Value}{k1 k2:Nat}(D:ZApart z TI TO i1 i2)(hz:IsZip h z TI TO .none)(hTO:IsPair h TO a b)(h1:h.IsListIter i1 l1 k1)(h2:h.IsListIter i2 l2 k2)
  (p1:h.IsList l1 xs) (p2:h.IsList l2 ys):ZipApart z TI TO i1 i2 l1 l2:=by
 obtain⟨o1,e1,c1,_⟩:=h1;obtain⟨o2,e2,c2,_⟩:=h2;obtain⟨q1,g1,d1,_⟩:=p1;obtain⟨q2,g2,d2,_⟩:=p2;exact⟨D.TIz,D.TOz,D.i1z,D.i2z,D.TITO,D.TIi1,D.TIi2,D.TOi1,D.TOi2,D.i12,
  y_2 g1 hz (by rw[d1];simp),y_2 g1 hTO (by rw[d1];simp),y_2 g1 e1 (by rw[d1,c1];simp),y_2 g1 e2 (by rw[d1,c2];simp),
  y_2 g2 hz (by rw[d2];simp),y_2 g2 hTO (by rw[d2];simp),y_2 g2 e1 (by rw[d2,c1];simp),y_2 g2 e2 (by rw[d2,c2];simp)⟩
def cl_9{P:Program}{w:World}{elts:List Expr}{x1:Nat}(z TI TO i1 i2 l1 l2:Addr)(D:ZApart z TI TO i1 i2)(xs ys:List V):
  Turn P w K (.Tuple elts x1 pos) (zpL K l1 l2 xs ys) [z,TI,TO,i1,i2] z (λi h=>IsZip h z TI TO .none/\IsPair h TI (.ref i1) (.ref i2)/\(∃a b,IsPair h TO a b)/\h.IsListIter i1 l1 i/\h.IsListIter i2 l2 i) where
 mem:=by simp
 obj:=λi h st b hb=>by
  obtain⟨hz,hTI,⟨a,c,hTO⟩,⟨o1,e1,c1,d1⟩,⟨o2,e2,c2,d2⟩⟩:=st;have hb':b=z\/b=TI\/b=TO\/b=i1\/b=i2:=by simpa using hb
  rcases hb' with rfl|rfl|rfl|rfl|rfl
  ·exact⟨_,hz,λv q=>by cases q⟩
  ·exact⟨_,hTI,λv q=>by cases q⟩
  ·exact⟨_,hTO,λv q=>by cases q⟩
  ·exact⟨o1,e1,λv q=>by rw[d1]at q;cases q⟩
  ·exact⟨o2,e2,λv q=>by rw[d2]at q;cases q⟩
 keep:=λi h h' st k=>by
  obtain⟨hz,hTI,⟨a,c,hTO⟩,h1,h2⟩:=st;exact⟨k z (by simp) _ hz,k TI (by simp) _ hTI,⟨a,c,k TO (by simp) _ hTO⟩,h1.at λo e=>k i1 (by simp) o e,h2.at λo e=>k i2 (by simp) o e⟩
 item:=by
  intro X hP hw hK hc i zd s σ H E I hf st hg;subst hP hw hK;obtain⟨hq1,hq2,hi1,hi2⟩:=hg;obtain⟨dk,rv1,p1,hz1⟩:=I.list hq1;obtain⟨bo,rv2,p2,hz2⟩:=I.list hq2;obtain⟨x,hx⟩:∃x,xs[i]? =some x:=⟨_,B6 hi1⟩;obtain⟨y,hy⟩:∃y,ys[i]? =some y:=⟨_,B6 hi2⟩;obtain⟨u1,hu1,ru1⟩:=rv1.get hx;obtain⟨u2,hu2,ru2⟩:=rv2.get hy;obtain⟨hz,hTI,⟨a,c,hTO⟩,h1,h2⟩:=st;have DD:=cl_8 D hz hTO h1 h2 p1.isList p2.isList;refine wpAny_pyNext_zip_item DD hz hTI hTO h1 h2 p1.isList p2.isList (x:=u1) (y:=u2) (by simpa using hu1) (by simpa using hu2) λh' a1 a2 a3 a4 a5 a6 kk=> ?_;refine⟨_,rfl,wpAny_letOwnedTupleGo_zip a1 λh'' je sb=> ?_⟩;have lt:∀{c o},s.heap.get? c=some o->s.heap.objs.size≠c:=λe=>R6 (A6 e);have jb:IsPair h' TI (.ref i1) (.ref i2):=kk _ _ DD.TIz DD.TITO DD.TIi1 DD.TIi2 hTI;refine⟨.ref s.heap.objs.size,upd H s.heap.objs.size (.tup [x,y]), ?_,rfl,⟨_,x,y,I.hok.fresh (A8 _),rfl,hx,hy,rfl⟩,⟨je,sb.extBut _ _ DD.TIz jb,⟨_,_,sb.extBut _ _ DD.TOz a2⟩,a3.at λo e=>sb.extBut _ _ DD.i1z e,a4.at λo e=>sb.extBut _ _ DD.i2z e⟩,λb hb=> ?_⟩
  ·refine Inv.pairN (its:=[u1,u2]) (ch:=[z,TI,TO,i1,i2]) I hf (λb o hb q=> ?_) (sb.extBut _ _ (lt hz) a5) (.cons ru1 (.cons ru2 .nil)) (by show 2<=sizeLine;decide);have hb':b≠z/\b≠TI/\b≠TO/\b≠i1/\b≠i2:=by simpa using hb
   exact sb.extBut _ _ hb'.1 (kk b o hb'.1 hb'.2.2.1 hb'.2.2.2.1 hb'.2.2.2.2 q)
  ·have hbl:b < s.heap.objs.size:=by
    have hb':b=z\/b=TI\/b=TO\/b=i1\/b=i2:=by simpa using hb
    obtain⟨o1,e1,_⟩:=h1;obtain⟨o2,e2,_⟩:=h2;rcases hb' with rfl|rfl|rfl|rfl|rfl
    ·exact A6 hz
    ·exact A6 hTI
    ·exact A6 hTO
    ·exact A6 e1
    ·exact A6 e2
   rw[Aq (B4 hbl)];exact(hf b hb).1
 done:=by
  intro X hP hw hK hc i zd s σ H E I hf st hg;subst hP hw hK;obtain⟨hq1,hq2,hi⟩:=hg;obtain⟨dk,rv1,p1,hz1⟩:=I.list hq1;obtain⟨bo,rv2,p2,hz2⟩:=I.list hq2;obtain⟨hz,hTI,⟨a,c,hTO⟩,h1,h2⟩:=st;have DD:=cl_8 D hz hTO h1 h2 p1.isList p2.isList;have l1:=rv1.length;have l2:=rv2.length;have iy:dk.toArray[i]? =none\/bo.toArray[i]? =none:=by
   rcases Nat.le_total xs.length ys.length with h|h
   ·exact .inl (ZB8 (by rw[C1,hi,Nat.min_eq_left h];omega))
   ·exact .inr (ZB8 (by rw[C1,hi,Nat.min_eq_right h];omega))
  refine wpAny_pyNext_zip_end (I.ok.hd hc) DD hz hTI hTO h1 h2 p1.isList p2.isList iy λh' kk=>⟨rfl, ?_⟩;refine Inv.turnedN (tk:=s.toks) (ch:=[z,TI,TO,i1,i2]) I hf λb o hb q=> ?_;have hb':b≠z/\b≠TI/\b≠TO/\b≠i1/\b≠i2:=by simpa using hb
  exact kk b o hb'.1 hb'.2.2.1 hb'.2.2.2.1 hb'.2.2.2.2 q
 self:=λA i s Q E st h=>wpAny_pyIter_zip st.1 h
def Ef:List D->List D->List D
 |a::as,b::bs=> .tup [a,b]::Ef as bs
 |_,_=> []
theorem bl_4:∀{as bs:List D} {i:Nat} {d:D},(Ef as bs)[i]? =some d->∃a b,as[i]? =some a/\bs[i]? =some b/\d=.tup [a,b]
 | [],_,_,_,h=>by simp[Ef]at h
 |_::_,[],_,_,h=>by simp[Ef]at h
 |a::as,b::bs,0,d,h=>by simp[Ef]at h;exact⟨a,b,rfl,rfl,h.symm⟩
 |a::as,b::bs,i + 1,d,h=>by
  obtain⟨x,y,e1,e2,e3⟩:=bl_4 (as:=as) (bs:=bs) (i:=i) (by simpa[Ef] using h);exact⟨x,y,by simpa using e1,by simpa using e2,e3⟩
theorem bl_5:∀(as bs:List D),(Ef as bs).length=min as.length bs.length
 | [],bs=>by simp[Ef]
 |_::_,[]=>by simp[Ef]
 |a::as,b::bs=>by simp[Ef,bl_5 as bs,Nat.succ_min_succ]
def cx_9{G:Hp}{l1 l2:Addr}{vs us:List V}{ds es:List D}(h1:SqL K G l1 vs)(r1:HasL K G vs ds)(h2:SqL K G l2 us)(r2:HasL K G us es):ItD K G (zpL K l1 l2 vs us) (Ef ds es):=λG' H g1 g i=>by
 refine⟨λd e=> ?_,λe=> ?_⟩
 ·obtain⟨a,b,e1,e2,rfl⟩:=bl_4 e;obtain⟨v,q1,hv⟩:=r1.get e1;obtain⟨u,q2,hu⟩:=r2.get e2;refine⟨⟨(g1.trans g).seq h1,(g1.trans g).seq h2,(B2.mp q1).1,(B2.mp q2).1⟩,λx H' y=> ?_⟩;obtain⟨p,x',y',hp,rfl,z1,z2,rfl⟩:=y;rw[q1]at z1;rw[q2]at z2;cases z1;cases z2;have sm:=g1.trans (g_8 (g.free hp) (.tup [v,u]));exact⟨_,Step.new g hp _,.tup (SqT.of Bp) (.cons (hv.mono sm) (.cons (hu.mono sm) .nil))⟩
 ·rw[bl_5]at e;exact⟨(g1.trans g).seq h1,(g1.trans g).seq h2,by rw[r1.length,r2.length];exact e.symm⟩
def az_5:List D->R (List D)
 | [.lst as,.lst bs]=> .ok (Ef as bs)
 |_=> .no
section
variable{X:Cx}{EX:Az}{a b:Expr}{fa:FA}{elts:List Expr}{x1:Nat}{tp p pos:Pos}
def iZp(K:Frag)(t:TA):TI:=λ σ H Q=>t σ H λvs H1=>∃l1 l2 xs ys,vs= [.ref l1,.ref l2]/\SqL K H1 l1 xs/\SqL K H1 l2 ys/\Q (zpL K l1 l2 xs ys) H1
def dl_0{ta:TA}(hg:Gl X "zip")(hm:X.mg "zip" =none)(ha:PA X [a,b] ta)(hs:starEach [a,b] X.env=(false,eval a X.env)::starEach [b] X.env:=by rfl)(hpl:(backTo pos (starEach [b] X.env)).any (·.1)=false:=by rfl):PI X (.Tuple elts x1 tp) (.Call (.Name "zip" p) [a,b] [] pos) (iZp X.K ta):=by
 intro zd s σ H Q I h;refine Call_ (l_6 I hg hm PyProof.Rows.boot_zip (D6 (Ax (ha pos zd s σ H _ I h) λus s1 ⟨vs,H1,I1,r1,q1⟩=> ?_) hs hpl));obtain⟨l1,l2,xs,ys,rfl,hq1,hq2,q⟩:=q1;cases r1 with
 |cons ra rr=>
  cases rr with
  |cons rb rr=>
   cases rr;cases ra;cases rb;obtain⟨dk,rv1,p1,_⟩:=I1.list hq1;obtain⟨bo,rv2,p2,_⟩:=I1.list hq2;refine call_zip_2 p1.isList p2.isList λh' hz hTI hTO h1 h2 hsz kk=>wpAny_pyIter_zip hz ?_;refine⟨s1.heap.objs.size + 4,[s1.heap.objs.size + 4,s1.heap.objs.size + 2,s1.heap.objs.size + 3,s1.heap.objs.size,s1.heap.objs.size + 1],_,zpL X.K l1 l2 xs ys,H1,rfl,I1.kept (t':=s1.toks) kk,cl_9 _ _ _ _ _ l1 l2 ?_ xs ys,⟨hz,hTI,⟨_,_,hTO⟩,h1,h2⟩,λb hb=> ?_,q⟩
   ·have ne:∀{m n:Nat},m≠n->s1.heap.objs.size + m≠s1.heap.objs.size + n:=λh z=>h (Nat.add_left_cancel z);have ne0:∀{n:Nat},0≠n->s1.heap.objs.size≠s1.heap.objs.size + n:=λh z=>h (Nat.add_left_cancel z);exact⟨ne ⋯,ne ⋯,ne0 ⋯,ne ⋯,ne ⋯,Ne.symm (ne0 ⋯),ne ⋯,Ne.symm (ne0 ⋯),ne ⋯,ne0 ⋯⟩
   ·have hbl:s1.heap.objs.size<=b:=by
     have hb':b=s1.heap.objs.size + 4\/b=s1.heap.objs.size + 2\/b=s1.heap.objs.size + 3\/b=s1.heap.objs.size\/b=s1.heap.objs.size + 1:=by simpa using hb
     rcases hb' with rfl|rfl|rfl|rfl|rfl
     ·exact W4 _ _
     ·exact W4 _ _
     ·exact W4 _ _
     ·exact A8 _
     ·exact W4 _ _
    exact I1.fpOk hbl (I1.hok.fresh hbl)
def dl_1(hm:X.mg "zip" =none)(ha:AD X EX [a,b] fa)(hg:Gl X "zip" :=by rfl)(hs:starEach [a,b] X.env=(false,eval a X.env)::starEach [b] X.env:=by rfl)(hpl:(backTo pos (starEach [b] X.env)).any (·.1)=false:=by rfl):
  ID X EX (.Tuple elts x1 tp) (.Call (.Name "zip" p) [a,b] [] pos) (Aw az_5 fa):=
 PI.imp (dl_0 hg hm ha hs hpl) λ σ H Q ⟨G,δ,g0,s0,o⟩=>tDa.seqI g0 s0 o λds vs G' H' st r o'=>by
  cases r with
  |nil=>exact False.elim o'
  |cons r1 r=>
   cases r with
   |nil=>cases r1 <;> exact False.elim o'
   |cons r2 r=>
    cases r with
    |cons _ _=>cases r1 <;> cases r2 <;> exact False.elim o'
    |nil=>
     cases r1 with
     |lst h1 r1=>
      cases r2 with
      |lst h2 r2=>exact⟨_,_,_,_,rfl,st.gh.seq h1,st.gh.seq h2,o' _ G' H' (Step.refl st.gh) (cx_9 h1 r1 h2 r2)⟩
      |_=>exact False.elim o'
     |_=>cases r2 <;> exact False.elim o'
end
def met(is:List Int):List Int:=PyProof.Rows.firstMet (λi=>is.getD i 0) is.length
def ao_1:D->R W
 | .lst ds=>match u_3 ds with
  |some is=>if is.length<=4000 then .ok (.sh (.int (met is).length)) else .no
  |none=> .no
 |_=> .no
def aa_1(f:FE):FE:=λ δ=>(f δ).bind λw=>ao_1 w.d
theorem ar_0{G:Hp}:∀{vs:List V} {ds:List D} {us:List Value} {is:List Int},HasL K G vs ds->Vals vs us->u_3 ds=some is->IntsAre us is
 |_,_,_,_,.nil,r,e=>by cases r;cases e;exact .nil
 |_,_,_,_,.cons h t,r,e=>by
  cases r with
  |cons r1 r2=>
   cases h with
   |int x=>
    obtain⟨tk,rfl⟩:=r1;simp only[u_3]at e;obtain⟨zs,q,rfl⟩:=N1.mp e;exact .cons x tk (ar_0 t r2 q)
   |_=>cases e
section
variable{X:Cx}{EX:Az}{a:Expr}{f:FE}{p p' pos pos':Pos}
def ce_3(hc:X.calm=true)(hml:X.mg "len" =none)(hm:X.mg "set" =none)(ha:ED X EX a f)(hgl:Gl X "len" :=by rfl)(hg:Gl X "set" :=by rfl)
  (hs:starEach [a] X.env=(false,eval a X.env)::starEach [] X.env:=by rfl)
  (hs2:starEach [.Call (.Name "set" p') [a] [] pos'] X.env=(false,eval (.Call (.Name "set" p') [a] [] pos') X.env)::starEach [] X.env:=by rfl) (hpl:(backTo pos (starEach [] X.env)).any (·.1)=false:=by rfl) (dm:(backTo pos' (starEach [] X.env)).any (·.1)=false:=by rfl):
  ED X EX (.Call (.Name "len" p) [.Call (.Name "set" p') [a] [] pos'] [] pos) (aa_1 f):=by
 intro zd s σ H Q I q;obtain⟨G,δ,g0,s0,o⟩:=q;refine Call_ (l_6 I hgl hml D9 (W2 ?_ hs2 hpl));rw[hs2];show wpAny _ _ (spliced ((false,eval (.Call (.Name "set" p') [a] [] pos') X.env)::backTo pos (starEach [] X.env))) _ _ s;refine K6 ?_;refine Call_ (l_6 I hg hm PyProof.Rows.boot_set (D6 ?_ hs dm));rw[hs];show wpAny _ _ (spliced ((false,eval a X.env)::backTo pos' (starEach [] X.env))) _ _ s;refine K6 (Ax (ha zd s σ H _ I (tD.seq g0 s0 o (P:=λv H1=>∃l ds vs is G1,Same G1 H1/\v=.ref l/\SqL X.K G1 l vs/\HasL X.K G1 vs ds/\u_3 ds=some is/\is.length<=4000/\Out X.K (EX σ) G1 H1 (.ok (.sh (.int (met is).length))) Q) λw v G' H' _ st r o'=> ?_)) λu s1 ⟨v,H1,I1,r1,q1⟩=>M8 ?_)
 ·revert r o';cases w.d with
  |lst ds=>
   intro r o';cases r with
   |lst h r=>
    simp only[ao_1]at o'
    split at o'
    ·rename_i is e
     split at o'
     ·rename_i hl;exact⟨_,ds,_,is,G',st.gh,rfl,h,r,e,hl,o'⟩
     ·exact o'.elim
    ·exact o'.elim
  |_=>intro _ o';exact False.elim o'
 ·obtain⟨l,ds,vs,is,G1,sg,rfl,hq,r,e,hl,o'⟩:=q1;cases r1;obtain⟨its,rv,pl,hz⟩:=I1.list (sg.seq hq);have ia:=ar_0 r rv e;have il:its.length=is.length:=ia.length;refine PySem.call_set_list (ns:=is) (I1.ok.hd hc) pl.isList (by simpa using ia) (by rw[C1,il];show is.length + 1 < 4096;omega) λh' tk so kk=> ?_;refine M8 ?_;obtain⟨ob,es,ep,t,ho,hex,hd,_,_,hb,hf,hn⟩:=so;have hb':es.size < 4096:=hb;refine PySem.call_len_set ho hex hd hf () ?_;rw[hn,C1,il];exact⟨.int _,H1,I1.kept (t':=_) λb ob hbo=>kk b ob (A6 hbo) hbo,⟨_,rfl⟩,Cq o' sg (.int _)⟩
end
def Dn:D->Option Ak
 | .int i=>some (.inl i)
 | .str x=>some (.inr x)
 |_=>none
def ar_1{G:Hp}{v:V}{d:D}{k:Ak}(r:Has K G v d)(e:Dn d=some k):v=kV k:=by
 cases r <;> first|(cases e;rfl)|cases e
section
variable{α:Type}
def Ck(kvs:List (Ak×α))(k:Ak):Option α:=(kvs.find? λkv=>decide (kv.1=k)).map (·.2)
def Eh(kvs:List (Ak×α))(k:Ak)(v:α):List (Ak×α):=if(kvs.any λkv=>decide (kv.1=k))=true then kvs.map (λkv=>if kv.1=k then(kv.1,v) else kv) else kvs ++ [(k,v)]
def Ee(kvs:List (Ak×α))(k:Ak):Bool:=(Ck kvs k).isSome
end
def bx_9(kvs:List (Ak×V))(k:Ak)(v:V):Fm kvs k v=Eh kvs k v:=rfl
theorem ao_2{G:Hp}:∀{kvs:List (Ak×V)} {kds:List (Ak×D)} (k:Ak),kvs.map (·.1)=kds.map (·.1)->HasL K G (kvs.map (·.2)) (kds.map (·.2))->(Cj kvs k).isSome=Ee kds k/\∀d,Ck kds k=some d->∃v,Cj kvs k=some v/\Has K G v d
 | [],[],k,_,_=>⟨rfl,λd e=>by cases e⟩
 | [],_::_,k,e,_=>by simp at e
 |_::_,[],k,e,_=>by simp at e
 |(x,v)::kvs,(y,d)::kds,k,e,r=>by
  simp only[B1,T6]at e;obtain⟨e1,e2⟩:=e;subst e1;cases r with
  |cons h r=>
   obtain⟨i1,i2⟩:=ao_2 (kvs:=kvs) (kds:=kds) k e2 r
   by_cases q:x=k
   ·have a1:Cj ((x,v)::kvs) k=some v:=h_5 q;have a2:Ck ((x,d)::kds) k=some d:=by unfold Ck;rw[U8 (by simpa using q)];rfl
    refine⟨by unfold Ee;rw[a1,a2];rfl,λd' e'=> ?_⟩;rw[a2]at e';cases e';exact⟨v,a1,h⟩
   ·have a1:Cj ((x,v)::kvs) k=Cj kvs k:=g_9 q;have a2:Ck ((x,d)::kds) k=Ck kds k:=by unfold Ck;rw[U9 (by simpa using q)]
    refine⟨by unfold Ee at i1⊢;rw[a1,a2];exact i1,λd' e'=> ?_⟩;rw[a2]at e';rw[a1];exact i2 d' e'
theorem bl_6{α β:Type}:∀{kvs:List (Ak×α)} {kds:List (Ak×β)} (k:Ak),kvs.map (·.1)=kds.map (·.1)->(kvs.any λkv=>decide (kv.1=k))=kds.any λkv=>decide (kv.1=k)
 | [],[],_,_=>rfl
 | [],_::_,k,e=>by simp at e
 |_::_,[],k,e=>by simp at e
 |(x,v)::kvs,(y,d)::kds,k,e=>by
  simp only[B1,T6]at e;obtain⟨e1,e2⟩:=e;subst e1;rw[S3,S3,bl_6 k e2]
def cy_0{G:Hp}{kvs:List (Ak×V)}{kds:List (Ak×D)}(k:Ak){v:V}{d:D}(e:kvs.map (·.1)=kds.map (·.1))(r:HasL K G (kvs.map (·.2)) (kds.map (·.2)))(h:Has K G v d):
  (Fm kvs k v).map (·.1)=(Eh kds k d).map (·.1)/\HasL K G ((Fm kvs k v).map (·.2)) ((Eh kds k d).map (·.2)):=by
 rw[bx_9];unfold Eh;rw[bl_6 k e]
 split
 ·have all:∀{kvs:List (Ak×V)} {kds:List (Ak×D)},kvs.map (·.1)=kds.map (·.1)->HasL K G (kvs.map (·.2)) (kds.map (·.2))->
    (kvs.map (λkv=>if kv.1=k then(kv.1,v) else kv)).map (·.1)=(kds.map (λkv=>if kv.1=k then(kv.1,d) else kv)).map (·.1)/\HasL K G ((kvs.map (λkv=>if kv.1=k then(kv.1,v) else kv)).map (·.2)) ((kds.map (λkv=>if kv.1=k then(kv.1,d) else kv)).map (·.2)):=by
   intro kvs
   induction kvs with
   |nil=>
    intro kds e r;cases kds with
    |nil=>exact⟨rfl,.nil⟩
    |cons _ _=>simp at e
   |cons p kvs ih=>
    intro kds e r;cases kds with
    |nil=>simp at e
    |cons q kds=>
     obtain⟨x,u⟩:=p;obtain⟨y,w⟩:=q;simp only[B1,T6]at e;obtain⟨e1,e2⟩:=e;subst e1;cases r with
     |cons h1 r=>
      obtain⟨i1,i2⟩:=ih e2 r;simp only[B1]
      by_cases z:x=k
      ·simp only[z,if_true];exact⟨by rw[i1],.cons h i2⟩
      ·simp only[z,L9];exact⟨by rw[i1],.cons h1 i2⟩
  exact all e r
 ·refine⟨by rw[F1,F1,e];rfl, ?_⟩;rw[F1,F1];exact r.append (.cons h .nil)
section
variable{X:Cx}{EX:Az}{pos:Pos}
def u_4:FE:=λ_=> .ok (.ow (.dic []))
def aa_2:ED X EX (.Dict [] [] pos) u_4:=PE.imp cj_7 λ σ H Q ⟨G,δ,g,s,o⟩=>λp hp=>
 o (.ref p) (λb=>b=p) G _ (Step.own g hp _) (λa e=>by subst e;exact⟨hp,g.free hp,by rw[Bp];simp⟩) (.dict Bp rfl rfl .nil)
def inK(neg:Bool):D->D->R W
 |d,.dic kvs=>match Dn d with
  |some k=> .ok (.sh (.bl (if neg then !Ee kvs k else Ee kvs k)))
  |none=> .no
 |_,_=> .no
def DGet.rd{a:Addr}{kvs:List (Ak×V)}{k:Ak}(e:Rd H a (.dK kvs)):DGet H a (kV k) (Cj kvs k):=.inl ⟨kvs,k,e,rfl,rfl⟩
def be_8(hu:X.A.units + 64 < cLine):Eu X (compareOp .In) (inK false):=by
 intro zd s σ H x y v u Q I rx ry q;obtain⟨EX,G,a,b,g,ra,rb,o⟩:=q;cases rb with
 |dic h hk r=>
  simp only[inK]at o
  split at o
  ·rename_i k ek;have ex:=ar_1 ra ek;subst ex;cases ry;refine d_in () I (DGet.rd (k:=k) (Same.rdD g h)) rx λs' I'=>⟨.bl _,H,I',rfl, ?_⟩;rw[(ao_2 k hk r).1];exact Cq o g (.bl _)
  ·exact o.elim
 |_=>exact False.elim o
def Em:D->D->R W
 | .dic kvs,d=>match Dn d with
  |some k=>(match Ck kvs k with
   |some x=> .ok (.sh x)
   |none=> .no)
  |none=> .no
 |_,_=> .no
def be_9{o i:Expr}{f g:FE}(hu:X.A.units + 64 < cLine)(ho:ED X EX o f)(hi:ED X EX i g)(hs:NoSl i:=by intro _ _;rfl):ED X EX (.Subscript o i pos) (Ag Em f g):=
 PE.imp (cv_6 () ho hi hs) λ σ H Q ⟨G,δ,g0,s0,o⟩=>tD.seq g0 s0 o λw v G1 H1 _ st1 r1 o1=>tD.seq st1.gh (s0.mono st1.gg) o1 λw2 v2 G2 H2 _ st2 r2 o2=>by
  have r1:=r1.mono st2.gg;revert r1 o2;cases w.d with
  |dic kvs=>
   intro o2 r1;simp only[Em]at o2
   split at o2
   ·rename_i k ek
    split at o2
    ·rename_i x ex;cases r1 with
     |dic h hk r=>
      obtain⟨u,e1,e2⟩:=(ao_2 k hk r).2 x ex;have e3:=ar_1 r2 ek;subst e3;refine⟨_,u,rfl, ?_,Cq o2 st2.gh e2⟩;rw[<-e1];exact DGet.rd (Same.rdD st2.gh h)
    ·exact o2.elim
   ·exact o2.elim
  |_=>intro o2 _;exact False.elim o2
def u_5(i:Nat)(js:List Nat)(fk fe:FE):FS:=λ Δ=>match(gsome js Δ)[i]? with
 |some (.ow (.dic kvs))=>(match fe (Bf (gsome js Δ)) with
  | .ok w=>(match fk (Au (gsome js Δ)) with
   | .ok z=>(match Dn z.d with
    |some k=>if kvs.length < 16777216 then .nx ((gsome js Δ).set i (.ow (.dic (Eh kvs k w.d)))) else .no
    |none=> .no)
   |_=> .no)
  |_=> .no)
 |_=> .no
def af_1{i:Nat}(js:List Nat){x:Str}{e ie:Expr}{fe fk:FE}{p1 zi pos:Pos}(hu:X.A.units + 64 < cLine)(he:ED X EX e fe)(hi:ED X EX ie fk)(hN:X.N[i]? =some x:=by rfl)(hv:Vis X.env.scope x:=by trivial)(hd:AG x:=by decide)
  (hcd:(x ==("__classdict__" :Str))=false:=by decide) (hs:swapsWith e (some (.Subscript (.Name x p1) ie zi)) pos.line X.env=pure false:=by rfl):
  SD X EX (.Assign [.Subscript (.Name x p1) ie zi] e pos) (u_5 i js fk fe):=
 PS.imp (cv_7 () (l_5 hN hv hd hcd) hi he hs) λD σ H ⟨H0,G0,G,Δ,O,E,q⟩=>by
  obtain⟨G1,O1,sg,E1⟩:=E.gsome js;unfold u_5 at q;generalize gsome js Δ=Δ1 at q E1
  split at q
  ·rename_i kds e1;obtain⟨v0,s1,t⟩:=E1.ow i _ _ e1 rfl;obtain⟨a,kvs,rfl,m,hH,hk,rl⟩:=t.dict_of;refine⟨G1,Bf Δ1,E1.st.gh,E1.gsh, ?_⟩;cases e2:fe (Bf Δ1) with
   |ex x=>rw[e2]at q;exact q.elim
   |no=>rw[e2]at q;exact q.elim
   |ok w=>
    simp only[e2]at q;refine WP.intro λv G' H' st r=> ?_;have E2:=E1.grow st;refine⟨.ref a,s1,x_5 G' H' O1,Au Δ1,E2.aH,E2.gall, ?_⟩;cases e3:fk (Au Δ1) with
    |ex x=>simp only[e3]at q;exact q.elim
    |no=>simp only[e3]at q;exact q.elim
    |ok z=>
     simp only[e3]at q;refine WP.intro λv2 G2 H2 st2 r2=> ?_
     split at q
     ·rename_i k ek
      split at q
      ·rename_i hl;have e4:=ar_1 r2 ek;subst e4;have hH2:H2 a=some (.dK kvs):=st2.hh _ _ (st.hh _ _ hH);have hle:kvs.length=kds.length:=by
        have:=K5 List.length hk
        rwa[A3,A3]at this
       obtain⟨p1,p2⟩:=cy_0 k hk (rl.mono st.gg) r;exact⟨a,_,rfl,DPut.k hH2 (by rw[hle,D2];exact hl),q σ G' _ _ ((E2.keep st2.hh).writeD s1 m p1 p2) (sg.trans st.gg)⟩
      ·exact q.elim
     ·exact q.elim
  ·exact q.elim
end
section
variable{K:Frag}{H0 H1:HB}{G0 G H:Hp}{σ:Sg}{Δ:SE}{O:OS}
end
section
variable{X:Cx}{EX:Az}{pos:Pos}
end
section
variable{X:Cx}{EX:Az}{pos:Pos}
end
section
variable{X:Cx}{EX:Az}{a b:Expr}{fa:FA}{p pos:Pos}
end
section
variable{K:Frag}{G H:Hp}
theorem OwL.focus:∀{vs:List V} {ts:List Tn} {S:AS} {n:Nat} {t:Tn},OwL K G H vs ts S->ts[n]? =some t->∃v S1,vs[n]? =some v/\Ow K G H v t S1/\(∀b,S1 b->S b)/\
  ∀{H':Hp} {t':Tn},(∀b o,S b->¬S1 b->H b=some o->H' b=some o)->Ow K G H' v t' S1->OwL K G H' vs (ts.set n t') S
 |_,_,_,_,_,.nil,e=>by simp at e
 |v::vs,t0::ts,S,0,t,.cons (S1:=S1) (S2:=S2) h r dj s1 s2,e=>by
  have e:t0=t:=by simpa using e
  subst e;refine⟨v,S1,rfl,h,s1,λ{H' t'} f h'=> ?_⟩;exact .cons h' (r.mono (Same.refl _) (λb o hb q=>f b o (s2 b hb) (λz=>dj b z hb) q) λ_ q=>q) dj s1 s2
 |v::vs,t0::ts,S,n + 1,t,.cons (S1:=S1) (S2:=S2) h r dj s1 s2,e=>by
  obtain⟨v',S',e1,h',i',f'⟩:=OwL.focus (n:=n) r (by simpa using e);refine⟨v',S',by simpa using e1,h',λb q=>s2 b (i' b q),λ{H' t'} f h2=> ?_⟩;exact .cons (h.mono (Same.refl _) (λb o hb q=>f b o (s1 b hb) (λz=>dj b hb (i' b z)) q) λ_ q=>q) (f' (λb o hb nb q=>f b o (s2 b hb) nb q) h2) dj s1 s2
theorem OwL.append:∀{vs us:List V} {ts rs:List Tn} {S1 S2 S:AS},OwL K G H vs ts S1->OwL K G H us rs S2->(∀b,S1 b->S2 b->False)->(∀b,S1 b->S b)->(∀b,S2 b->S b)->OwL K G H (vs ++ us) (ts ++ rs) S
 |_,_,_,_,_,_,_,.nil,r,_,_,i2=>r.mono (Same.refl _) (λ_ _ _ q=>q) i2
 |_,_,_,_,S1,S2,S,.cons (S1:=Sa) (S2:=Sb) h r dj s1 s2,q,d,i1,i2=>
  .cons (S2:=λb=>Sb b\/S2 b) h (OwL.append r q (λb z1 z2=>d b (s2 b z1) z2) (λb z=> .inl z) λb z=> .inr z) (λb z1 z2=>by
   rcases z2 with z2|z2
   ·exact dj b z1 z2
   ·exact d b (s1 b z1) z2) (λb z=>i1 b (s1 b z)) λb z=>by
   rcases z with z|z
   ·exact i1 b (s2 b z)
   ·exact i2 b z
end
section
variable{α:Type}
def Do:List (Ak×α)->Ak->α->List (Ak×α)
 | [],_,_=> []
 |(x,v)::r,k,v'=>if x=k then(x,v')::r else(x,v)::Do r k v'
theorem az_6:∀(l:List (Ak×α)) (k:Ak) (v:α),(Do l k v).map (·.1)=l.map (·.1)
 | [],_,_=>rfl
 |(x,v0)::r,k,v=>by
  unfold Do
  split
  ·rfl
  ·rw[B1,B1,az_6 r k v]
end
section
variable{K:Frag}{G H:Hp}
theorem OwL.focusK(k:Ak):∀{kvs:List (Ak×V)} {zm:List (Ak×Tn)} {S:AS} {t:Tn},kvs.map (·.1)=zm.map (·.1)->OwL K G H (kvs.map (·.2)) (zm.map (·.2)) S->Ck zm k=some t->
  ∃v S1,Cj kvs k=some v/\Ow K G H v t S1/\(∀b,S1 b->S b)/\
   ∀{H':Hp} {t':Tn},(∀b o,S b->¬S1 b->H b=some o->H' b=some o)->Ow K G H' v t' S1->OwL K G H' (kvs.map (·.2)) ((Do zm k t').map (·.2)) S
 | [],[],_,_,_,_,e=>by cases e
 | [],_::_,_,_,e,_,_=>by simp at e
 |_::_,[],_,_,e,_,_=>by simp at e
 |(x,v)::kvs,(y,t0)::zm,S,t,e,r,h=>by
  simp only[B1,T6]at e;obtain⟨e1,e2⟩:=e;subst e1;cases r with
  |cons hh r dj s1 s2=>
   rename_i S1 S2
   by_cases q:x=k
   ·have a2:Ck ((x,t0)::zm) k=some t0:=by unfold Ck;rw[U8 (by simpa using q)];rfl
    rw[a2]at h;cases h;refine⟨v,S1,h_5 q,hh,s1,λ{H' t'} f h'=> ?_⟩;unfold Do;rw[if_pos q];exact .cons h' (r.mono (Same.refl _) (λb o hb z=>f b o (s2 b hb) (λw=>dj b w hb) z) λ_ z=>z) dj s1 s2
   ·have a2:Ck ((x,t0)::zm) k=Ck zm k:=by unfold Ck;rw[U9 (by simpa using q)]
    rw[a2]at h;obtain⟨v',S',e1,h',i',f'⟩:=OwL.focusK k e2 r h;refine⟨v',S',by rw[g_9 q];exact e1,h',λb z=>s2 b (i' b z),λ{H' t'} f h2=> ?_⟩;unfold Do;rw[if_neg q];exact .cons (hh.mono (Same.refl _) (λb o hb z=>f b o (s1 b hb) (λw=>dj b hb (i' b w)) z) λ_ z=>z) (f' (λb o hb nb z=>f b o (s2 b hb) nb z) h2) dj s1 s2
end
def Sl.tree:Sl->Option (Tn×Bool)
 | .ow d=>some (Tn.of d,false)
 | .tr t=>some (t,false)
 | .lt t=>some (t,true)
 |_=>none
def Sl.mk(b:Bool)(t:Tn):Sl:=if b then .lt t else .tr t
def Sl.tree_own{s:Sl}{t:Tn}{b:Bool}(e:s.tree=some (t,b)):s.own=some t:=by
 cases s <;> first|(cases e;rfl)|cases e
def Sl.mk_own(b:Bool)(t:Tn):(Sl.mk b t).own=some t:=by cases b <;> rfl
def Sl.mk_lk(b:Bool)(t:Tn):∀d,Sl.mk b t≠ .lk d:=by intro d;cases b <;> (intro z;cases z)
def Ev.mk_lt{H0:HB}{G0 G H:Hp}{σ:Sg}{Δ:SE}{O:OS}(E:Ev K H0 G0 G H σ Δ O){i:Nat}{s:Sl}{t:Tn}{b:Bool}(e:Δ[i]? =some s)(q:s.tree=some (t,b))(t':Tn):∀d,Sl.mk b t'=.lt d->σ[i]? =some (some (.ref (H0.b i))):=by
 intro d z;cases b with
 |false=>cases z
 |true=>
  cases s with
  |lt t0=>exact E.lt i t0 e
  |_=>cases q
def Ev.writeIn{H0:HB}{G0 G H:Hp}{σ:Sg}{Δ:SE}{O:OS}(E:Ev K H0 G0 G H σ Δ O){i:Nat}{s:Sl}{t t':Tn}{b:Bool}{v:V}{a:Addr}{o:HO}(e:Δ[i]? =some s)(q:s.tree=some (t,b))(s1:σ[i]? =some (some v))(m:O i a)(t1:Ow K G (upd H a o) v t' (O i)):
  Ev K H0 G0 G (upd H a o) σ (Δ.set i (Sl.mk b t')) (Ey O i (O i)):=
 have ms:=MStep.write E.st.gh m (E.out i a m).1 o
 E.step2 (Sl.mk_own b t') (Sl.mk_lk b t') (E.mk_lt e q t') ms.weak s1 (λb hb=>⟨.inl hb,(E.out i b hb).1,ms.al b (E.out i b hb).2.2⟩) t1
def Ow.dic_of{G H:Hp}{v:V}{zm:List (Ak×Tn)}{S:AS}(t:Ow K G H v (.dic zm) S):∃a kvs S1,v=.ref a/\S a/\H a=some (.dK kvs)/\kvs.map (·.1)=zm.map (·.1)/\(∀b,S1 b->S b/\b≠a)/\OwL K G H (kvs.map (·.2)) (zm.map (·.2)) S1:=by
 cases t with
 |dic h hk ha sub r=>exact⟨_,_,_,rfl,ha,h,hk,sub,r⟩
section
variable{X:Cx}{EX:Az}{pos:Pos}
end
section
variable{X:Cx}{EX:Az}{pos:Pos}
end
def kD:Ak->D
 | .inl i=> .int i
 | .inr x=> .str x
def cm_0{G:Hp}(k:Ak):Has K G (kV k) (kD k):=by cases k <;> constructor
def dq_9{P:Program}{w:World}{k:Ak}{u:Value}(h:(f_9 P w).is k u=true):RelV (kV k) u:=by
 rcases g_0 h with⟨i,t,rfl,rfl⟩|⟨x,t,rfl,rfl⟩
 ·exact⟨t,rfl⟩
 ·exact⟨t,rfl⟩
theorem az_7{P:Program}{w:World}:∀{kvs:List (Ak×V)} {vs:List (Ak×Value)} {us:List Value},KV kvs vs->us.length=vs.length->(∀(j:Nat) v,us[j]? =some v->∃k x,vs[j]? =some (k,x)/\(f_9 P w).is k v=true)->Vals ((kvs.map (·.1)).map kV) us
 | [],vs,us,r,hl,_=>by
  have:=r.length;simp at this;have:us= []:=R4 ();subst this;exact .nil
 |(k,v)::kvs,vs,us,r,hl,h=>by
  cases r with
  |cons h1 r=>
   rename_i q vs;obtain⟨k',x⟩:=q;cases us with
   |nil=>simp at hl
   |cons u us=>
    obtain⟨k2,x2,e,i⟩:=h 0 u rfl;have e:(k',x)=(k2,x2):=by simpa using e
    cases e;have e1:k=k':=h1.1;subst e1;exact .cons (dq_9 i) (az_7 r (by simpa using hl) λj v e=>by
     obtain⟨a,b,c,d⟩:=h (j + 1) v (by simpa using e);exact⟨a,b,by simpa using c,d⟩)
section
variable{X:Cx}{EX:Az}{pos:Pos}
end
section
variable{X:Cx}{EX:Az}{pos:Pos}
def by_0(kvs:List (Ak×D))(b c:D):R W:=match Dn b with
 |some k=>(match Ck kvs k with
  |some x=> .ok (.sh x)
  |none=> .ok (.sh c))
 |none=> .no
def cm_1(f g h:FE):FE:=λ δ=>(f δ).bind λa=>match a.d with
 | .dic kvs=>(g δ).bind λb=>(h δ).bind λc=>by_0 kvs b.d c.d
 |_=> .no
def cy_1{o e e2:Expr}{f g h:FE}{zh zf:Pos}(hu:X.A.units + 64 < cLine)(ho:ED X EX o f)(he:ED X EX e g)(hf:ED X EX e2 h)(hm:M2 X o "get" zh e e2 zf:=by exact⟨rfl,rfl,rfl,rfl⟩):
  ED X EX (.Call (.Attribute o "get" zh) [e,e2] [] zf) (cm_1 f g h):=
 PE.imp (cj_9 () ho he hf hm) λ σ H Q ⟨G,δ,g0,s0,o⟩=>tD.seq g0 s0 o λw v G1 H1 e1 st1 r1 o1=>by
  revert r1 o1;cases w.d with
  |dic kvs=>
   intro r1 o1;cases r1 with
   |dic hh hk r=>
    rename_i a0 kv0;refine⟨_,rfl,.inl ⟨_,Same.rdD st1.gh hh⟩, ?_⟩;refine tD.seq st1.gh (s0.mono st1.gg) o1 λw2 v2 G2 H2 _ st2 r2 o2=>tD.seq st2.gh (s0.mono (st1.gg.trans st2.gg)) o2 λw3 v3 G3 H3 _ st3 r3 o3=> ?_;unfold by_0 at o3
    split at o3
    ·rename_i k ek;have ev:=ar_1 r2 ek;subst ev;have hg:=Same.rdD st3.gh (Same.rdD st3.gg (Same.rdD st2.gg hh));refine⟨_,DGet.rd hg, ?_⟩;obtain⟨i1,i2⟩:=ao_2 (K:=X.K) (G:=G3) k hk (r.mono (st2.gg.trans st3.gg))
     split at o3
     ·rename_i x ex;obtain⟨u,e5,e6⟩:=i2 x ex;rw[e5];exact Cq o3 st3.gh e6
     ·rename_i ex;have:Cj kv0 k=none:=by
       cases q:Cj kv0 k with
       |none=>rfl
       |some u=>
        rw[q]at i1;unfold Ee at i1;rw[ex]at i1;cases i1
      rw[this];exact Cq o3 st3.gh r3
    ·exact o3.elim
  |_=>intro _ o1;exact False.elim o1
end
section
variable{X:Cx}{EX:Az}{e:Expr}{es:List Expr}{x:Str}{pp pos:Pos}{c:Bool}{k k':Nat}{ps:List Str}
end
def OFld(K:Frag)(cs:List Str)(f:Str):Prop:=∀c,cs.contains c=true->∀C,ClsAt K c C->Cls K C/\NoAttr K C f
def OFld.nil{f:Str}:OFld K [] f:=λc h=>by cases h
def ClsAt.same{c:Str}{C C':Addr}(a:ClsAt K c C)(b:ClsAt K c C'):C'=C:=by
 unfold ClsAt at a b;rw[a]at b;injection b with b
 injection b with b
 injection b with b
 exact b.symm
def OFld.one{c:Str}{C:Addr}{cs:List Str}{f:Str}(a:ClsAt K c C)(k:Cls K C)(n:NoAttr K C f)(r:OFld K cs f):OFld K (c::cs) f:=λc' h C' a'=>by
 rw[O9,R8]at h;rcases h with h|h
 ·have e:=L6.mp h;subst e;rw[a.same a'];exact⟨k,n⟩
 ·exact r c' h C' a'
def Ep(cs:List Str)(f:Str)(fo:FE):FE:=λ δ=>(fo δ).bind λw=>match w.d with
 | .obj c ns vs=>if cs.contains c then(match(ns.zip vs).lookup f with
  |some d=> .ok (.sh d)
  |none=> .no) else .no
 |_=> .no
theorem ao_3{G:Hp}{f:Str}:∀{ns:List Str} {us:List V} {vs:List D},HasL K G us vs->ns.length=us.length->(∀d,(ns.zip vs).lookup f=some d->∃v,(ns.zip us).lookup f=some v/\Has K G v d)/\(ns.contains f=false->(ns.zip us).lookup f=none)
 | [],_,_,_,_=>⟨λd e=>(by cases e),λ_=>rfl⟩
 |n::ns,[],_,_,e=>by simp at e
 |n::ns,u::us,_,.cons h r,e=>by
  obtain⟨i1,i2⟩:=ao_3 (f:=f) (ns:=ns) r (by simpa using e);refine⟨λd q=> ?_,λq=> ?_⟩
  ·rw[Y6,J9]at q⊢;cases hb:f ==n with
   |true=>simp only[hb]at q⊢;cases q;exact⟨u,rfl,h⟩
   |false=>simp only[hb]at q⊢;exact i1 d q
  ·rw[O9,Bool.or_eq_false_iff]at q;rw[Y6,J9];simp only[q.1];exact i2 q.2
section
variable{X:Cx}{EX:Az}{e:Expr}{pos:Pos}
def ai_2{cs:List Str}{f:Str}{fo:FE}(k:OFld X.K cs f)(he:ED X EX e fo)(hb:attributeBase e f X.env (eval e X.env)=eval e X.env:=by rfl):ED X EX (.Attribute e f pos) (Ep cs f fo):=
 PE.imp (di_5 he hb) λ σ H Q ⟨G,δ,g0,s0,o⟩=>tD.seq g0 s0 o λw v G1 H1 _ st r o'=>by
  revert o' r;cases w.d with
  |obj c ns vs=>
   intro r o';simp only at o'
   split at o'
   ·rename_i hc
    split at o'
    ·rename_i d ed;cases r with
     |obj hC hh hl rl=>
      obtain⟨v1,e1,h1⟩:=(ao_3 (f:=f) rl hl).1 d ed;obtain⟨kc,kn⟩:=k c hc _ hC;exact⟨_,_,_,_,v1,rfl,st.gh _ _ hh,kc,kn,e1,Cq o' st.gh h1⟩
    ·exact o'.elim
   ·exact o'.elim
  |_=>intro _ o';exact False.elim o'
end
structure MethD(P:Program)(w:World)(K:Frag)(mg:AB)(base:Heap)(cc:Bool)(k n:Nat)(m c:Str)(F:AF):Prop where
 ex:∃C f fd ps,ClsAt K c C/\Cls K C/\Meth K C m f/\FnX P w K mg base cc k f fd ps (Br K (n + 1) F)/\Binds K fd ps []
def MethT(P:Program)(w:World)(K:Frag)(mg:AB)(base:Heap)(cc:Bool)(k n:Nat)(m:Str)(tb:List (Str×(AF))):Prop:=∀c F,tb.lookup c=some F->MethD P w K mg base cc k n m c F
def MethT.nil{P:Program}{w:World}{cc:Bool}{k n:Nat}{m:Str}:MethT P w K mg base cc k n m []:=λc F e=>by cases e
def FnX.up{P:Program}{w:World}{c:Bool}{j k:Nat}{f:Addr}{ps:List Str}{sp:Sp}(F:FnX P w K mg base c j f fd ps sp)(h:j<=k):FnX P w K mg base c k f fd ps sp:=
 ⟨F.len,λA outer s H args us vs Q E hr=>F.run A outer s H args us vs Q E (hr.mono h)⟩
def MethT.one{P:Program}{w:World}{cc:Bool}{j k n:Nat}{m c:Str}{F:AF}{tb:List (Str×(AF))}(d:MethD P w K mg base cc j n m c F)(hj:j<=k)(r:MethT P w K mg base cc k n m tb):MethT P w K mg base cc k n m ((c,F)::tb):=λc' F' e=>by
 rw[J9]at e;cases hb:c' ==c with
 |true=>
  simp only[hb]at e;cases e;have:=L6.mp hb;subst this;obtain⟨C,f,fd,ps,a1,a2,a3,a4,a5⟩:=d.ex;exact⟨C,f,fd,ps,a1,a2,a3,a4.up hj,a5⟩
 |false=>simp only[hb]at e;exact r c' F' e
def Cz(m:Str)(n:Nat)(tb:List (Str×(AF)))(fo:FE)(fa:FA):FE:=λ δ=>(fo δ).bind λw=>match w.d with
 | .obj c ns vs=>if ns.contains m then .no else match tb.lookup c with
  |some F=>(fa δ).bind λds=>if ds.length=n then F (.obj c ns vs::ds) else .no
  |none=> .no
 |_=> .no
section
variable{X:Cx}{EX:Az}{e o:Expr}{es:List Expr}{pos zh:Pos}{cc:Bool}{k k' n:Nat}{m:Str}{tb:List (Str×(AF))}{fo:FE}{fa:FA}
def cm_2(X:Cx)(EX:Az)(cc:Bool)(k:Nat)(m:Str)(ta:TE)(t:TA):TE:=λ σ H Q=>ta σ H λx H1=>∃a C dx fs f fd ps sp,x=.ref a/\H1 a=some (.ins C dx fs)/\fs.lookup m=none/\Cls X.K C/\Meth X.K C m f/\
 FnX X.prog X.w X.K X.mg X.base cc k f fd ps sp/\Binds X.K fd ps []/\t σ H1 λvs H2=>sp (.ref a::vs) H2 Q (EXE X.K (EX σ))
def cy_2{pl:Sem Bool}{ta:TE}{t:TA}(he:PE X o ta)(hr:RoomC cc k X.A)(lk:Lk X EX)(ha:PA X (e::es) t)
  (hst:starEach (e::es) X.env=(false,eval e X.env)::starEach es X.env) (hpl:(backTo pos (starEach es X.env)).any (·.1)=false)
  (ht:eval (.Call (.Attribute o m zh) (e::es) [] pos) X.env=(do
   let ov<-eval o X.env
   standAt zh.atName
   let(f,first)<-holding [ov] (getMethod ov m pl)
   callWith pos f first (backTo pos (starEach (e::es) X.env)) (backToKw pos (keywordEach [] X.env)))):
  PE X (.Call (.Attribute o m zh) (e::es) [] pos) (cm_2 X EX cc k m ta t):=by
 intro zd s σ H Q I h;refine Z7 (pl:=pl) (Ax (he zd s σ H _ I h) λu s1 hh=> ?_) ht;obtain⟨x,H1,I1,rx,a,C,dx,fs,f,fd,ps,sp,ex,ea,l,c,hm,F,hb,q⟩:=hh;subst ex;obtain rfl:u=Value.ref a:=rx;refine ap_5 I1 ea c hm l ?_;refine Y2 (first:=[.ref a]) (h₀:=X.base) I.ok.mod.kin hm.kp (Ax (ha pos zd s1 σ H1 _ I1 q) λus s2 ⟨vs,H2,I2,r,q2⟩=>⟨I2.kIn, ?_⟩) hst hpl;exact an_9 (us:=.ref a::us) (vs:=.ref a::vs) F hr hb lk I2 (.cons rfl r) q2
def cm_3{pl:Sem Bool}{ta:TE}(he:PE X o ta)(hr:RoomC cc k X.A)(lk:Lk X EX)
  (ht:eval (.Call (.Attribute o m zh) [] [] pos) X.env=(do
   let ov<-eval o X.env
   standAt zh.atName
   let(f,first)<-holding [ov] (getMethod ov m pl)
   callWith pos f first (backTo pos (starEach [] X.env)) (backToKw pos (keywordEach [] X.env)))):
  PE X (.Call (.Attribute o m zh) [] [] pos) (cm_2 X EX cc k m ta tNil):=by
 intro zd s σ H Q I h;refine Z7 (pl:=pl) (Ax (he zd s σ H _ I h) λu s1 hh=> ?_) ht;obtain⟨x,H1,I1,rx,a,C,dx,fs,f,fd,ps,sp,ex,ea,l,c,hm,F,hb,q⟩:=hh;subst ex;obtain rfl:u=Value.ref a:=rx;refine ap_5 I1 ea c hm l ?_;exact callWith_K0 (first:=[.ref a]) I1.kIn hm.kp (an_9 (us:=[.ref a]) (vs:=[.ref a]) F hr hb lk I1 (.cons rfl .nil) q)
def dl_2{σ:Sg}{Q:VK}(hK:X.K=K)(T:MethT X.prog X.w X.K X.mg X.base cc k n m tb)(q:tD K EX (Cz m n tb fo fa) σ H Q):cm_2 X EX cc k m (tD K EX fo) (tDa K EX fa) σ H Q:=by
 subst hK;obtain⟨G,δ,g0,s0,o⟩:=q;refine tD.seq g0 s0 o λw v G1 H1 _ st r o'=> ?_;revert o' r;cases w.d with
 |obj c ns vs=>
  intro r o';simp only at o'
  split at o'
  ·exact o'.elim
  ·rename_i hn
   split at o'
   ·rename_i F ef;cases r with
    |obj hC hh hl rl=>
     rename_i a0 C0 dx0 us0;obtain⟨C,f,fd,ps,a1,a2,a3,a4,a5⟩:=(T c F ef).ex;have:=a1.same hC;subst this;refine⟨_,_,_,_,f,fd,ps,_,rfl,st.gh _ _ hh,(ao_3 (f:=m) rl hl).2 (by simpa using hn),a2,a3,a4,a5, ?_⟩;refine tDa.seq st.gh (s0.mono st.gg) o' λds us G' H' _ st' r' o2=> ?_
     split at o2
     ·rename_i zk;refine⟨by rw[C6,r'.length,zk],G',.obj c ns vs::ds,st'.gh,.cons (Has.mono st'.gg (.obj hC hh hl rl)) r', ?_⟩;cases q:F (.obj c ns vs::ds) with
      |ok w=>rw[q]at o2;exact o2
      |ex x=>rw[q]at o2;exact EXof.in o2
      |no=>rw[q]at o2;exact o2.elim
     ·exact o2.elim
   ·exact o'.elim
 |_=>intro _ o';exact False.elim o'
def n_2{pl:Sem Bool}(T:MethT X.prog X.w X.K X.mg X.base cc k n m tb)(hr:RoomC cc k' X.A)(lk:Lk X EX)(he:ED X EX o fo)(ha:AD X EX (e::es) fa)(hk:k<=k':=by decide)
  (hst:starEach (e::es) X.env=(false,eval e X.env)::starEach es X.env:=by rfl) (hpl:(backTo pos (starEach es X.env)).any (·.1)=false:=by rfl)
  (ht:eval (.Call (.Attribute o m zh) (e::es) [] pos) X.env=(do
   let ov<-eval o X.env
   standAt zh.atName
   let(f,first)<-holding [ov] (getMethod ov m pl)
   callWith pos f first (backTo pos (starEach (e::es) X.env)) (backToKw pos (keywordEach [] X.env))):=by rfl):ED X EX (.Call (.Attribute o m zh) (e::es) [] pos) (Cz m n tb fo fa):=
 PE.imp (cy_2 he (hr.mono hk) lk ha hst hpl ht) λ_ _ _ q=>dl_2 rfl T q
def ar_5{pl:Sem Bool}(T:MethT X.prog X.w X.K X.mg X.base cc k 0 m tb)(hr:RoomC cc k' X.A)(lk:Lk X EX)(he:ED X EX o fo)(hk:k<=k':=by decide)
  (ht:eval (.Call (.Attribute o m zh) [] [] pos) X.env=(do
   let ov<-eval o X.env
   standAt zh.atName
   let(f,first)<-holding [ov] (getMethod ov m pl)
   callWith pos f first (backTo pos (starEach [] X.env)) (backToKw pos (keywordEach [] X.env))):=by rfl):ED X EX (.Call (.Attribute o m zh) [] [] pos) (Cz m 0 tb fo Ac):=
 PE.imp (cm_3 he (hr.mono hk) lk ht) λ σ H Q ⟨G,δ,g0,s0,q⟩=>tD.seq g0 s0 q λw v G1 H1 _ st r o'=>by
  revert o' r;cases w.d with
  |obj c ns vs=>
   intro r o';simp only at o'
   split at o'
   ·exact o'.elim
   ·rename_i hn
    split at o'
    ·rename_i F ef;cases r with
     |obj hC hh hl rl=>
      obtain⟨C,f,fd,ps,a1,a2,a3,a4,a5⟩:=(T c F ef).ex;have:=a1.same hC;subst this;refine⟨_,_,_,_,f,fd,ps,_,rfl,st.gh _ _ hh,(ao_3 (f:=m) rl hl).2 (by simpa using hn),a2,a3,a4,a5, ?_⟩;have o2:Out X.K (EX σ) G1 H1 (F [.obj c ns vs]) Q:=o';refine⟨rfl,G1,[.obj c ns vs],st.gh,.cons (.obj hC hh hl rl) .nil, ?_⟩;cases q:F [.obj c ns vs] with
      |ok w=>rw[q]at o2;exact o2
      |ex x=>rw[q]at o2;exact EXof.in o2
      |no=>rw[q]at o2;exact o2.elim
    ·exact o'.elim
  |_=>intro _ o';exact False.elim o'
end
def unT:List Tn->Option (List D)
 | []=>some []
 | .sh d::r=>(unT r).map (d:: ·)
 |_=>none
theorem ar_6:∀{ts:List Tn} {ds:List D},unT ts=some ds->ts=ds.map .sh
 | [],_,e=>by cases e;rfl
 |t::r,ds,e=>by
  cases t with
  |sh d=>
   simp only[unT]at e;cases q:unT r with
   |none=>rw[q]at e;cases e
   |some l=>
    rw[q]at e;cases e;rw[ar_6 q];rfl
  |_=>cases e
def bf_0(n:Nat)(c:Str)(ds:List D):SE:=.lt (.obj c [] [])::(ds.map Sl.sh ++ List.replicate (n - (ds.length + 1)) .no)
def az_8(n:Nat)(c:Str)(g:FS)(ds:List D):R (List Str×List D):=match g (bf_0 n c ds) with
 | .nx Δ=>(match Δ[(0:Nat)]? with
  |some (.lt (.obj c' ns ts))=>if c'=c then(match unT ts with
   |some rs=> .ok (ns,rs)
   |none=> .no) else .no
  |_=> .no)
 | .ex x _=> .ex x
 |_=> .no
def spI(K:Frag)(C:Addr)(n:Nat)(F:List D->R (List Str×List D)):Sp:=λvs H Q E=>∃x dx vs0 Hq G ds,vs=.ref x::vs0/\vs0.length=n/\Hq x=none/\Same Hq H/\H x=some (.ins C dx [])/\Same G Hq/\HasL K G vs0 ds/\
 (match F ds with
 | .ok p=>∀G' H' us dx',Step G Hq G' H'->G' x=none->H' x=some (.ins C dx' (p.1.zip us))->p.1.length=us.length->HasL K G' us p.2->Q .non H'
 | .ex e=>(EXof K E).p e G Hq
 | .no=>False)
def ce_4{G H h0:Hp}{v0:V}{vs:List V}{ds:List D}{N:List Str}{b:Nat->Addr}(g:Same G H)(i0:Same h0 H)(r:HasL K G vs ds)(hl:vs.length + 1<=N.length):Ev K ⟨h0,b⟩ G G H (p_7 N (v0::vs)) (.no::(ds.map Sl.sh ++ List.replicate (N.length - (ds.length + 1)) .no)) (λ_ _=>False):=by
 have key:∀(i:Nat) (s:Sl),(Sl.no::(ds.map Sl.sh ++ List.replicate (N.length - (ds.length + 1)) .no))[i]? =some s->(∃j d,i=j + 1/\s=.sh d/\ds[j]? =some d)\/s=.no:=λi s e=>by
  cases i with
  |zero=>exact .inr (by simpa using e.symm)
  |succ i=>
   rw[R1]at e
   by_cases hi:i < ds.length
   ·rw[B7 (by rw[A3];exact hi),B3]at e;obtain⟨d,e1,e2⟩:=N1.mp e;exact .inl ⟨i,d,rfl,e2.symm,e1⟩
   ·rw[D0 (by rw[A3];omega),E8]at e
    split at e
    ·cases e;exact .inr rfl
    ·cases e
 refine⟨⟨i0,g,Same.refl _,λ_ n _=>n⟩, ?_,λi d e=> ?_,λi z d e zo=> ?_,λ_ _ ha=>ha.elim,λ_ _ _ ha=>ha.elim,λi d e=> ?_,λi d e=> ?_⟩
 ·unfold p_7;have:=r.length;simp only[B5,A3,G6,C6]at hl⊢;omega
 ·rcases key i _ e with⟨j,d',rfl,q,q2⟩|q
  ·cases q;obtain⟨v,e1,h⟩:=r.get q2;refine⟨v, ?_,h⟩;unfold p_7;have hi:j < vs.length:=(B2.mp e1).1;rw[B7 (by rw[A3,C6];omega),B3,R1,e1];rfl
  ·cases q
 ·rcases key i _ e with⟨j,d',_,q,_⟩|q <;> (subst q;cases zo)
 ·rcases key i _ e with⟨j,d',_,q,_⟩|q <;> cases q
 ·rcases key i _ e with⟨j,d',_,q,_⟩|q <;> cases q
def fn_I{c:Bool}{P:Program}{w:World}{x qual cn:Str}{st:Stmt}{f C:Addr}{N ps:List Str}{k n:Nat}{g:FS}(F:Fun K x qual st f fd)(S:FnScope N ps (Cc st))(hC:ClsAt K cn C)(hn:ps.length=n + 1)(hle:ps.length<=N.length)
  (zj:∀(zp:Value) (A:Around) (outer:List Env) (s:Shared) (H:Hp) (E:XK),RoomC c k (A.deeper (envOfC qual (Cc st) s.heap.objs.size f zp))->
   BD (Eg c P w K mg base N qual (Cc st) f zp A outer s H E) (λ_=>EXof K E) (Fs st) g):FnX P w K mg base c (k + 1) f fd ps (spI K C n (az_8 N.length cn g)):=by
 refine Fun.okX F S (λvs H Q E h=> ?_) λzp A outer s H vs Q E hr h=>⟨_,zj zp A outer s H E hr, ?_⟩
 ·obtain⟨x,dx,vs0,Hq,G,ds,rfl,hl,_⟩:=h;rw[C6,hl,hn]
 obtain⟨x,dx,vs0,Hq,G,ds,rfl,hl,n1,i0,hx,g0,r,q⟩:=h;have E0:=ce_4 (N:=N) (b:=λ_=>x) (v0:=.ref x) (g0.trans i0) i0 r (by rw[hl];omega);have hs:(p_7 N (.ref x::vs0))[0]? =some (some (.ref x)):=rfl;have E1:=E0.putO (i:=0) (z:=.lt (.obj cn [] [])) (v:=.ref x) (S:=λb=>b=x) (λa ha=>by subst ha;exact⟨n1,g0.free n1,by rw[hx];simp⟩) rfl (λ_ z=>by cases z) (.obj (S1:=λ_=>False) hC (us:=[]) hx rfl rfl (λ_ z=>z.elim) .nil) (λj a ha=>ha.elim) (λ_ _=>rfl);rw[y_0 hs]at E1;refine⟨⟨Hq,λ_=>x⟩,G,G,_,_,E1, ?_⟩;unfold az_8 at q;have e2:(Sl.no::(ds.map Sl.sh ++ List.replicate (N.length - (ds.length + 1)) .no)).set 0 (.lt (.obj cn [] []))=bf_0 N.length cn ds:=rfl;rw[e2];cases e:g (bf_0 N.length cn ds) with
 |nx Δ=>
  rw[e]at q;intro σ G' H' O E' _;simp only at q
  split at q
  ·rename_i p ep
   split at ep
   ·rename_i c2 ns ts e3
    split at ep
    ·rename_i hcc;subst hcc
     split at ep
     ·rename_i rs eu;cases ep;obtain⟨v,s1,t3⟩:=E'.ow _ _ _ e3 rfl;have s2:=E'.lt _ _ e3;rw[s1]at s2;cases s2;cases t3 with
      |obj hc h hl' ha sub rl=>
       rw[ar_6 eu]at rl;have:=hC.same hc;subst this;exact q G' H' _ _ E'.st (E'.out _ _ ha).1 h hl' rl.off
     ·cases ep
    ·cases ep
   ·cases ep
  ·rename_i x2 ep
   split at ep
   ·split at ep
    ·split at ep <;> cases ep
    ·cases ep
   ·cases ep
  ·rename_i ep;exact q.elim
 |ex x Δ=>rw[e]at q;exact λ σ G' H' O E' _=>(EXof K E).mono _ _ _ _ _ E'.st q
 |rt w=>rw[e]at q;exact q.elim
 |rv d Δ=>rw[e]at q;exact q.elim
 |bk Δ=>rw[e]at q;exact q.elim
 |ct Δ=>rw[e]at q;exact q.elim
 |no=>rw[e]at q;exact q.elim
theorem bl_7{f:Str}{y:V}:∀{ns:List Str} {us:List V},ns.length=us.length->ns.contains f=false->v_3 f y (ns.zip us)=(ns ++ [f]).zip (us ++ [y])
 | [],[],_,_=>rfl
 | [],_::_,e,_=>by simp at e
 |_::_,[],e,_=>by simp at e
 |n::ns,u::us,e,h=>by
  rw[O9,Bool.or_eq_false_iff]at h;have hn:¬n=f:=λz=>by rw[z]at h;simp at h
  show v_3 f y ((n,u)::ns.zip us)=(n,u)::(ns ++ [f]).zip (us ++ [y]);unfold v_3;rw[if_neg hn,bl_7 (by simpa using e) h.2]
def y_3(i:Nat)(cs:List Str)(f:Str)(js:List Nat)(fe:FE):FS:=λ Δ=>match(gsome js Δ)[i]? with
 |some (.lt (.obj c ns ts))=>if cs.contains c=true/\ns.contains f=false/\ns.length < 1000 then(match fe (Bf (gsome js Δ)) with
  | .ok w=> .nx ((gsome js Δ).set i (.lt (.obj c (ns ++ [f]) (ts ++ [.sh w.d]))))
  | .ex x=> .ex x (gsome js Δ)
  | .no=> .no) else .no
 |_=> .no
section
variable{X:Cx}{EX:Az}{pos:Pos}
def bf_1{i:Nat}{cs:List Str}{f x:Str}(js:List Nat){e:Expr}{fe:FE}{p1 p2:Pos}(k:OFld X.K cs f)(he:ED X EX e fe)(hN:X.N[i]? =some x:=by rfl)(hv:Vis X.env.scope x:=by trivial)(hd:AG x:=by decide)
  (hcd:(x ==("__classdict__" :Str))=false:=by decide) (hs:swapsWith e (some (.Attribute (.Name x p1) f p2)) pos.line X.env=pure false:=by rfl):SD X EX (.Assign [.Attribute (.Name x p1) f p2] e pos) (y_3 i cs f js fe):=
 PS.imp (di_6 (l_5 hN hv hd hcd) he hs) λD σ H ⟨H0,G0,G,Δ,O,E,q⟩=>by
  obtain⟨G1,O1,sg,E1⟩:=E.gsome js;unfold y_3 at q;generalize gsome js Δ=Δ1 at q E1
  split at q
  ·rename_i c ns ts e1
   split at q
   ·rename_i hc;obtain⟨hc1,hc2,hc3⟩:=hc;refine⟨G1,Bf Δ1,E1.st.gh,E1.gsh, ?_⟩;cases e2:fe (Bf Δ1) with
    |ex y=>simp only[e2]at q;exact q σ G1 H O1 E1 sg
    |no=>simp only[e2]at q;exact q.elim
    |ok w=>
     simp only[e2]at q;refine WP.intro λv G2 H2 st r=> ?_;have E2:=E1.grow st;obtain⟨v0,s1,t⟩:=E2.ow i _ _ e1 rfl;have s2:=E2.lt i _ e1;generalize et:(Tn.obj c ns ts)=t0 at t;cases t with
     | @obj a C dx c2 ns2 us ts2 S S1 hC h hl ha sub rl=>
      injection et with et1 et2 et3
      subst et1 et2 et3;obtain⟨kc,kn⟩:=k _ hc1 _ hC;refine⟨_,s1,_,_,_,_,rfl,h,kc,kn,by rw[List.length_zip,<-hl,Nat.min_self];exact hc3, ?_⟩;rw[bl_7 hl hc2];have ms:=MStep.write (S:=O1 i) E2.st.gh ha (E2.out i _ ha).1 (.ins C dx ((ns ++ [f]).zip (us ++ [v])));refine q σ G2 _ _ (E2.step2 (S:=O1 i) (z:=.lt _) rfl (λ_ z=>by cases z) (λ_ _=>by rw[s1]at s2⊢;exact s2) ms.weak s1 (λb hb=>⟨.inl hb,(E2.out i b hb).1,ms.al b (E2.out i b hb).2.2⟩) ?_) (sg.trans st.gg);refine .obj hC Bp (by rw[B5,B5,hl];rfl) ha sub ?_;refine OwL.append (S2:=λ_=>False) (rl.mono (Same.refl _) (λb o hb z=> ?_) λ_ z=>z) (.cons (S1:=λ_=>False) (S2:=λ_=>False) (.sh r) .nil (λ_ z _=>z) (λ_ z=>z.elim) λ_ z=>z.elim) (λ_ _ z=>z) (λ_ z=>z) λ_ z=>z.elim;rw[Aq (sub b hb).2];exact z
     |_=>cases et
   ·exact q.elim
  ·exact q.elim
end
section
variable{X:Cx}{EX:Az}{e:Expr}{es:List Expr}{x:Str}{pp pos:Pos}{cc:Bool}{k k' n:Nat}{ps:List Str}{C f:Addr}{fd:FuncData}
def ce_5{zd:AE}{σ:Sg}{s:Shared}{Q:VK}{vs:List V}{sp:Sp}(M:Mk X.K C f)(F:FnX X.prog X.w X.K X.mg X.base cc k f fd ps sp)(hr:RoomC cc (k + 1) X.A)(hb:Binds X.K fd ps [])(lk:Lk X EX)(I:Inv X zd σ H s)(r:Vals vs us)
  (h:∀x dx,H x=none->H dx=none->dx≠x->sp (.ref x::vs) (upd (upd H dx (.own x)) x (.ins C dx [])) (λv H2=>v=.non/\Q (.ref x) H2) (EXE X.K (EX σ))):wpAny (model X.prog X.w) X.A (call (.ref C) us) (EP X zd σ Q) X.xe s:=by
 have hq:=h (s.heap.objs.size + 1) s.heap.objs.size (I.hok.fresh (N5 _)) (I.hok.fresh (A8 _)) (B4 (Q7 _));have I2:=Inv.made (C:=C) I;have r2:Vals (V.ref (s.heap.objs.size + 1)::vs) (Value.ref (s.heap.objs.size + 1)::us):=.cons rfl r;have hl:(Value.ref (s.heap.objs.size + 1)::us).length=ps.length:=by
  rw[<-r2.length];exact F.len _ _ _ _ hq
 have hb':=hb _ (Value.ref (s.heap.objs.size + 1)::us) I2.kIn (by rw[D7];exact hl);rw[D7]at hb';refine T9 (ci_0 (f:=f) I.kIn M.makes M.init (L6.mp M.fn) (R7 (F.run _ X.stack _ _ ⟨Value.ref (s.heap.objs.size + 1)::us,[]⟩ (Value.ref (s.heap.objs.size + 1)::us) _ _ _ (hr.make C us []) (I2.env0.make C us []) hb' r2 hq) λr s' hq'=> ?_));cases r with
 |error e=>exact lk zd σ _ _ e s' I2 hq'
 |ok fl=>
  cases fl with
  |ret u=>
   obtain⟨v,H',I3,rv,ev,q3⟩:=I2.after hq';subst ev;exact⟨rv,⟨V.ref (s.heap.objs.size + 1),H',I3,rfl,q3⟩⟩
  |next=>exact False.elim hq'
  |brk=>exact False.elim hq'
  |cont=>exact False.elim hq'
def MakD(P:Program)(w:World)(K:Frag)(mg:AB)(base:Heap)(cc:Bool)(c:Str)(k n:Nat)(F:List D->R (List Str×List D)):Prop:=
 ∃C f fd ps,ClsAt K c C/\mg c=some (.ref C)/\Mk K C f/\FnX P w K mg base cc k f fd ps (spI K C n F)/\Binds K fd ps []
def az_9(c:Str)(n:Nat)(F:List D->R (List Str×List D))(fa:FA):FE:=λ δ=>(fa δ).bind λds=>if ds.length=n then(F ds).bind λp=> .ok (.sh (.obj c p.1 p.2)) else .no
def cy_4{F:List D->R (List Str×List D)}{fa:FA}(hr:RoomC cc k' X.A)(lk:Lk X EX)(h:MakD X.prog X.w X.K X.mg X.base cc x k n F)(ha:AD X EX (e::es) fa)(hk:k + 1<=k':=by decide)(hg:Gl X x:=by rfl)(hdb:AG x:=by decide)
  (he:starEach (e::es) X.env=(false,eval e X.env)::starEach es X.env:=by rfl) (hpl:(backTo pos (starEach es X.env)).any (·.1)=false:=by rfl):ED X EX (.Call (.Name x pp) (e::es) [] pos) (az_9 x n F fa):=by
 obtain⟨C,f,fd,ps,hC,hm,M,ok,hb⟩:=h;intro zd s σ H Q I q;obtain⟨G,δ,g0,s0,o⟩:=q;refine O0 (s_1 I hg hm ?_ hdb);have ta:tDa X.K EX fa σ H λvs H1=>∃G1 ds,Same G1 H1/\HasL X.K G1 vs ds/\ds.length=n/\Out X.K (EX σ) G1 H1 ((F ds).bind λp=> .ok (.sh (.obj x p.1 p.2))) Q:=by
  refine tDa.seq g0 s0 o λds vs G' H' _ st r o'=> ?_
  split at o'
  ·rename_i hl;exact⟨G',ds,st.gh,r,hl,o'⟩
  ·exact o'.elim
 refine Y2 (h₀:=X.base) I.ok.mod.kin M.kp (Ax (ha pos zd s σ H _ I ta) λus s1 ⟨vs,H1,I1,r,G1,ds,sg,rl,hl,o'⟩=>⟨I1.kIn, ?_⟩) he hpl;refine ce_5 M ok (hr.mono hk) hb lk I1 r λy dy ny ndy ne=> ?_;refine⟨y,dy,vs,H1,G1,ds,rfl,by rw[rl.length];exact hl,ny,(λb o e=>by rw[Aq (Co e ny),Aq (Co e ndy)];exact e),Bp,sg,rl, ?_⟩;cases ef:F ds with
 |ok p=>
  rw[ef]at o';intro G' H' us' dx' st gy hy zk rr;refine⟨rfl, ?_⟩;have st2:Step G1 H1 (upd G' y (.ins C dx' (p.1.zip us'))) H':=⟨st.hh,λb u z=>by
   by_cases w:b=y
   ·subst w;rw[Bp]at z;rw[hy];exact z
   ·rw[Aq w]at z;exact st.gh b u z,st.gg.trans (g_8 gy _),λb z1 z2=>by
   have w:b≠y:=λw=>z2 (by rw[w];exact ny);rw[Aq w];exact st.nw b z1 z2⟩
  exact o' _ _ _ st2 (.obj hC Bp zk (rr.mono (g_8 gy _)))
 |ex z=>rw[ef]at o';exact EXof.in o'
 |no=>rw[ef]at o';exact o'
end
section
variable{K:Frag}{G:Hp}{a:Addr}{vs:List V}{ds:List D}
end
section
variable{X:Cx}{EX:Az}{pos:Pos}
end
end L3
namespace L3
open PySem L2 Builtin Builtin.Str
variable{K:Frag}{fd:FuncData}{mg:AB}{us:List Value}{base:Heap}{H:Hp}{X:Cx}{pos:Pos}
def cy_5{x y:Str}(h:x.cps.toList=y.cps.toList):x=y:=by
 obtain⟨a⟩:=x;obtain⟨b⟩:=y;simp only at h;have:a=b:=by
  have:=K5 List.toArray h;simpa using this
 rw[this]
def cy_6(x:Str):x.length=x.cps.toList.length:=by simp[Str.length]
def cy_7(x y:Str):(x ++ y).cps.toList=x.cps.toList ++ y.cps.toList:=by
 show(Str.append x y).cps.toList=_;simp[Str.append]
end L3
namespace L3
open PySem L2
variable{K:Frag}{fd:FuncData}{mg:AB}{us:List Value}{base:Heap}{H:Hp}{X:Cx}{pos:Pos}
def n_3(i j:Int):Ez (.int i) (.int j)=.ok (.sh (.bl (decide (i=j)))):=by
 have h:Ew (.int i) (.int j)=decide (i=j):=by
  show(i ==j)=decide (i=j);rw[Bool.beq_eq_decide_eq]
 show(if eqC (.int i) (.int j)=true then R.ok (W.sh (D.bl (Ew (.int i) (.int j)))) else .no)=_;rw[if_pos (by rfl),h]
def by_1(i j:Int):Dj (.int i) (.int j)=.ok (.sh (.bl (!decide (i=j)))):=by
 have h:Ew (.int i) (.int j)=decide (i=j):=by
  show(i ==j)=decide (i=j);rw[Bool.beq_eq_decide_eq]
 show(if eqC (.int i) (.int j)=true then R.ok (W.sh (D.bl (!Ew (.int i) (.int j)))) else .no)=_;rw[if_pos (by rfl),h]
def v_9{i j:Int}(h1: -18446744073709551616 < i)(h2:i < 18446744073709551616):Fp i j=true:=F5 (.inl ())
def ai_3{i j:Int}(h1: -18446744073709551616 < j)(h2:j < 18446744073709551616):Fp i j=true:=F5 (.inr ())
def l_9{i j:Int}(h:Fp i j=true):Dz (.int i) (.int j)=.ok (.sh (.int (i * j))):=by unfold Dz intD;simp only[h,if_true]
def i_4(i j:Int):Bq (.int i) (.int j)=.ok (.sh (.int (i + j))):=rfl
def ar_7(i j:Int):subD (.int i) (.int j)=.ok (.sh (.int (i - j))):=rfl
def t_1{i j:Int}(h1:0 < j)(h2:j < 1361129467683753853853498429727072845824):Cw (.int i) (.int j)=.ok (.sh (.int (i / j))):=by
 exact if_pos (show divC i j=true from F5 ⟨h1,by omega⟩)
def Fu{i j:Int}(h1:0 < j):Dp (.int i) (.int j)=.ok (.sh (.int (i % j))):=by
 exact if_pos (show modC i j=true from F5 h1)
def ba_0(i j:Int):ltD (.int i) (.int j)=.ok (.sh (.bl (decide (i < j)))):=rfl
def de_7(i j:Int):leD (.int i) (.int j)=.ok (.sh (.bl (decide (i<=j)))):=rfl
def cm_4(i j:Int):gtD (.int i) (.int j)=.ok (.sh (.bl (decide (j < i)))):=rfl
def dl_3{x y:Str}(h:x.length + y.length<=16777216):Bq (.str x) (.str y)=.ok (.sh (.str (x ++ y))):=if_pos h
def dl_4{i j:Int}(h:powC i j=true):powD (.int i) (.int j)=.ok (.sh (.int (i ^ j.toNat))):=by unfold powD intD;simp only[h,if_true]
def cm_5{i j:Int}(h1:0<=j)(h2:j<=1000000)(h3: -18446744073709551616 < i)(h4:i < 18446744073709551616):powC i j=true:=F5 ⟨h1,by omega,by omega⟩
def Ff(ds:List D):Cs [.lst ds]=.ok (.sh (.int ds.length)):=rfl
def cm_6{x:Str}(h:x.length<=16777216):Cs [.str x]=.ok (.sh (.int x.length)):=if_pos h
def bf_2(i j:Int):El [.int i,.int j]=.ok (.sh (.int (max i j))):=by
 show R.ok (W.sh (D.int (if j > i then j else i)))=_;rw[show(if j > i then j else i)=max i j by rw[Int.max_def];split <;> split <;> omega]
def bt_1(i j:Int):minD [.int i,.int j]=.ok (.sh (.int (min i j))):=by
 show R.ok (W.sh (D.int (if j < i then j else i)))=_;rw[show(if j < i then j else i)=min i j by rw[Int.min_def];split <;> split <;> omega]
def n_4{ds:List D}{i:Int}{d:D}(h:atI ds i=some d):Ct (.lst ds) (.int i)=.ok (.sh d):=by unfold Ct;simp only[h]
def cy_8{x:Str}{i:Int}{c:Nat}(hz:x.length<=16777216)(h:atI x.cps.toList i=some c):Ct (.str x) (.int i)=.ok (.sh (.str ⟨#[c]⟩)):=by
 unfold Ct;simp only[h,if_pos hz]
def cm_7{α:Type}{xs:List α}{i:Int}{x:α}(h0:0<=i)(h:xs[i.toNat]? =some x):atI xs i=some x:=by
 have hl:i.toNat < xs.length:=(B2.mp h).1;unfold atI ixN;rw[if_pos h0,if_pos ()];exact h
def ce_6(fg:FG)(g:FS)(I:Nat->SE->Prop){n:Nat}{lo:Int}{Δ:SE}(h0:I 0 Δ)
  (step:∀k Δ,k < n->I k Δ->∃Δ1,fg (.int (lo + (k:Int))) Δ=.ok Δ1/\∃Δ2,(g Δ1=.nx Δ2\/g Δ1=.ct Δ2)/\I (k + 1) Δ2):∃Δ',Bx fg g (Cf lo n) Δ=.nx Δ'/\I n Δ':=by
 have all:∀(m k:Nat) (Δ:SE),k + m=n->I k Δ->∃Δ',Bx fg g ((List.range' k m).map λ(j:Nat)=>D.int (lo + (j:Int))) Δ=.nx Δ'/\I n Δ':=by
  intro m
  induction m with
  |zero=>intro k Δ e h;exact⟨Δ,rfl,by rw[<-e];exact h⟩
  |succ m ih=>
   intro k Δ e h;obtain⟨Δ1,e1,Δ2,e2,h2⟩:=step k Δ () h;obtain⟨Δ',e3,h3⟩:=ih (k + 1) Δ2 () h2;refine⟨Δ', ?_,h3⟩;rw[List.range'_succ,B1];show(match fg (.int (lo + (k:Int))) Δ with
    | .ok Δ1=>(match g Δ1 with
     | .nx Δ2=>Bx fg g _ Δ2
     | .ct Δ2=>Bx fg g _ Δ2
     | .bk Δ2=> .nx Δ2
     |r=>r)
    | .ex _=> .no
    | .no=> .no)=_
   rw[e1];rcases e2 with e2|e2
   ·simp only[e2];exact e3
   ·simp only[e2];exact e3
 obtain⟨Δ',e,h⟩:=all n 0 Δ () h0;refine⟨Δ', ?_,h⟩;unfold Cf;rw[List.range_eq_range'];exact e
def o_2(fg:FG)(g:FS)(I:Nat->SE->Prop){ds:List D}{Δ:SE}(h0:I 0 Δ)
  (step:∀k d Δ,ds[k]? =some d->I k Δ->∃Δ1,fg d Δ=.ok Δ1/\∃Δ2,(g Δ1=.nx Δ2\/g Δ1=.ct Δ2)/\I (k + 1) Δ2):∃Δ',Bx fg g ds Δ=.nx Δ'/\I ds.length Δ':=by
 have all:∀(m k:Nat) (Δ:SE),k + m=ds.length->I k Δ->∃Δ',Bx fg g (ds.drop k) Δ=.nx Δ'/\I ds.length Δ':=by
  intro m
  induction m with
  |zero=>
   intro k Δ e h;rw[U6 ()];exact⟨Δ,rfl,by rw[<-e];exact h⟩
  |succ m ih=>
   intro k Δ e h;obtain⟨d,d1,d2⟩:=ae_8 (l:=ds) (i:=k) ();obtain⟨Δ1,e1,Δ2,e2,h2⟩:=step k d Δ d1 h;obtain⟨Δ',e3,h3⟩:=ih (k + 1) Δ2 () h2;refine⟨Δ', ?_,h3⟩;rw[d2];show(match fg d Δ with
    | .ok Δ1=>(match g Δ1 with
     | .nx Δ2=>Bx fg g (ds.drop (k + 1)) Δ2
     | .ct Δ2=>Bx fg g (ds.drop (k + 1)) Δ2
     | .bk Δ2=> .nx Δ2
     |r=>r)
    | .ex _=> .no
    | .no=> .no)=_
   rw[e1];rcases e2 with e2|e2
   ·simp only[e2];exact e3
   ·simp only[e2];exact e3
 have:=all ds.length 0 Δ () h0
 rwa[List.drop_zero]at this
def s_5{j:Int}(h1: -4611686018427387903<=j)(h2:j < 4611686018427387904):Dl [.int j]=.ok (Cf 0 j.toNat):=by
 have h:j.natAbs < 4611686018427387904:=by omega
 exact if_pos h
def i_5{m:Nat}{fi:FI}{fg:Et}{p:FT}{f:FE}{δ:DE}{ds rs:List D}(h:fi δ=.ok ds)(hl:ds.length<=16777216)(hc:n_1 fg p f (δ ++ List.replicate m none) ds=.ok rs):Bu m fi fg p f δ=.ok (.ow (.lst rs)):=by
 unfold Bu;rw[h];simp only[R.bind_ok];rw[if_pos hl,hc];rfl
def de_8{fg:Et}{p:FT}{f:FE}{δ:DE}:∀(n:Nat) (lo:Int),(∀k:Nat,k < n->∃δ1 z,fg (.int (lo + (k:Int))) δ=.ok δ1/\p δ1=.ok true/\f δ1=.ok (.sh (.int z)))->
  ∃cs:List Int,cs.length=n/\n_1 fg p f δ (Cf lo n)=.ok (cs.map D.int):=by
 have all:∀(es:List Nat) (lo:Int),(∀k∈es,∃δ1 z,fg (.int (lo + ((k:Nat):Int))) δ=.ok δ1/\p δ1=.ok true/\f δ1=.ok (.sh (.int z)))->
   ∃cs:List Int,cs.length=es.length/\n_1 fg p f δ (es.map λ(k:Nat)=>D.int (lo + (k:Int)))=.ok (cs.map D.int):=by
  intro es lo
  induction es with
  |nil=>intro _;exact⟨[],rfl,rfl⟩
  |cons k es ih=>
   intro h;obtain⟨δ1,z,e1,e2,e3⟩:=h k K2;obtain⟨cs,l5,e5⟩:=ih λj hj=>h j (D3 _ hj);refine⟨z::cs,by simp[l5], ?_⟩;rw[B1,B1];show((fg (.int (lo + (k:Int))) δ).bind λ δ1=>(p δ1).bind λb=>if b=true then(f δ1).bind λw=>(n_1 fg p f δ _).bind λrs=> .ok (w.d::rs) else n_1 fg p f δ _)=_;rw[e1];simp only[R.bind_ok,e2,if_true,e3];rw[e5];rfl
 intro n lo h;obtain⟨cs,l,e⟩:=all (List.range n) lo λk hk=>h k (K0.mp hk);exact⟨cs,by rw[l,K1],e⟩
def cm_8{js:List Nat}{p:FT}{g:FS}{n:Nat}{Δ Δ':SE}(h1:p (Au Δ)=.ok true)(h2:g Δ=.nx Δ'):k_3 js p g (n + 1) Δ=k_3 js p g n Δ':=by
 show(match p (Au Δ) with
  | .ok b=>if b=true then(match g Δ with
    | .nx Δ'=>k_3 js p g n Δ'
    | .ct Δ'=>k_3 js p g n Δ'
    | .bk Δ'=> .nx Δ'
    |r=>r) else .nx Δ
  | .ex _=>exT js p Δ
  | .no=> .no)=_
 rw[h1];simp only[if_true,h2]
def ba_1{js:List Nat}{p:FT}{g:FS}{n:Nat}{Δ:SE}(h1:p (Au Δ)=.ok false):k_3 js p g (n + 1) Δ=.nx Δ:=by
 show(match p (Au Δ) with
  | .ok b=>if b=true then(match g Δ with
    | .nx Δ'=>k_3 js p g n Δ'
    | .ct Δ'=>k_3 js p g n Δ'
    | .bk Δ'=> .nx Δ'
    |r=>r) else .nx Δ
  | .ex _=>exT js p Δ
  | .no=> .no)=_
 rw[h1];simp only[D8,L9]
def cm_9(d:D):Sl.pub (.sh d)=some d:=rfl
def dl_5(d:D):Sl.pub (.ow d)=none:=rfl
def dl_6:Sl.pub .no=none:=rfl
def dl_7(d:D):Sl.any (.sh d)=some d:=rfl
def dl_8(d:D):Sl.any (.ow d)=some d:=rfl
def dl_9:Sl.any .no=none:=rfl
def cy_9(d:D):Sl.give (.sh d)=.sh d:=rfl
def cz_0(d:D):Sl.give (.ow d)=.sh d:=rfl
def cz_1:Sl.give .no=.no:=rfl
def Bl{g h:FS}{Δ Δ':SE}(e:g Δ=.nx Δ'):Af g h Δ=h Δ':=by unfold Af;rw[e]
def q_4{n:Nat}{g:FS}{ds:List D}{w:W}(e:g (Av n ds)=.rt w):Al n g ds=.ok w:=by unfold Al;rw[e]
theorem u_6{fg:Et}{p:FT}{f:FE}{δ:DE}(P:D->Bool)(F:D->D):∀(ds:List D),(∀d∈ds,∃δ1,fg d δ=.ok δ1/\p δ1=.ok (P d)/\(P d=true->∃w,f δ1=.ok w/\w.d=F d))->
  n_1 fg p f δ ds=.ok ((ds.filter P).map F)
 | [],_=>rfl
 |d::ds,h=>by
  obtain⟨δ1,e1,e2,e3⟩:=h d K2;have ih:=u_6 P F ds λx hx=>h x (D3 _ hx);show((fg d δ).bind λ δ1=>(p δ1).bind λb=>if b=true then(f δ1).bind λw=>(n_1 fg p f δ ds).bind λrs=> .ok (w.d::rs) else n_1 fg p f δ ds)=_;rw[e1];simp only[R.bind_ok,e2];cases hP:P d with
  |true=>
   obtain⟨w,e4,e5⟩:=e3 hP;rw[if_pos rfl,e4,ih];simp only[R.bind_ok,e5,List.filter_cons_of_pos hP,B1]
  |false=>
   rw[if_neg A7,ih,List.filter_cons_of_neg (by rw[hP];exact A7)]
def r_3{fg:Et}{f:FE}{δ:DE}(F:D->D)(ds:List D)(h:∀d∈ds,∃δ1 w,fg d δ=.ok δ1/\f δ1=.ok w/\w.d=F d):
  n_1 fg (λ_=> .ok true) f δ ds=.ok (ds.map F):=by
 have:=u_6 (fg:=fg) (p:=λ_=> .ok true) (f:=f) (δ:=δ) (λ_=>true) F ds λd hd=>by
  obtain⟨δ1,w,e1,e2,e3⟩:=h d hd;exact⟨δ1,e1,rfl,λ_=>⟨w,e2,e3⟩⟩
 rw[this,List.filter_eq_self.mpr λ_ _=>rfl]
def bl_8:Cr "int" .non=some false:=rfl
def bt_2(b:Bool):Cr "int" (.bl b)=some true:=rfl
def bl_9(i:Int):Cr "int" (.int i)=some true:=rfl
def bm_0(x:Str):Cr "int" (.str x)=some false:=rfl
def bm_1(l:List D):Cr "int" (.lst l)=some false:=rfl
def bm_2(l:List D):Cr "int" (.tup l)=some false:=rfl
def bf_3:Cr "bool" .non=some false:=rfl
def bm_3(b:Bool):Cr "bool" (.bl b)=some true:=rfl
def bf_4(i:Int):Cr "bool" (.int i)=some false:=rfl
def bf_5(x:Str):Cr "bool" (.str x)=some false:=rfl
def bf_6(l:List D):Cr "bool" (.lst l)=some false:=rfl
def bf_7(l:List D):Cr "bool" (.tup l)=some false:=rfl
def bm_4:Cr "str" .non=some false:=rfl
def bt_3(b:Bool):Cr "str" (.bl b)=some false:=rfl
def bm_5(i:Int):Cr "str" (.int i)=some false:=rfl
def bm_6(x:Str):Cr "str" (.str x)=some true:=rfl
def bm_7(l:List D):Cr "str" (.lst l)=some false:=rfl
def bm_8(l:List D):Cr "str" (.tup l)=some false:=rfl
def bf_8:Cr "list" .non=some false:=rfl
def bm_9(b:Bool):Cr "list" (.bl b)=some false:=rfl
def bf_9(i:Int):Cr "list" (.int i)=some false:=rfl
def bg_0(x:Str):Cr "list" (.str x)=some false:=rfl
def bg_1(l:List D):Cr "list" (.lst l)=some true:=rfl
def bg_2(l:List D):Cr "list" (.tup l)=some false:=rfl
def av_8:Cr "tuple" .non=some false:=rfl
def bg_3(b:Bool):Cr "tuple" (.bl b)=some false:=rfl
def av_9(i:Int):Cr "tuple" (.int i)=some false:=rfl
def aw_0(x:Str):Cr "tuple" (.str x)=some false:=rfl
def aw_1(l:List D):Cr "tuple" (.lst l)=some false:=rfl
def aw_2(l:List D):Cr "tuple" (.tup l)=some true:=rfl
end L3
namespace L3
open PySem PySem.Spec PyProof.Rows L2
variable{K:Frag}{fd:FuncData}{mg:AB}{us:List Value}{base:Heap}{H:Hp}{X:Cx}{pos:Pos}
def bg_4:List Value->Bool
 | .ref _::r=>bg_4 r
 |l=>l == [.type "ValueError",.type "Exception",.type "BaseException",.type "object"]
theorem ac_0(self:Value):∀{l:List Value},bg_4 l=true->refuseLoop self "__setattr__" l=pure .unit
 | [],e=>by cases e
 | .ref c::r,e=>by rw[refuseLoop_ref];exact ac_0 self e
 | .type n::r,e=>by
  have e':(Value.type n::r)= [.type "ValueError",.type "Exception",.type "BaseException",.type "object"]:=eq_of_beq e;rw[e'];exact PySem.F.store_ValueError.passes self
 | .none::r,e=>by cases(eq_of_beq (show((Value.none::r) == [.type "ValueError",.type "Exception",.type "BaseException",.type "object"])=true from e))
 | .bool b::r,e=>by cases(eq_of_beq (show((Value.bool b::r) == [.type "ValueError",.type "Exception",.type "BaseException",.type "object"])=true from e))
 | .int b t::r,e=>by cases(eq_of_beq (show((Value.int b t::r) == [.type "ValueError",.type "Exception",.type "BaseException",.type "object"])=true from e))
 | .str b t::r,e=>by cases(eq_of_beq (show((Value.str b t::r) == [.type "ValueError",.type "Exception",.type "BaseException",.type "object"])=true from e))
 | .builtin b::r,e=>by cases(eq_of_beq (show((Value.builtin b::r) == [.type "ValueError",.type "Exception",.type "BaseException",.type "object"])=true from e))
theorem ar_8:∀{l:List Value},bg_4 l=true->l.contains (.type "object")=true/\l.isEmpty=false
 | [],e=>by cases e
 | .ref c::r,e=>⟨by rw[O9,(ar_8 (l:=r) e).1,ZD8],rfl⟩
 | .type n::r,e=>by
  have e':(Value.type n::r)= [.type "ValueError",.type "Exception",.type "BaseException",.type "object"]:=eq_of_beq e;rw[e'];exact⟨by decide,rfl⟩
 | .none::r,e=>by cases(eq_of_beq (show((Value.none::r) == [.type "ValueError",.type "Exception",.type "BaseException",.type "object"])=true from e))
 | .bool b::r,e=>by cases(eq_of_beq (show((Value.bool b::r) == [.type "ValueError",.type "Exception",.type "BaseException",.type "object"])=true from e))
 | .int b t::r,e=>by cases(eq_of_beq (show((Value.int b t::r) == [.type "ValueError",.type "Exception",.type "BaseException",.type "object"])=true from e))
 | .str b t::r,e=>by cases(eq_of_beq (show((Value.str b t::r) == [.type "ValueError",.type "Exception",.type "BaseException",.type "object"])=true from e))
 | .builtin b::r,e=>by cases(eq_of_beq (show((Value.builtin b::r) == [.type "ValueError",.type "Exception",.type "BaseException",.type "object"])=true from e))
structure XCls(K:Frag)(C:Addr):Prop where
 sa:findIn K (.ref C) "__setattr__" =some (some (.builtin "object.__setattr__"))
 over:(clsIn K C).any (λcd=>bg_4 cd.mro && cd.hasDict)=true
section
variable{prog:Program}{w:World}{A:Around}{E:AA}{s:Shared}{K:Frag}{x C:Addr}{R:Result->Shared->Prop}
def cz_2{ox:Obj}{od:Option Obj}{name:Str}{tk:Tok}{v:Value}(X:K.In s.heap)(I:InstAt s.heap x ox C od)(xc:XCls K C)(ha:findIn K (.ref C) name=some none)
  (h:wpAny (model prog w) A.in1 (Builtin.ObjectAttr.storeInOwnDict (.ref x) (.ref C) (.str name tk) name v false)
   (λfin s'=>match fin with| .done f=>R (.ok f) s'| .again c'=>c'.quiet=true/\codeAny (model prog w) A c' R s') (λe s'=>R (.error e) s') s):
  codeAny (model prog w) A (.call (.builtin "object.__setattr__") ⟨[.ref x,.str name tk,v],[]⟩) R s:=by
 have SF:=PySem.F.store_object;obtain⟨cd,hc,ho⟩:=any_some xc.over;rw[C9]at ho;obtain⟨hs1,hs2⟩:=ar_8 ho.1;have sub:Looks (model prog w) s.heap (isInstance (.ref x) (.type "object")) true:=I.type.andThen (looks_mroIn X (by unfold mroIn;rw[hc,Option.bind_some,if_neg (by rw[hs2];decide),hs1]));refine X1 SF.slot.plain SF.entry (@check_slot (model prog w) _ _ s "object.__setattr__" "object" "__setattr__" (.ref x) [.str name tk,v] [] _ SF.kind SF.split sub (SF.args (.ref x) (.str name tk) v) ?_);have hm:Looks (model prog w) s.heap (mroOf (.ref C)) cd.mro:=(ZD1 X hc).andThen .now;rw[osa_eq,refuse_eq];refine A4 (A4 (I.type.here (A4 (hm.here ?_))));rw[ac_0 _ ho.1];refine C5 (A4 (I.type.here (A4 ((X9 X ha).here (A4 (C5 (a:=(none:Option Value)) ?_))))));exact h
def ce_7{D:Addr}{name:Str}{tk:Tok}{v:Value}{Q:PySem.Fin->Shared->Prop}(hD:s.heap.get? D=some {cls:=.type "dict",data:=.dict #[]})
  (h:∀h' tk,h'.Ns1 D (λy=>if y=name then some v else none)->Heap.SameBut D s.heap h'->Q (.done (.ret .none)) {s with heap:=h',toks:=tk}):wpAny (model prog w) A (Builtin.ObjectAttr.storeInDict D (.str name tk) name v) Q E s:=by
 have dg:s.heap.Ns D λ_=>none:=⟨_, #[],_,hD,rfl,λ_ he=>(Array.not_mem_empty _ he).elim,λ_=>rfl⟩;unfold Builtin.ObjectAttr.storeInDict Builtin.ObjectAttr.newKeyGuard
 wp_walk using wpAny_nsSet1 (Heap.Ns1.of_empty dg)
 intro h' n sb;obtain⟨o,es,ep,at1,is1,few⟩:=n.count (.cons name v .nil);have le:es.size<=sizeLine + 1:=C7 few (by simp[D2]);exact A4 (wpAny_lookBehind at1 (is1▸pastItsLine_dict le) (C5 (h h' _ n sb)))
def bn_0{name:Str}{v:Value}{us:Array Value}{Q:Unit->Shared->Prop}(X:K.In s.heap)(hx:s.heap.get? x=some ⟨.ref C,none,.fields us, #[]⟩)(xc:XCls K C)(ha:findIn K (.ref C) name=some none)
  (h:∀h' tk,h'.get? x=some ⟨.ref C,some s.heap.objs.size,.fields us, #[]⟩->h'.Ns1 s.heap.objs.size (λy=>if y=name then some v else none)->(∀b o,b≠x->s.heap.get? b=some o->h'.get? b=some o)->Q .unit {s with heap:=h',toks:=tk}):
  wpAny (model prog w) A (setAttr (.ref x) name v) Q E s:=by
 have I:InstAt s.heap x ⟨.ref C,none,.fields us, #[]⟩ C none:=⟨hx,rfl,rfl,True.intro⟩;refine set_plain X I xc.sa (cz_2 (s:={s with toks:=s.toks + 1}) X I xc ha ?_);obtain⟨cd,hc,hd'⟩:=any_some xc.over;rw[C9]at hd';refine A4 (C5 (A4 (A4 (wpAny_loadPart (s:={s with toks:=s.toks + 1}) hx (A4 (ZD5 (s:={s with toks:=s.toks + 1}) (ZD1 X hc) ?_))))));rw[hd'.2]
 
 have Dj:x≠s.heap.objs.size:=B4 (A6 hx);have old:∀b o,b≠x->s.heap.get? b=some o->((s.heap.push {cls:=.type "dict",data:=.dict #[]}).update x λo=>{o with dict:=some s.heap.objs.size}).get? b=some o:=λb o hb e=>by
  rw[Heap.get?_update_ne _ _ _ _ hb];exact A5 _ e
 have itself:=N7 (λo:Obj=>{o with dict:=some s.heap.objs.size}) (A5 {cls:=.type "dict",data:=.dict #[]} hx) rfl;have isD:((s.heap.push {cls:=.type "dict",data:=.dict #[]}).update x λo=>{o with dict:=some s.heap.objs.size}).get? s.heap.objs.size=some {cls:=.type "dict",data:=.dict #[]}:=by
  rw[Heap.get?_update_ne _ _ _ _ (Ne.symm Dj)];exact B8 _ rfl
 refine A4 (wpAny_alloc' (A4 (wpAny_update' (A5 _ hx) (C5 (ce_7 isD λh' tk n sb=>h h' tk ?_ n λb o hb e=> ?_)))))
 ·rw[sb.2 x Dj];exact itself
 ·rw[sb.2 b (B4 (A6 e))];exact old b o hb e
end
def XE(a:Addr)(o:Obj):HO:=.ext λh=>h.get? a=some o
def XE.ok{P:Program}{w:World}{h:Heap}{a:Addr}{o:Obj}(e:h.get? a=some o):ObjOk P w H h a (XE a o):=⟨e,⟨o,e⟩,λ_ _ p k=>k _ p⟩
theorem XE.get{P:Program}{w:World}{h:Heap}{a:Addr}{o:Obj}(x:HOk P w H h)(e:H a=some (XE a o)):h.get? a=some o:=(x a _ e).1
def XO.ok{P:Program}{w:World}{h:Heap}{a C:Addr}{dx:Option Addr}{us:Array Value}{sl:Array (Option Value)}(e:h.get? a=some ⟨.ref C,dx,.fields us,sl⟩)(c2:us[2]? =some .none):ObjOk P w H h a (XO a C dx):=
 ⟨⟨us,sl,e,c2⟩,⟨_,e⟩,λ_ _ ⟨us,sl,p,c⟩ k=>⟨us,sl,k _ p,c⟩⟩
section
variable{X:Cx}{zd:AE}{σ:Sg}{H:Hp}{s:Shared}
def Inv.excSet{a:Addr}{o0 o1:Obj}{h':Heap}{t':Nat}{fs:List (Str×V)}{mA:AB}(I:Inv X zd σ H s)(e:H a=some (XE a o0))(hx:h'.get? a=some o1)(hn:h'.Ns1 s.heap.objs.size mA)(hr:∀f,RelO (fs.lookup f) (mA f))
  (k:∀b o,b≠a->s.heap.get? b=some o->h'.get? b=some o):Inv X zd σ (upd (upd H s.heap.objs.size (.xd fs)) a (XE a o1)) {s with heap:=h',toks:=t'}:=by
 have hf:H s.heap.objs.size=none:=I.hok.fresh (A8 _);have other:∀b u,H b=some u->b≠a->(upd (upd H s.heap.objs.size (.xd fs)) a (XE a o1)) b=some u:=λb u q n=>by
  rw[Aq n,Aq (Co q hf)];exact q
 refine I.un (h':=h') ⟨λb o q n _ _=>k b o (λz=>by subst z;rw[e]at n;cases n) q,λb o q n _ _=>⟨o.slots,k b o (λz=>by subst z;rw[e]at n;cases n) q⟩,λb o q n _=> ?_,λb o q _=> ?_,λb xs q=> ?_,λb o u q=> ?_,λb ps q=> ?_⟩ λb u q=> ?_
 ·rw[Aq (λz=>by subst z;rw[e]at n;cases n),Aq (B4 (A6 q))];exact n
 ·by_cases z:b=a
  ·subst z;exact⟨_,hx⟩
  ·exact⟨_,k b o z q⟩
 ·exact other b _ q λz=>by subst z;rw[e]at q;cases q
 ·exact other b _ q λz=>by subst z;rw[e]at q;cases q
 ·exact⟨#[],by rw[other b _ q λz=>by subst z;rw[e]at q;cases q];simp⟩
 ·by_cases z:b=a
  ·subst z;rw[Bp]at q;cases q;exact XE.ok hx
  ·rw[Aq z]at q
   by_cases z2:b=s.heap.objs.size
   ·subst z2;rw[Bp]at q;cases q;exact⟨mA,hn,hr⟩
   ·rw[Aq z2]at q;refine(I.hok b u q).stay (λc v hc z3=>k c v ?_ z3) (λc z3=>other c _ z3 λz4=> ?_) (λc xs z3=>other c _ z3 λz4=> ?_) λc o z3=>other c _ z3 λz4=> ?_
    ·rcases hc with rfl|hc
     ·exact z
     ·exact λz4=>by subst z4;rw[e]at hc;cases hc
    ·subst z4;rw[e]at z3;cases z3
    ·subst z4;rw[e]at z3;cases z3
    ·subst z4;rw[e]at z3;cases z3
def Inv.forget{a:Addr}{φ:Heap->Prop}(I:Inv X zd σ (upd H a (.ext φ)) s)(hn:H a=none):Inv X zd σ H s:=by
 have sub:∀b u,H b=some u->upd H a (.ext φ) b=some u:=λb u e=>by rw[Aq (Co e hn)];exact e
 have nf:∀b,upd H a (.ext φ) b=none->H b=none:=λb e=>by
  by_cases z:b=a
  ·subst z;exact hn
  ·rw[Aq z]at e;exact e
 have bk:∀b u,upd H a (.ext φ) b=some u->(∀ψ,u≠ .ext ψ)->H b=some u:=λb u e n=>by
  by_cases z:b=a
  ·subst z;rw[Bp]at e;cases e;exact absurd rfl (n φ)
  ·rw[Aq z]at e;exact e
 have B:=I.base;refine⟨I.ok,I.os,I.bare,⟨B.keep,B.slot,λb u q n x=>nf b (B.free b u q n x),B.there,λb xs q=>bk _ _ (B.tups b xs q) (λ_ z=>nomatch z),λb u v q=>bk _ _ (B.frzs b u v q) (λ_ z=>nomatch z),λb ps q=> ?_⟩,I.loc,I.cell,nf _ I.free,λx c e=>nf _ (I.freeC x c e),λp hp=> ?_,λb u e=> ?_,I.len⟩
 ·obtain⟨more,z⟩:=B.tbls b ps q;exact⟨more,bk _ _ z (λ_ z=>nomatch z)⟩
 ·obtain⟨p1,p2,p3⟩:=I.pin p hp;exact⟨p1,nf _ p2,p3⟩
 ·exact(I.hok b u (sub b u e)).stay (λ_ _ _ q=>q) (λc q=>bk _ _ q (λ_ z=>nomatch z)) (λc xs q=>bk _ _ q (λ_ z=>nomatch z)) λc o q=>bk _ _ q (λ_ z=>nomatch z)
end
def ad_4(C:Addr)(f:Str):Sp:=λvs H Q _=>∃a v us,vs= [.ref a,v]/\H a=some (XE a ⟨.ref C,none,.fields us, #[]⟩)/\∀d,H d=none->d≠a->Q .non (upd (upd H d (.xd [(f,v)])) a (XE a ⟨.ref C,some d,.fields us, #[]⟩))
section
variable{X:Cx}{C:Addr}{f:Str}{pos pos' p1 p2:Pos}{x y:Str}
def de_9(C:Addr)(f:Str):TS:=λD σ H=>∃a v us,σ[0]? =some (some (.ref a))/\σ[1]? =some (some v)/\H a=some (XE a ⟨.ref C,none,.fields us, #[]⟩)/\∀d,H d=none->d≠a->D.nx σ (upd (upd H d (.xd [(f,v)])) a (XE a ⟨.ref C,some d,.fields us, #[]⟩))
def bg_5(xc:XCls X.K C)(hn:findIn X.K (.ref C) f=some none)(ho:PE X (.Name x p1) (tVar 0))(hv:PE X (.Name y p2) (tVar 1))(hs:swapsWith (.Name y p2) (some (.Attribute (.Name x p1) f pos')) pos.line X.env=pure false:=by rfl):
  PS X (.Assign [.Attribute (.Name x p1) f pos'] (.Name y p2) pos) (de_9 C f):=by
 intro zd s σ H D I h;obtain⟨a,v,us,e0,e1,ha,q⟩:=h;refine V5 (Ax (hv zd s σ H (λy H1=>y=v/\H1=H) I ⟨v,e1,rfl,rfl⟩) λu s1 ⟨y,H1,I1,ry,ey,eH⟩=>Ax (ho zd s1 σ H1 (λy H2=>y=.ref a/\H2=H) I1 ⟨.ref a,e0,rfl,eH⟩) λov s2 ⟨x,H2,I2,rx,ex,eH2⟩=> ?_) hs;subst ey ex eH eH2;obtain rfl:ov=Value.ref a:=rx;refine bn_0 I2.kIn (XE.get I2.hok ha) xc hn λh' tk g1 g2 g3=> ?_;refine⟨σ,_,Inv.excSet I2 (t':=tk) (fs:=[(f,y)]) ha g1 g2 (λg=> ?_) g3,q _ (I2.hok.fresh (A8 _)) ?_⟩
 ·show RelO ([(f,y)].lookup g) (if g=f then some u else none)
  by_cases z:g=f
  ·subst z;rw[if_pos rfl];simp only[J9,O7];exact ry
  ·rw[if_neg z];have zb:(g ==f)=false:=by simpa using z
   simp only[J9,zb,List.lookup_nil]
   trivial
 ·exact R6 (A6 (XE.get I2.hok ha))
end
abbrev bmVE:List Value:=[.type "ValueError",.type "Exception",.type "BaseException",.type "object"]
def k_5(es:Array DictEntry):Bool:=es.toList.all λe=>match e.key with| .str _ _=>true|_=>false
def bt_4{es:Array DictEntry}(h:k_5 es=true):StrKeys es:=λe he=>by
 have q:=F2.mp h e (Array.mem_toList_iff.mpr he);revert q;cases hk:e.key with
 |str n t=>intro _;exact⟨n,t,rfl⟩
 |_=>intro q;cases q
def by_2{N:Addr}{oc:Value}{od:Option Addr}{es:Array DictEntry}{ep:Nat}{sl:Array (Option Value)}(l:K.lookup N=some ⟨oc,od,.dict es ep,sl⟩)(k:k_5 es=true){h:Heap}(X:K.In h):h.Ns N (nsFind es):=
 ⟨_,es,ep,X _ _ l,rfl,bt_4 k,λ_=>rfl⟩
def XMk(K:Frag)(C fI:Addr):Prop:=∃(nm q:Str) (N:Addr) (bs bm:List Value) (sn:List Str) (sub:List Value) (ab:Bool) (col:Option Bool) (dd:Option Addr) (k0 k1 k2 k3 k5:Option Value) (mN:AB),
 K.lookup C=some (excClassObj nm q C N bs bm true sn sub ab col dd k0 k1 k2 k3 k5 "ValueError.__new__")/\(∀h:Heap,K.In h->OwnTail h bmVE bm)/\(∀h:Heap,K.In h->h.Ns N mN)/\mN "__init__" =some (.ref fI)
def dm_0{C fI N L:Addr}{nm q:Str}{bs:List Value}{sn:List Str}{sub:List Value}{ab:Bool}{col:Option Bool}{dd:Option Addr}{k0 k1 k2 k3 k5:Option Value}{oc c0 oL:Value}{od ddL odL:Option Addr}{es esL:Array DictEntry}{ep epL:Nat}{sl sl0 slL:Array (Option Value)}{cd:ClassData}
  (lc:K.lookup C=some (excClassObj nm q C N bs (.ref L::bmVE) true sn sub ab col dd k0 k1 k2 k3 k5 "ValueError.__new__")) (ln:K.lookup N=some ⟨oc,od,.dict es ep,sl⟩) (kn:k_5 es=true) (hi:nsFind es "__init__" =some (.ref fI))
  (ll:K.lookup L=some ⟨c0,ddL,.cls cd,sl0⟩) (lm:K.lookup cd.ns=some ⟨oL,odL,.dict esL epL,slL⟩) (km:k_5 esL=true) (hL:nsFind esL "__init__" =none):XMk K C fI:=
 ⟨nm,q,N,bs,_,sn,sub,ab,col,dd,k0,k1,k2,k3,k5,nsFind es,lc,λh X=> .own (X _ _ ll) (by_2 lm km X) hL .base,λh X=>by_2 ln kn X,hi⟩
def cz_3{C N L:Addr}{nm q:Str}{bs:List Value}{sn:List Str}{sub:List Value}{ab:Bool}{col:Option Bool}{dd:Option Addr}{k0 k1 k2 k3 k5:Option Value}
  (lc:K.lookup C=some (excClassObj nm q C N bs (.ref L::bmVE) true sn sub ab col dd k0 k1 k2 k3 k5 "ValueError.__new__")) (sa:findIn K (.ref C) "__setattr__" =some (some (.builtin "object.__setattr__"))):XCls K C:=
 ⟨sa,by unfold clsIn;rw[lc];rfl⟩
def bg_6{c:Bool}{P:Program}{w:World}{x qual sf at_ fl:Str}{st:Stmt}{f C:Addr}{k:Nat}(F:Fun K x qual st f fd)(S:FnScope [sf,at_] [sf,at_] (Cc st))
  (zj:∀(zp:Value) (A:Around) (outer:List Env) (s:Shared) (H:Hp) (E:XK),PSs (Eg c P w K mg base [sf,at_] qual (Cc st) f zp A outer s H E) (Fs st) (de_9 C fl)):FnX P w K mg base c (k + 1) f fd [sf,at_] (ad_4 C fl):=by
 refine Fun.okX F S (λvs H Q E h=> ?_) λzp A outer s H vs Q E hr h=>⟨_,zj zp A outer s H E, ?_⟩
 ·obtain⟨a,v,us,rfl,_⟩:=h;rfl
 ·obtain⟨a,v,us,rfl,ha,q⟩:=h;exact⟨a,v,us,rfl,rfl,ha,q⟩
theorem ai_4{h:Heap}:∀{bm:List Value},OwnTail h bmVE bm->bm.contains (.type "BaseException")=true
 |_,.base=>by decide
 |_,.own _ _ _ t=>by rw[O9,ai_4 t,ZD8]
structure XC(P:Program)(w:World)(K:Frag)(mg:AB)(base:Heap)(c:Str)(f:Str)(C:Addr):Prop where
 at_:ClsAt K c C
 glob:mg c=some (.ref C)
 kp:keepIn K (.ref C)=true
 xc:XCls K C
 made:∃(fI:Addr) (fd:FuncData) (ps:List Str) (oI:Obj),XMk K C fI/\K.lookup fI=some oI/\oI.cls=.type "function" /\FnX P w K mg base false 1 fI fd ps (ad_4 C f)/\Binds K fd ps []
section
variable{X:Cx}{zd:AE}{σ:Sg}{H:Hp}{s:Shared}{C:Addr}{c f:Str}
def cn_0{e d:Addr}{o0 o1 x:HO}:upd (upd (upd H e o0) d x) e o1=upd (upd H d x) e o1:=by
 funext b
 unfold upd
 by_cases z:b=e
 ·rw[if_pos z,if_pos z]
 ·rw[if_neg z,if_neg z,if_neg z]
def ce_8{u:Value}{v:V}{Q:AA}{E:AA}(M:XC X.prog X.w X.K X.mg X.base c f C)(hr:RoomC false 2 X.A)(I:Inv X zd σ H s)(r:RelV v u)
  (h:∀a d t s',H a=none->H d=none->d≠a->s.heap.objs.size<=a->Inv X zd σ (upd (upd H d (.xd [(f,v)])) a (XE a ⟨.ref C,some d,.fields #[.ref t,.none,.none,.none,.bool false,.none], #[]⟩)) s'->Q (.ref a) s'):
  wpAny (model X.prog X.w) X.A (call (.ref C) [u]) Q E s:=by
 obtain⟨fI,fd,ps,oI,⟨nm,q,N,bs,bm,sn,sub,ab,col,dd,k0,k1,k2,k3,k5,mN,lc,tl,hn,hi⟩,lI,hI,F,hb⟩:=M.made;have KX:=I.kIn;obtain⟨hh,g,dr,tk,os⟩:=s;refine cj_1 Y7 (tl hh KX) (KX _ _ lc) (hn hh KX) hi (KX _ _ lI) hI (λh' e me ze=> ?_) (by show 1<=sizeLine;rw[D2];omega);obtain⟨kk,new,t,et,_,_⟩:=me;have I2:Inv X zd σ (upd H e (XE e ⟨.ref C,none,.fields #[.ref t,.none,.none,.none,.bool false,.none], #[]⟩)) ⟨h',g,dr,tk,os⟩:=I.laid (h':=h') (t':=tk) kk ze (XE.ok et);have he:H e=none:=I.hok.fresh ze;have r2:Vals [.ref e,v] [.ref e,u]:=.cons rfl (.cons r .nil);have sp:ad_4 C f [.ref e,v] (upd H e (XE e ⟨.ref C,none,.fields #[.ref t,.none,.none,.none,.bool false,.none], #[]⟩)) (λy H2=>y=.non/\∃d,H d=none/\d≠e/\H2=upd (upd H d (.xd [(f,v)])) e (XE e ⟨.ref C,some d,.fields #[.ref t,.none,.none,.none,.bool false,.none], #[]⟩)) (λ_ _ _=>False):=
  ⟨e,v,_,rfl,Bp,λd hd ne=>⟨rfl,d,by rw[Aq ne]at hd;exact hd,ne,cn_0⟩⟩
 have hl: [Value.ref e,u].length=ps.length:=F.len _ _ _ _ sp;have hb':=hb ⟨h',g,dr,tk,os⟩ [.ref e,u] I2.kIn (by rw[D7];exact hl);rw[D7]at hb';refine T9 (R7 (F.run _ X.stack _ _ ⟨[.ref e,u],[]⟩ [.ref e,u] [.ref e,v] _ _ (hr.make C [u] []) (I2.env0.make C [u] []) hb' r2 sp) λr s' hq=> ?_);cases r with
 |error x=>
  obtain⟨a,C',dx,T,H',_,_,_,_,_,_,_,_,_,_,z⟩:=hq;exact z.elim
 |ok fl=>
  cases fl with
  |ret y=>
   obtain⟨v',H',I3,rv,ev,d,hd,ne,eH⟩:=I2.after hq;subst ev eH;exact⟨rv,h e d t s' he hd ne ze I3⟩
  |next=>exact False.elim hq
  |brk=>exact False.elim hq
  |cont=>exact False.elim hq
def Lk1(X:Cx)(EX:Az):Prop:=∀(zd:AE) (σ:Sg) (H H':Hp) (s s':Shared) (a C:Addr) (dx:Option Addr) (o:Obj) (us:Array Value),Inv X zd σ H s->Inv X zd σ H' s'->s'.heap.get? a=some o->o.cls=.ref C->o.dict=dx->o.data=.fields us->us[1]? =some .none->us[2]? =some .none->
 H' a=none->s.heap.objs.size<=a->EXE X.K (EX σ) (.ref C) dx H'->X.xe (.ref a) s'
def af_3{cm:Bool}{P:Program}{w:World}{N:List Str}{qual:Str}{scope:Scope}{f:Addr}{cd:Value}{A:Around}{outer:List Env}{s:Shared}{E:XK}:
  Lk1 (Eg cm P w K mg base N qual scope f cd A outer s H E) (λ_=>EXof K E):=λzd σ H H' s s' a C dx o us I I' he hc hx hd h1 c2 n1 z1 q=>bd_6 I I' he hc hx hd h1 c2 n1 z1 q.of
def w_0(c f:Str)(js:List Nat)(fe:FE):FS:=λ Δ=>match fe (Bf (gsome js Δ)) with
 | .ok w=> .ex ⟨c,[f],[w.d]⟩ (gsome js Δ)
 | .ex x=> .ex x (gsome js Δ)
 | .no=> .no
def af_4{EX:Az}(js:List Nat){e:Expr}{fe:FE}{np zf pos:Pos}(M:XC X.prog X.w X.K X.mg X.base c f C)(hr:RoomC true 2 X.A)(l1:Lk1 X EX)(he:ED X EX e fe)(hg:Gl X c:=by rfl)(hdb:AG c:=by decide)
  (hs:starEach [e] X.env=(false,eval e X.env)::starEach [] X.env:=by rfl) (hpl:(backTo zf (starEach [] X.env)).any (·.1)=false:=by rfl):
  SD X EX (.Raise (some (.Call (.Name c np) [e] [] zf)) none pos) (w_0 c f js fe):=by
 intro zd s σ H D I q;obtain⟨H0,G0,G,Δ,O,E,q⟩:=q;obtain⟨G',O',sg,E'⟩:=E.gsome js;obtain⟨fI,fd,ps,oI,⟨nm,qn,N,bs,bm,sn,sub,ab,col,dd,k0,k1,k2,k3,k5,mN,lc,tl,hn,hi⟩,lI,hI,F,hb⟩:=M.made;have hB:bm.contains (.type "BaseException")=true:=ai_4 (tl s.heap I.kIn);rw[arm_exec_Raise];have tD0:tD X.K EX fe σ H λv H1=>∃v' w G1,[v]= [v']/\fe (Bf (gsome js Δ))=.ok w/\Step G' H G1 H1/\Has X.K G1 v' w.d:=by
  refine⟨G',Bf (gsome js Δ),E'.st.gh,E'.gsh, ?_⟩;unfold w_0 at q;cases e1:fe (Bf (gsome js Δ)) with
  |ok w=>exact WP.intro λv G1 H1 st r=>⟨v,w,G1,rfl,rfl,st,r⟩
  |ex x=>rw[e1]at q;exact q σ G' H O' E' sg
  |no=>rw[e1]at q;exact q
 have mk:wpAny (model X.prog X.w) X.A (eval (.Call (.Name c np) [e] [] zf) X.env) (λv s1=>∃a t dx,v=.ref a/\s1.heap.get? C=some (excClassObj nm qn C N bs bm true sn sub ab col dd k0 k1 k2 k3 k5 "ValueError.__new__")/\
   s1.heap.get? a=some {cls:=.ref C,dict:=dx,data:=.fields #[.ref t,.none,.none,.none,.bool false,.none]}/\X.xe (.ref a) s1) X.xe s:=by
  refine O0 (s_1 I hg M.glob ?_ hdb);refine Y2 (h₀:=X.base) I.ok.mod.kin M.kp (Ax (j_9 he p_4 hs zf zd s σ H (λvs H1=>∃v' w G1,vs= [v']/\fe (Bf (gsome js Δ))=.ok w/\Step G' H G1 H1/\Has X.K G1 v' w.d) I tD0) λus s1 ⟨vs,H1,I1,r,v,w,G1,ev,ew,st,hv⟩=>⟨I1.kIn, ?_⟩) hs hpl;subst ev;obtain⟨u,rfl,ru⟩:=r.one;refine ce_8 M hr.loose I1 ru λa d t s2 ha hd ne za I2=> ?_;have ga:=XE.get I2.hok Bp;refine⟨a,t,some d,rfl,I2.kIn _ _ lc,ga, ?_⟩;have I3:Inv X zd σ (upd H1 d (.xd [(f,v)])) s2:=Inv.forget I2 (by rw[Aq ne.symm];exact ha);refine l1 zd σ H1 _ s1 s2 a C (some d) _ _ I1 I3 ga rfl rfl rfl rfl rfl (by rw[Aq ne.symm];exact ha) za ?_;have st2:Step G1 H1 (upd G1 d (.xd [(f,v)])) (upd H1 d (.xd [(f,v)])):=Step.new st.gh hd _;refine⟨⟨c,[f],[w.d]⟩,upd G1 d (.xd [(f,v)]),st2.gh,.with_ M.at_ Bp rfl (.cons (hv.mono st2.gg) .nil), ?_⟩;unfold w_0 at q;rw[ew]at q;exact q σ _ _ O' ((E'.grow st).grow st2) (sg.trans (st.gg.trans st2.gg))
 refine A4 (O6 (ay_6 hB (hr.hd rfl) (A4 (D1 mk (λv s3 h3=>A4 (O6 (C5 h3))) λ_ _ x=>x))))
end
section
variable{X:Cx}{zd:AE}{σ:Sg}{H:Hp}{s:Shared}
def aa_3{M:Model}{A:Around}{E:AA}{i:Nat}{n:Str}{Q:Unit->Shared->Prop}(I:Inv X zd σ H s)(hN:X.N.Nodup)(hi:X.N[i]? =some n)(hk:X.env.scope.names.lookup n=some .local)
  (h:∀s',Inv X zd (σ.set i none) H s'->Q .unit s'):wpAny M A (do bindName X.env n .none;unbindBehindTheSuite X.env n pos) Q E s:=by
 obtain⟨m,hn,hl⟩:=id I.loc;have di:(X.env.scope.kind == .class || (X.env.scope.kind == .module && X.env.locals != X.env.globals))=false:=by rw[I.ok.kind];rfl
 have hiσ:i < σ.length:=by rw[I.len];exact(B2.mp hi).1
 have cne:=I.cne;have tracked:∀{a:Addr} {h':Heap},(∃o,s.heap.get? a=some o/\H a=none)->Heap.SameBut a s.heap h'->HOk X.prog X.w H h':=λ{a h'} ha hs b ob e=>by
  obtain⟨_,_,ay⟩:=ha;refine(I.hok b ob e).stay (λc w' hc q=>(hs.2 c ?_).trans q) (λ_ q=>q) λ_ _ q=>q
  rintro rfl
  rcases hc with rfl|hc
  ·rw[ay]at e;cases e
  ·rw[ay]at hc;cases hc
 refine wpAny_nameGoes_keeps hk hn di λh' v hn' hs=> ?_;obtain⟨oL,_,_,hoL,_⟩:=id hn;refine h _ ⟨I.ok,I.os,I.bare,⟨λb o e n hb hx=> ?_,λb o e n hb hx=> ?_,I.base.free,λb o e hx=> ?_,I.base.tups,I.base.frzs,I.base.tbls⟩,⟨_,hn',λj y v' e1 e2 e3=> ?_⟩,λy c e=> ?_,I.free,I.freeC,λp hp=> ?_,tracked ⟨oL,hoL,I.free⟩ hs,by simpa using I.len⟩
 ·exact(hs.2 b (B4 (B9 (A6 e) I.ok.above))).trans (I.base.keep b o e n hb hx)
 ·obtain⟨sl,e1⟩:=I.base.slot b o e n hb hx;exact⟨sl,(hs.2 b (B4 (B9 (A6 e) I.ok.above))).trans e1⟩
 ·obtain⟨o',e1⟩:=I.base.there b o e hx;exact⟨o',(hs.2 b (B4 (B9 (A6 e) I.ok.above))).trans e1⟩
 ·by_cases hj:j=i
  ·subst hj;rw[F6 hiσ]at e2;cases e2
  ·rw[C8 (Ne.symm hj)]at e2;obtain⟨u',r',q⟩:=hl j y v' e1 e2 e3;refine⟨u',r', ?_⟩;rcases q with⟨k,e⟩|⟨k,c,e,z⟩
   ·refine .inl ⟨k, ?_⟩;have:y≠n:=λe=>hj (ap_2 hN e1 (e▸hi));simp[this,e]
   ·exact .inr ⟨k,c,e,z.sameBut hs (cne y c e)⟩
 ·obtain⟨w',z⟩:=I.cell y c e;exact⟨w',z.sameBut hs (cne y c e)⟩
 ·obtain⟨e,n,ne,nf,d⟩:=I.pin p hp;exact⟨(hs.2 p.1 ne).trans e,n,ne,nf,d⟩
def Inv.speak{H':Hp}{s':Shared}{a C:Addr}{dx:Option Addr}{us:Array Value}{sl:Array (Option Value)}(I:Inv X zd σ H s)(I':Inv X zd σ H' s')(za:s.heap.objs.size<=a)(e:s'.heap.get? a=some ⟨.ref C,dx,.fields us,sl⟩)(c2:us[2]? =some .none)(hn:H' a=none):Inv X zd σ (upd H' a (.frz ⟨.ref C,dx,.fields us,sl⟩ (XO a C dx))) s':=by
 have B:=I'.base;have ns:∀b o,X.s₀.heap.get? b=some o->b≠a:=λb o q z=>absurd (B9 (A6 q) (C7 I.sz za)) (by rw[z];exact E9 _);have lt:∀b:Addr,b < s.heap.objs.size->b≠a:=λb h z=>absurd (B9 h za) (by rw[z];exact E9 _);have up:∀b u,H' b=some u->upd H' a (.frz ⟨.ref C,dx,.fields us,sl⟩ (XO a C dx)) b=some u:=λb u q=>by rw[Aq (Co q hn)];exact q
 refine⟨I'.ok,I'.os,I'.bare,⟨B.keep,B.slot,λb o q n x=>by rw[Aq (ns b o q)];exact B.free b o q n x,B.there,λb xs q=>up _ _ (B.tups b xs q),λb o u q=>up _ _ (B.frzs b o u q),λb ps q=>let⟨m,z⟩:=B.tbls b ps q;⟨m,up _ _ z⟩⟩,I'.loc,I'.cell, ?_,λx c q=> ?_,λp hp=> ?_,λb u q=> ?_,I'.len⟩
 ·rw[Aq (lt _ I.lt)];exact I'.free
 ·obtain⟨v,hv⟩:=I.cell x c q;rw[Aq (lt _ hv.lt)];exact I'.freeC x c q
 ·obtain⟨p1,p2,p3⟩:=I'.pin p hp;exact⟨p1,by rw[Aq (lt _ (A6 (I.pin p hp).1))];exact p2,p3⟩
 ·by_cases z:b=a
  ·subst z;rw[Bp]at q;cases q;exact⟨e,XO.ok e c2⟩
  ·rw[Aq z]at q;exact(I'.hok b u q).stay (λ_ _ _ q=>q) (λc q=>up _ _ q) (λc xs q=>up _ _ q) λc o q=>up _ _ q
end
def tryB(X:Cx)(zd:AE)(W:AA):Cx:={X with pn:=X.pn ++ zd,xe:=W}
structure HX where
 a:Addr
 C:Addr
 dx:Option Addr
 us:Array Value
 sl:Array (Option Value)
 c2:us[2]? =some .none
def HX.ho(e:HX):HO:=.frz ⟨.ref e.C,e.dx,.fields e.us,e.sl⟩ (XO e.a e.C e.dx)
def hand(X:Cx)(e:HX):Cx:={X with A:=X.A.mark (some (.ref e.a)),calm:=false,xe:=λ_ _=>False,H₀:=upd X.H₀ e.a e.ho}
section
variable{X:Cx}{zd ar:AE}{σ:Sg}{H:Hp}{s:Shared}{W:AA}{e:HX}
def ok_tryB:(tryB X zd W).Ok↔X.Ok:=⟨λok=>⟨ok.mod,ok.kind,ok.glob,ok.blt,ok.above,ok.inj,ok.has,ok.cab,ok.hd,ok.frames,ok.stk,ok.exf,ok.bs,ok.bsz,ok.noex,ok.exfs,ok.funs,ok.frf,ok.tb⟩,
 λok=>⟨ok.mod,ok.kind,ok.glob,ok.blt,ok.above,ok.inj,ok.has,ok.cab,ok.hd,ok.frames,ok.stk,ok.exf,ok.bs,ok.bsz,ok.noex,ok.exfs,ok.funs,ok.frf,ok.tb⟩⟩
def Inv.toB(I:Inv X zd σ H s):Inv (tryB X zd W) [] σ H s:=⟨ok_tryB.mpr I.ok,I.os,I.bare,I.base,I.loc,I.cell,I.free,I.freeC,λp hp=>I.pin p (by have hp:p∈(X.pn ++ zd) ++ []:=hp;rwa[D7]at hp),I.hok,I.len⟩
def Inv.ofB(I:Inv (tryB X zd W) ar σ H s):Inv X zd σ H s:=⟨ok_tryB.mp I.ok,I.os,I.bare,I.base,I.loc,I.cell,I.free,I.freeC,λp hp=>I.pin p (M5 _ hp),I.hok,I.len⟩
theorem SP.ofB{D:Ends}{f:Flow}(h:SP (tryB X zd W) ar D f s):SP X zd D f s:=by
 cases f with
 |next=>obtain⟨σ',H',I,q⟩:=h;exact⟨σ',H',Inv.ofB I,q⟩
 |brk=>obtain⟨σ',H',I,q⟩:=h;exact⟨σ',H',Inv.ofB I,q⟩
 |cont=>obtain⟨σ',H',I,q⟩:=h;exact⟨σ',H',Inv.ofB I,q⟩
 |ret u=>obtain⟨v,σ',H',I,r,q⟩:=h;exact⟨v,σ',H',Inv.ofB I,r,q⟩
def Un.hput{fs ex:List Addr}{H0 H':Hp}{h h':Heap}{a:Addr}{o:Obj}{u:HO}(U:Un fs ex H0 H' h h')(z:h.objs.size<=a)(q:H' a=some (.frz o u)):Un fs ex (upd H0 a (.frz o u)) H' h h':=by
 have nb:∀b o,h.get? b=some o->b≠a:=λb o g e=>absurd (A6 g) (by rw[e];exact ZB9.mpr z);refine⟨λb o g n=>U.keep b o g (by rwa[Aq (nb b o g)]at n),λb o g n=>U.slot b o g (by rwa[Aq (nb b o g)]at n),λb o g n=>U.free b o g (by rwa[Aq (nb b o g)]at n),U.there,λb xs e=> ?_,λb ob v e=> ?_,λb ps e=> ?_⟩
 all_goals
  by_cases hb:b=a
  ·subst hb;rw[Bp]at e;cases e
   try exact q
  ·rw[Aq hb]at e
   first|exact U.tups b _ e|exact U.frzs b _ _ e|exact U.tbls b _ e
def Un.htake{fs ex:List Addr}{H0 H1 H':Hp}{h h1 h':Heap}{a:Addr}{v:HO}(U0:Un fs ex H0 H1 h h1)(n:H1 a=none)(U:Un fs ex (upd H0 a v) H' h h')(z:h.objs.size<=a):Un fs ex H0 H' h h':=by
 have nb:∀b o,h.get? b=some o->b≠a:=λb o g e=>absurd (A6 g) (by rw[e];exact ZB9.mpr z);refine⟨λb o g q=>U.keep b o g (by rwa[Aq (nb b o g)]),λb o g q=>U.slot b o g (by rwa[Aq (nb b o g)]),λb o g q=>U.free b o g (by rwa[Aq (nb b o g)]),U.there,λb xs e=> ?_,λb ob v e=> ?_,λb ps e=> ?_⟩
 ·by_cases hb:b=a
  ·subst hb;have:=U0.tups b xs e;rw[n]at this;cases this
  ·exact U.tups b xs (by rwa[Aq hb])
 ·by_cases hb:b=a
  ·subst hb;have:=U0.frzs b ob v e;rw[n]at this;cases this
  ·exact U.frzs b ob v (by rwa[Aq hb])
 ·by_cases hb:b=a
  ·subst hb;obtain⟨m,q⟩:=U0.tbls b ps e;rw[n]at q;cases q
  ·exact U.tbls b ps (by rwa[Aq hb])
def Inv.toH(I:Inv X zd σ H s)(z:X.s₀.heap.objs.size<=e.a)(q:H e.a=some e.ho):Inv (hand X e) zd σ H s:=by
 have nb:∀b o,X.s₀.heap.get? b=some o->b≠e.a:=λb o g y=>absurd (A6 g) (by rw[y];exact ZB9.mpr z);refine⟨⟨I.ok.mod,I.ok.kind,I.ok.glob,I.ok.blt,I.ok.above,I.ok.inj,I.ok.has,I.ok.cab,λz=>absurd z A7,I.ok.frames,I.ok.stk,I.ok.exf,λb o g=> ?_,I.ok.bsz,I.ok.noex,I.ok.exfs,I.ok.funs,λb hb=> ?_,λc P g=>let⟨ps,y⟩:=I.ok.tb c P g;⟨ps,(Aq λu=>by subst u;obtain⟨_,k⟩:=I.base.tbls _ _ y;rw[q]at k;cases k).trans y⟩⟩,I.os,I.bare,Un.hput I.base z q,I.loc,I.cell,I.free,I.freeC,I.pin,I.hok,I.len⟩
 ·obtain⟨g1,g2⟩:=I.ok.bs b o g;exact⟨g1,(Aq (nb b o g1)).trans g2⟩
 ·obtain⟨_,u,hu,_⟩:=I.ok.funs.mem hb;exact(Aq (nb b u hu)).trans (I.ok.frf b hb)
def Inv.ofH{p0:AE}{σ0:Sg}{H0:Hp}{s0:Shared}(J:Inv X p0 σ0 H0 s0)(n:H0 e.a=none)(z:X.s₀.heap.objs.size<=e.a)(I:Inv (hand X e) zd σ H s):Inv X zd σ H s:=⟨J.ok,I.os,I.bare,Un.htake J.base n I.base z,I.loc,I.cell,I.free,I.freeC,I.pin,I.hok,I.len⟩
end
def cn_1(i:Nat):Fl->Fl
 | .nx Δ=> .nx (Δ.set i .no)
 | .bk Δ=> .bk (Δ.set i .no)
 | .ct Δ=> .ct (Δ.set i .no)
 | .rt w=> .rt w
 |_=> .no
def Catches(K:Frag)(C2:Addr)(tb:List (Str×Bool)):Prop:=∀c b,tb.lookup c=some b->∀C,ClsAt K c C->exmOne K (.ref C) (.ref C2)=some b
def Ev.drop{H0:HB}{G0 G H:Hp}{σ:Sg}{Δ:SE}{O:OS}(E:Ev K H0 G0 G H σ Δ O)(i:Nat):Ev K H0 G0 G H (σ.set i none) (Δ.set i .no) O:=by
 refine⟨E.st,by rw[F9,F9];exact E.len,λj d e=> ?_,λj z d e zo=> ?_,E.out,E.dj,λj d e=> ?_,λj d e=> ?_⟩
 ·rcases Fd e with⟨rfl,q⟩|⟨n,q⟩
  ·cases q
  ·rw[C8 n];exact E.sh j d q
 ·rcases Fd e with⟨rfl,q⟩|⟨n,q⟩
  ·subst q;cases zo
  ·rw[C8 n];exact E.ow j z d q zo
 ·rcases Fd e with⟨rfl,q⟩|⟨n,q⟩
  ·cases q
  ·rw[C8 n];exact E.lk j d q
 ·rcases Fd e with⟨rfl,q⟩|⟨n,q⟩
  ·cases q
  ·rw[C8 n];exact E.lt j d q
section
variable{X:Cx}{EX:Az}{i:Nat}{tb:List (Str×Bool)}{g h:FS}{c n:Str}{C2:Addr}{body aj:List Stmt}{b₀:Stmt}{np hp pos:Pos}
def Has.exc{G:Hp}{a C:Addr}{dx:Option Addr}{o:Obj}{x:Xn}(hn:G a=none)(e:ExcAt K G (.ref C) dx x):Has K (upd G a (.frz o (XO a C dx))) (.ref a) (.exn x.c x.ns x.vs):=by
 cases e with
 |bare hc=>exact .exn0 hc Bp
 |with_ hc hd hl r=>exact .exn1 hc Bp (by rw[Aq (Co hd hn)];exact hd) hl (r.mono (g_8 hn _))
def cn_2{H0:HB}{G0 G1:Hp}{D:Ends}{r:Fl}(q:Fin K EX H0 G0 G1 D (cn_1 i r)):Fin K Ds H0 G0 G1 {nx:=λ σ H=>D.nx (σ.set i none) H,rt:=D.rt,bk:=λ σ H=>D.bk (σ.set i none) H,ct:=λ σ H=>D.ct (σ.set i none) H} r:=by
 cases r with
 |nx Δ=>exact λ σ G H O E sg=>q _ G H O (E.drop i) sg
 |bk Δ=>exact λ σ G H O E sg=>q _ G H O (E.drop i) sg
 |ct Δ=>exact λ σ G H O E sg=>q _ G H O (E.drop i) sg
 |rt w=>exact q
 |rv d Δ=>exact q.elim
 |ex x Δ=>exact q.elim
 |no=>exact q
end
structure XGet(K:Frag)(C:Addr)(f:Str):Prop where
 ga:findIn K (.ref C) "__getattribute__" =some (some (.builtin "BaseException.__getattribute__"))
 gt:findIn K (.ref C) "__getattr__" =some none
 be:mroIn K C (.type "BaseException")=some true
 hd:hasDictIn K C=true
 no:findIn K (.ref C) f=some none
section
variable{prog:Program}{w:World}{A:Around}{E:AA}{s:Shared}{K:Frag}{x C dx:Addr}{f:Str}
def cn_3{expr:Bool}{Q:AA}{ox:Obj}{mA:AB}{v:Value}(X:K.In s.heap)(hx:s.heap.get? x=some ox)(hc:ox.cls=.ref C)(hdx:ox.dict=some dx)(hnc:notCls ox=true)(hn:s.heap.Ns1 dx mA)(g:XGet K C f)
  (hv:mA f=some v) (hh:handedIn v=true) (h:Q v {s with toks:=s.toks + 1}):wpAny (model prog w) A (getAttr (.ref x) f expr) Q E s:=by
 obtain⟨od,ho,hl⟩:=ax_7 hn;have I:InstAt s.heap x ox C (some od):=⟨hx,hc,hnc,by rw[hdx];exact ho⟩;obtain⟨hp,gg,d,t,os⟩:=s;have L0:=I.type (M:=model prog w);have L1:=X9 (M:=model prog w) X g.ga;have L2:=X9 (M:=model prog w) X g.gt;have LF:=looks_find (M:=model prog w) X I (findObj_own g.hd g.no rfl (by rw[hl,hv]));have sub:Looks (model prog w) hp (isInstance (.ref x) (.type "BaseException")) true:=L0.andThen (looks_mroIn X g.be);have SL:=PySem.F.attr_ValueError.ga;have hx0:(expr && onTheHeap (Value.builtin "BaseException.__getattribute__"))=false:=by cases expr <;> rfl
 unfold getAttr getAttrBy;refine A4 (wpAny_mkText (M7 (A4 (L0.at (A4 (L1.at ?_))))));show wpAny _ _ (getAttrByItsOwn _ _ _ _ _ _) _ _ _;unfold getAttrByItsOwn;refine A4 (L2.at (A4 (wpAny_attempt ?_)));refine M7 ?_;unfold callGetattribute;rw[hx0,if_neg A7];unfold boundAndCalled;rw[SL.bind];refine A4 (C5 (T9 (X1 SL.plain PySem.F.entry_bexc_ga (@check_slot (model prog w) _ _ ⟨hp,gg,d,t + 1,os⟩ "BaseException.__getattribute__" "BaseException" "__getattribute__" (.ref x) [.str f t] [] _ nofun nofun sub (PySem.F.args_bexc_ga _ _) ?_))));refine A4 (C5 (A4 (C5 (A4 (L0.at (A4 (LF.at ?_)))))));refine C5 ?_;show wpAny _ _ (handedOut v) _ _ _;rw[handedOut_of hh];exact C5 h
structure XInst(K:Frag)(C:Addr):Prop where
 ga:findIn K (.ref C) "__getattribute__" =some (some (.builtin "BaseException.__getattribute__"))
 gt:findIn K (.ref C) "__getattr__" =some none
 be:mroIn K C (.type "BaseException")=some true
 hd:hasDictIn K C=true
 cl:findIn K (.ref C) "__class__" =some (some (.builtin "object.__class__"))
 gs:specialIn K (.builtin "object.__class__") "__get__" =some (some (.builtin "getset_descriptor.__get__"))
 tk:takesIn K (.builtin "object.__class__")=some true
 ob:mroIn K C (.type "object")=some true
end
theorem bn_3{G:Hp}{f:Str}{d:D}:∀{ns:List Str} {us:List V} {vs:List D},HasL K G us vs->(ns.zip vs).lookup f=some d->∃v,(ns.zip us).lookup f=some v/\Has K G v d
 | [],_,_,_,e=>by simp at e
 |n::ns,_,_,.nil,e=>by simp at e
 |n::ns,_,_,.cons h r,e=>by
  rw[Y6,J9]at e⊢;cases z:(f ==n) with
  |true=>rw[z]at e;cases e;exact⟨_,rfl,h⟩
  |false=>rw[z]at e;exact bn_3 r e
def eAttr(cs:List Str)(f:Str)(fo:FE):FE:=λ δ=>(fo δ).bind λw=>match w.d with
 | .exn c ns vs=>if cs.contains c=true then(match(ns.zip vs).lookup f with|some d=> .ok (.sh d)|none=> .no) else .no
 |_=> .no
def XGets(K:Frag)(cs:List Str)(f:Str):Prop:=∀c∈cs,∀C,ClsAt K c C->XGet K C f
section
variable{X:Cx}{EX:Az}{o:Expr}{fo:FE}{f:Str}{cs:List Str}{pos:Pos}
def cz_4(g:XGets X.K cs f)(he:ED X EX o fo)(hb:attributeBase o f X.env (eval o X.env)=eval o X.env:=by rfl):ED X EX (.Attribute o f pos) (eAttr cs f fo):=by
 intro zd s σ H Q I q;obtain⟨G,δ,g0,s0,q⟩:=q;refine bw_4 hb (Ax (he zd s σ H (λv H1=>∃G1 w,Step G H G1 H1/\Has X.K G1 v w.d/\fo δ=.ok w) I ⟨G,δ,g0,s0, ?_⟩) λu s1 ⟨v,H1,I1,rv,G1,w,st,hv,ew⟩=> ?_)
 ·unfold eAttr at q;cases e:fo δ with
  |ok w=>exact WP.intro λv G1 H1 st r=>⟨G1,w,st,r,rfl⟩
  |ex x=>rw[e]at q;exact q
  |no=>rw[e]at q;exact q
 ·have q2:Out X.K (EX σ) G H (match w.d with
   | .exn c ns vs=>if cs.contains c=true then(match(ns.zip vs).lookup f with|some d=> .ok (.sh d)|none=> .no) else .no
   |_=> .no) Q:=by
   unfold eAttr at q;rw[ew]at q;exact q
  clear q;revert hv q2;cases w.d with
  |exn c ns vs=>
   intro hv q2;have q2:Out X.K (EX σ) G H (if cs.contains c=true then(match(ns.zip vs).lookup f with|some d=> .ok (.sh d)|none=> .no) else .no) Q:=q2
   split at q2
   ·rename_i hc;cases el:(ns.zip vs).lookup f with
    |none=>rw[el]at q2;exact q2.elim
    |some d=>
     rw[el]at q2;cases hv with
     |exn0 _ _=>cases el
     |exn1 hc1 h1 hd1 hl1 r1=>
      rename_i a C dd ob us;obtain rfl:u=Value.ref a:=rv;obtain⟨y,ey,hy⟩:=bn_3 r1 el;obtain⟨_,⟨us',sl,eo,_⟩,_⟩:=I1.hok a _ (st.gh _ _ h1);obtain⟨mA,hn,hr⟩:=I1.hok dd _ (st.gh _ _ hd1);have hrf:=hr f;rw[ey]at hrf;cases em:mA f with
      |none=>rw[em]at hrf;exact hrf.elim
      |some z=>
       rw[em]at hrf;have rz:RelV y z:=hrf;exact cn_3 I1.kIn eo rfl rfl rfl hn (g c (S4.mp hc) C hc1) em (ax_8 rz) ⟨y,H1,I1.tok _,rz,WP.use (WP.mono st q2) st.gh hy⟩
   ·exact q2.elim
  |_=>intro _ q2;exact False.elim q2
end
def eIsC(tb:List (Str×Bool))(fo:FE):FE:=λ δ=>(fo δ).bind λw=>match w.d with
 | .exn c _ _=>(match tb.lookup c with|some b=> .ok (.sh (.bl b))|none=> .no)
 |_=> .no
section
variable{X:Cx}{EX:Az}{zd:AE}{σ:Sg}{G H:Hp}{s:Shared}
variable{a:Expr}{fo:FE}{tb:List (Str×Bool)}{pp pos:Pos}
end
theorem RoomC.units{c:Bool}{k:Nat}{A:Around}(r:RoomC c k A):A.units + 64 < cLine:=by have:=r.un;omega
section
variable{X:Cx}{c:Bool}{k:Nat}{zd:AE}{W:AA}{e:HX}
def cn_4(h:RoomC c k (Cx.A X)):RoomC c k (Cx.A (tryB X zd W)):=h
def cn_5(h:Cx.calm X=true):Cx.calm (Cx.nox X)=true:=h
def d_2{cm:Bool}{P:Program}{w:World}{N:List Str}{qual:Str}{scope:Scope}{f:Addr}{cd:Value}{A:Around}{outer:List Env}{s:Shared}{E:XK}:
  PassesOwn (model P w) (Cx.A (Eg cm P w K mg base N qual scope f cd A outer s H E)) (Cx.env (Eg cm P w K mg base N qual scope f cd A outer s H E)) (Cx.xe (Eg cm P w K mg base N qual scope f cd A outer s H E)):=
 λe s' h=>wpAny_leaving_again (SameStack.refl _) h
def Catches.one{C2:Addr}{c:Str}{C:Addr}{b:Bool}(a:ClsAt K c C)(h:exmOne K (.ref C) (.ref C2)=some b){tb:List (Str×Bool)}(r:Catches K C2 tb):Catches K C2 ((c,b)::tb):=λc' b' e C' a'=>by
 rw[J9]at e;cases z:(c' ==c) with
 |true=>
  rw[z]at e;cases e;have:c'=c:=eq_of_beq z;subst this;unfold ClsAt at a a';rw[a]at a';cases a';exact h
 |false=>rw[z]at e;exact r c' b' e C' a'
def Catches.nil{C2:Addr}:Catches K C2 []:=λ_ _ e=>by cases e
def XGets.nil{f:Str}:XGets K [] f:=λ_ e=>by cases e
def XGets.one{f c:Str}{C:Addr}(a:ClsAt K c C)(x:XGet K C f){cs:List Str}(r:XGets K cs f):XGets K (c::cs) f:=λc' e C' a'=>by
 rcases C4.mp e with rfl|e
 ·unfold ClsAt at a a';rw[a]at a';cases a';exact x
 ·exact r c' e C' a'
end
structure Hd where
 i:Option Nat
 tb:List (Str×Bool)
 h:FS
def hdGo(d:Hd)(x:Xn)(Δ:SE):Fl:=match d.i with
 |some i=>cn_1 i (d.h (Δ.set i (.sh (.exn x.c x.ns x.vs))))
 |none=>(match d.h Δ with
  | .ex _ _=> .no
  |r=>r)
def tryH:List Hd->Xn->SE->Fl
 | [],_,_=> .no
 |d::r,x,Δ=>match d.tb.lookup x.c with
  |some true=>hdGo d x Δ
  |some false=>tryH r x Δ
  |none=> .no
def bn_4(g:FS)(hs:List Hd):FS:=λ Δ=>match g Δ with
 | .ex x Δ1=>tryH hs x Δ1
 |r=>r
inductive HOk3(X:Cx):List ExceptHandler->List Hd->Prop where
 |nil:HOk3 X [] []
 |as_ {c n:Str} {C2:Addr} {b₀:Stmt} {aj:List Stmt} {np hp:Pos} {i:Nat} {tb:List (Str×Bool)} {h:FS} {hs:List ExceptHandler} {ds:List Hd} (hc:X.mg c=some (.ref C2)) (ct:Catches X.K C2 tb) (hh:∀e,BD (hand X e) Ds (b₀::aj) h) (r:HOk3 X hs ds)
   (hi:X.N[i]? =some n:=by rfl) (hk:X.env.scope.names.lookup n=some .local:=by rfl) (hg:Gl X c:=by rfl) (hdb:AG c:=by decide):
   HOk3 X (.ExceptHandler (some (.Name c np)) (some n) (b₀::aj) hp::hs) (⟨some i,tb,h⟩::ds)
 |bare {c:Str} {C2:Addr} {b₀:Stmt} {aj:List Stmt} {np hp:Pos} {tb:List (Str×Bool)} {h:FS} {hs:List ExceptHandler} {ds:List Hd} (hc:X.mg c=some (.ref C2)) (ct:Catches X.K C2 tb) (hh:∀e,BD (hand X e) Ds (b₀::aj) h) (r:HOk3 X hs ds)
   (hg:Gl X c:=by rfl) (hdb:AG c:=by decide):
   HOk3 X (.ExceptHandler (some (.Name c np)) none (b₀::aj) hp::hs) (⟨none,tb,h⟩::ds)
def EXh(K:Frag)(EX:Az)(D:Ends)(ds:List Hd):Az:=λ σ=>⟨λx G H=>∃H0 G0 Δ O,Ev K H0 G0 G H σ Δ O/\Fin K EX H0 G0 G D (tryH ds x Δ),
 λ_ _ _ _ _ s ⟨H0,G0,Δ,O,E,f⟩=>⟨H0,G0,Δ,O,E.grow s,Fin.mono s.gg f⟩⟩
def cz_6{EX:Az}{H0:HB}{G0 G1:Hp}{D:Ends}{r:Fl}(q:Fin K EX H0 G0 G1 D (match r with| .ex _ _=> .no|r=>r)):Fin K Ds H0 G0 G1 {nx:=D.nx,rt:=D.rt,bk:=D.bk,ct:=D.ct} r:=by
 cases r with
 |nx Δ=>exact q
 |bk Δ=>exact q
 |ct Δ=>exact q
 |rt w=>exact q
 |rv d Δ=>exact q
 |ex x Δ=>exact q.elim
 |no=>exact q
section
variable{X:Cx}{EX:Az}{g:FS}{body:List Stmt}{pos:Pos}
def ce_9(hN:X.N.Nodup){zd:AE}{D:Ends}{a C T2:Addr}{dx:Option Addr}{σ1 σ0:Sg}{H1 H2:Hp}{s1 s2:Shared}{h2:Heap}{x:Xn}{H0':HB}{G2 G0':Hp}{Δ1:SE}{O1:OS}{e0:HX}{h9:Heap}(ha:e0.a=a)(hC:e0.C=C)(hx:e0.dx=dx)(zz:X.s₀.heap.objs.size<=e0.a)
  (J1:Inv X zd σ0 H1 s1) (J3:Inv X zd σ1 H2 {s2 with heap:=h9}) (J4:Inv X zd σ1 (upd H2 a e0.ho) {s2 with heap:=h2}) (st4:Step G2 H2 (upd G2 a e0.ho) (upd H2 a e0.ho))
  (n1:H2 a=none) (sg2:Same G2 H2) (ea:ExcAt X.K G2 (.ref C) dx x) (LT:Looks (model X.prog X.w) h2 (typeOf (.ref a)) (.ref C)) (hcC:ClsAt X.K x.c C)
  (E1:Ev X.K H0' G0' G2 H2 σ1 Δ1 O1)
  (flt:∀{A:Around} {E:AA} {Q:Unit->Shared->Prop},(∀h3,Inv X zd σ1 (upd H2 a e0.ho) {s2 with heap:=h3}->Q .unit {s2 with heap:=h3})->wpAny (model X.prog X.w) A (setFlight (.ref a) none) Q E {s2 with heap:=h2}):
  ∀{hs:List ExceptHandler} {ds:List Hd},HOk3 X hs ds->Fin X.K EX H0' G0' G2 D (tryH ds x Δ1)->wpAny (model X.prog X.w) X.A (handleBy (.ref a) X.env hs) (SP X zd D) X.xe {s2 with heap:=h2}:=by
 subst ha hC hx;intro hs ds ho
 induction ho with
 |nil=>intro q;exact False.elim q
 |as_ hc ct hh r hi hk hg hdb ih=>
  rename_i c n C2 b₀ aj np hp i tb h hs ds;intro q;refine wpAny_handleBy_cons (codeAny_handlers_test ?_) (by intro z;cases z);refine s_1 (X:=hand X e0) (Inv.toH J4 zz Bp) hg hc ?_ hdb;unfold tryH at q;cases e2:tb.lookup x.c with
  |none=>simp only[e2]at q;exact q.elim
  |some b=>
   have em:=ct _ _ e2 _ hcC;refine ZD5 (s:={s2 with heap:=h2}) (exm_one J4.kIn LT em) ?_;cases b with
   |false=>simp only[e2]at q;exact ih q
   |true=>
    simp only[e2,hdGo]at q;show codeAny _ _ _ _ _;refine codeAny_handlers_suite_as (flt λh3 J5=> ?_);refine ap_3 (X:=hand X e0) (v:=.ref e0.a) (Inv.toH J5 zz Bp) hN hi (.inl hk) rfl (λs6 I6=> ?_) (.inr hk);have E6:=(E1.grow st4).put (i:=i) (Has.exc (sg2.free n1) ea);refine D1 (hh e0 zd s6 _ _ _ I6 ⟨H0',G0',_,_,O1,E6,cn_2 (Fin.mono st4.gg q)⟩) (λf s7 h7=> ?_) λ_ _ z=>False.elim z;show wpAny _ X.A (do bindName X.env n .none;unbindBehindTheSuite X.env n hp) (λ_ s₃=>SP X zd D f s₃) _ s7;cases f with
    |next=>
     obtain⟨σ7,H7,I7,q7⟩:=h7;exact aa_3 (Inv.ofH J3 n1 zz I7) hN hi hk λs8 I8=>⟨_,H7,I8,q7⟩
    |brk=>
     obtain⟨σ7,H7,I7,q7⟩:=h7;exact aa_3 (Inv.ofH J3 n1 zz I7) hN hi hk λs8 I8=>⟨_,H7,I8,q7⟩
    |cont=>
     obtain⟨σ7,H7,I7,q7⟩:=h7;exact aa_3 (Inv.ofH J3 n1 zz I7) hN hi hk λs8 I8=>⟨_,H7,I8,q7⟩
    |ret u=>
     obtain⟨v,σ7,H7,I7,r7,q7⟩:=h7;exact aa_3 (Inv.ofH J3 n1 zz I7) hN hi hk λs8 I8=>⟨v,_,H7,I8,r7,q7⟩
 |bare hc ct hh r hg hdb ih=>
  rename_i c C2 b₀ aj np hp tb h hs ds;intro q;refine wpAny_handleBy_cons (codeAny_handlers_test ?_) (by intro z;cases z);refine s_1 (X:=hand X e0) (Inv.toH J4 zz Bp) hg hc ?_ hdb;unfold tryH at q;cases e2:tb.lookup x.c with
  |none=>simp only[e2]at q;exact q.elim
  |some b=>
   have em:=ct _ _ e2 _ hcC;refine ZD5 (s:={s2 with heap:=h2}) (exm_one J4.kIn LT em) ?_;cases b with
   |false=>simp only[e2]at q;exact ih q
   |true=>
    simp only[e2,hdGo]at q;show codeAny _ _ _ _ _;refine codeAny_handlers_suite (flt λh3 J5=> ?_);have E6:=E1.grow st4;refine D1 (hh e0 zd {s2 with heap:=h3} _ _ _ (Inv.toH J5 zz Bp) ⟨H0',G0',_,_,O1,E6,cz_6 (Fin.mono st4.gg q)⟩) (λf s7 h7=> ?_) λ_ _ z=>False.elim z;cases f with
    |next=>
     obtain⟨σ7,H7,I7,q7⟩:=h7;exact⟨_,H7,Inv.ofH J3 n1 zz I7,q7⟩
    |brk=>
     obtain⟨σ7,H7,I7,q7⟩:=h7;exact⟨_,H7,Inv.ofH J3 n1 zz I7,q7⟩
    |cont=>
     obtain⟨σ7,H7,I7,q7⟩:=h7;exact⟨_,H7,Inv.ofH J3 n1 zz I7,q7⟩
    |ret u=>
     obtain⟨v,σ7,H7,I7,r7,q7⟩:=h7;exact⟨v,_,H7,Inv.ofH J3 n1 zz I7,r7,q7⟩
def cz_7{hd0:ExceptHandler}{hs0:List ExceptHandler}{ds:List Hd}(hN:X.N.Nodup)(hfr:X.env.frame=some X.env.locals)(hst:X.stack=X.env::X.outer)(hb:∀zd W EXB,Lk (tryB X zd W) EXB->BD (tryB X zd W) EXB body g)(ho:HOk3 X (hd0::hs0) ds):
  SD X EX (.Try body (hd0::hs0) [] [] pos) (bn_4 g ds):=by
 intro zd s σ H D I q;obtain⟨H0,G0,G,Δ,O,E,q⟩:=q;refine wpAny_Try_except ?_;have lk:Lk (tryB X zd λe s₁=>wpAny (model X.prog X.w) X.A (noteFrame e X.env) (λ_ s₂=>wpAny (model X.prog X.w) X.A (setFlight e none) (λ_ s₃=>wpAny (model X.prog X.w) X.A (handleBy e X.env (hd0::hs0)) (SP X zd D) X.xe s₃) X.xe s₂) X.xe s₁) (EXh X.K EX D ds):=by
  intro ar σ1 H1 s1 e s2 I1 cx;obtain⟨a,C,dx,T,H2,rfl,I2,tr,n1,n2,z1,z2,x,G2,sg2,ea,H0',G0',Δ1,O1,E1,f1⟩:=Inv.raised I1 cx;show wpAny _ X.A (noteFrame (.ref a) X.env) _ _ s2;have J1:=Inv.ofB I1;have J2:=Inv.ofB I2;refine ay_5 (outer:=X.outer) (by rw[<-hst];exact J2.ok.frames) (by rw[<-hst];exact J2.stack) hfr tr λh1 T2 z3 k1 t1=> ?_;refine s_2 t1 λh2 k2 t2=> ?_;have zT2:H2 T2=none:=J2.hok.fresh z3;have J3:Inv X zd σ1 H2 {s2 with heap:=h2}:=by
   refine Inv.settle (ch:=[a,T] ++ [T2]) J1 J2 (λb hb=> ?_) ?_
   ·have:b=a\/b=T\/b=T2:=by simpa using hb
    rcases this with rfl|rfl|rfl
    ·exact⟨z1,n1⟩
    ·exact⟨z2,n2⟩
    ·exact⟨C7 z1 (C7 (R5 (A6 tr.ob.choose_spec.choose_spec.1)) z3),zT2⟩
   ·rw[hst];exact k1.trans (KeepX.of_same k2)
  obtain⟨⟨oa,ua,ga,gc,gd,gf,g1,g2⟩,ne,tbk⟩:=id t2;have goa:h2.get? a=some ⟨.ref C,dx,.fields ua,oa.slots⟩:=by
   obtain⟨c1,d1,e1,s1⟩:=oa;simp only at gc gd gf;subst gc gd gf;exact ga
  let e0:HX:=⟨a,C,dx,ua,oa.slots,g2⟩
  have zz:X.s₀.heap.objs.size<=e0.a:=C7 J1.sz z1;have J4:Inv X zd σ1 (upd H2 a e0.ho) {s2 with heap:=h2}:=Inv.speak J1 J3 z1 goa g2 n1;have st4:Step G2 H2 (upd G2 a e0.ho) (upd H2 a e0.ho):=Step.new sg2 n1 _;have LT:Looks (model X.prog X.w) h2 (typeOf (.ref a)) (.ref C):=gc▸(Looks.ld ga).andThen .now;obtain⟨hcC⟩:Nonempty (ClsAt X.K x.c C):=by cases ea with|bare hc=>exact⟨hc⟩|with_ hc _ _ _=>exact⟨hc⟩
  refine ce_9 (e0:=e0) (T2:=T2) hN rfl rfl rfl zz J1 J3 J4 st4 n1 sg2 ea LT hcC E1 (λ{A E Q} hq=> ?_) ho f1;refine s_2 t2 λh3 k3 t3=>hq h3 ?_;refine Inv.settle (ch:=[T2]) (s':={s2 with heap:=h2}) J1 J4 (λb hb=> ?_) (KeepX.of_same k3);have:b=T2:=by simpa using hb
  subst this;exact⟨C7 z1 (C7 (R5 (A6 tr.ob.choose_spec.choose_spec.1)) z3),by rw[Aq ne];exact zT2⟩
 refine D1 (hb zd _ _ lk [] s σ H D (Inv.toB I) ⟨H0,G0,G,Δ,O,E, ?_⟩) (λf s1 hs=> ?_) λ_ _ z=>z
 ·unfold bn_4 at q;cases e1:g Δ with
  |ex x Δ1=>
   rw[e1]at q;exact λ σ1 G1 H1 O1 E1 sg=>⟨H0,G0,Δ1,O1,E1,Fin.mono sg q⟩
  |nx Δ1=>rw[e1]at q;exact q
  |bk Δ1=>rw[e1]at q;exact q
  |ct Δ1=>rw[e1]at q;exact q
  |rt w=>rw[e1]at q;exact q
  |rv d Δ1=>rw[e1]at q;exact q
  |no=>rw[e1]at q;exact q
 ·have hs':=SP.ofB hs;cases f with
  |next=>exact T5 hs'
  |brk=>exact hs'
  |cont=>exact hs'
  |ret u=>exact hs'
end
section
variable{prog:Program}{w:World}{A:Around}{E:AA}{h:Heap}{g:Array GenState}{d:Drawn}{t:Nat}{os:OsState}
variable{nm q:Str}{C N:Addr}{bs bm bmB:List Value}{bt:Bool}{sn:List Str}{sub:List Value}{ab:Bool}{col:Option Bool}{dd:Option Addr}{k0 k1 k2 k3 k5:Option Value}{B newId ai:String}
def bt_7(FB:ExcBaseFacts B newId ai bmB)(T:OwnTail h bmB bm){mN:AB}{Q:PySem.Fin->Shared->Prop}
  (hC:h.get? C=some (excClassObj nm q C N bs bm bt sn sub ab col dd k0 k1 k2 k3 k5 newId)) (hn:h.Ns N mN) (hi:mN "__init__" =none)
  (z:∀h' e,Heap.MadeExcOf h h' e (.ref C) []->h.objs.size<=e->Q (.done (.ret (.ref e))) ⟨h',g,d,t,os⟩):
  wpAny (model prog w) A (Builtin.«type.__call__» ⟨[.ref C],[]⟩) Q E ⟨h,g,d,t,os⟩:=by
 wp_walk using N0 hC,wpAny_madeBy_exc hC
 refine Z0 (T8 _ FB.quiet) (wpAny_check_new_subT FB T hC ?_);refine codeAny_exc_new_subT FB T hC ?_ (by show 0<=sizeLine;exact F7 _);show wpAny _ _ _ _ _ _;generalize e1:({cls:=.type "tuple",data:=.seq ([]:List Value).toArray}:Obj)=o1;generalize e2:({cls:=.ref C,data:=.fields #[.ref h.objs.size,.none,.none,.none,.bool false,.none]}:Obj)=o2;have up:∀b o,h.get? b=some o->((h.push o1).push o2).get? b=some o:=λb o e=>A5 _ (A5 _ e);have ge:((h.push o1).push o2).get? (h.objs.size + 1)=some o2:=by
  have:=B8 (h.push o1) (o:=o2) (by rw[<-e2];rfl)
  rwa[K9]at this
 have hC1:=up _ _ hC;have hn1:((h.push o1).push o2).Ns N mN:=hn.keeps up;have T1:=T.keeps up;have cl:o2.cls=.ref C:=by rw[<-e2]
 have hcC:List.contains (Value.ref C::bm) (.ref C)=true:=S4.mpr (.head _);unfold isInstance
 repeat (first|(with_reducible refine N0 ge ?_;rw[cl])|(with_reducible refine X7 hC1 ?_;rw[hcC])|wp_step)
 show wpAny _ _ (typeLookup (.ref C) _) _ _ _;refine wpAny_typeLookup_tail hC1 hn1 T1 FB.mroIs FB.init.lookup ?_;rw[hi];refine M7 (A4 (Q2 (FB.init.bind _) ?_));refine A4 (T9 (X1 FB.init.plain FB.initEntry (wpAny_check_init_subT FB T1 hC1 ge cl ?_)));subst e1 e2
 wp_walk
 refine z _ (h.objs.size + 1) ⟨λb o hb=> ?_,P7 (N5 _),h.objs.size + 2, ?_,P7 (), ?_⟩ (N5 _)
 ·rw[F3 _ _ (Ne.symm (B4 (V0 (A6 hb))))];exact A5 _ (up b o hb)
 ·rw[N7 _ (A5 _ ge) rfl,K9,K9];rfl
 ·rw[F3 _ _ (B4 (Q7 (h.objs.size + 1)))];exact Heap.get?_push_at (by rw[K9,K9]) rfl
def cf_0(FB:ExcBaseFacts B newId ai bmB)(T:OwnTail h bmB bm){mN:AB}{Q:AA}
  (hC:h.get? C=some (excClassObj nm q C N bs bm bt sn sub ab col dd k0 k1 k2 k3 k5 newId)) (hn:h.Ns N mN) (hi:mN "__init__" =none)
  (z:∀h' e,Heap.MadeExcOf h h' e (.ref C) []->h.objs.size<=e->Q (.ref e) ⟨h',g,d,t,os⟩):
  wpAny (model prog w) A (call (.ref C) []) Q E ⟨h,g,d,t,os⟩:=by
 have f1:=tc_lookup;have f2:=tc_bind (.ref C);have Cr:Shared.TypeIs ⟨h,g,d,t,os⟩ (.ref C) "type" :=⟨_,hC,rfl⟩;refine T9 (ZC7 (?_:wpAny _ _ (callAny (.ref C) _) _ _ _))
 wp_walk using N0 hC
 refine⟨rfl, ?_⟩;exact ZA3 (T8 _ nofun) entry_typeCall (Z1 hC (bt_7 FB T hC hn hi z))
end
def XMk0(K:Frag)(C:Addr):Prop:=∃(nm q:Str) (N:Addr) (bs bm:List Value) (sn:List Str) (sub:List Value) (ab:Bool) (col:Option Bool) (dd:Option Addr) (k0 k1 k2 k3 k5:Option Value) (mN:AB),
 K.lookup C=some (excClassObj nm q C N bs bm true sn sub ab col dd k0 k1 k2 k3 k5 "ValueError.__new__")/\(∀h:Heap,K.In h->OwnTail h bmVE bm)/\(∀h:Heap,K.In h->h.Ns N mN)/\mN "__init__" =none
def cz_9{C N L:Addr}{nm q:Str}{bs:List Value}{sn:List Str}{sub:List Value}{ab:Bool}{col:Option Bool}{dd:Option Addr}{k0 k1 k2 k3 k5:Option Value}{oc c0 oL:Value}{od ddL odL:Option Addr}{es esL:Array DictEntry}{ep epL:Nat}{sl sl0 slL:Array (Option Value)}{cd:ClassData}
  (lc:K.lookup C=some (excClassObj nm q C N bs (.ref L::bmVE) true sn sub ab col dd k0 k1 k2 k3 k5 "ValueError.__new__")) (ln:K.lookup N=some ⟨oc,od,.dict es ep,sl⟩) (kn:k_5 es=true) (hi:nsFind es "__init__" =none)
  (ll:K.lookup L=some ⟨c0,ddL,.cls cd,sl0⟩) (lm:K.lookup cd.ns=some ⟨oL,odL,.dict esL epL,slL⟩) (km:k_5 esL=true) (hL:nsFind esL "__init__" =none):XMk0 K C:=
 ⟨nm,q,N,bs,_,sn,sub,ab,col,dd,k0,k1,k2,k3,k5,nsFind es,lc,λh X=> .own (X _ _ ll) (by_2 lm km X) hL .base,λh X=>by_2 ln kn X,hi⟩
structure XC0(K:Frag)(mg:AB)(c:Str)(C:Addr):Prop where
 at_:ClsAt K c C
 glob:mg c=some (.ref C)
 kp:keepIn K (.ref C)=true
 made:XMk0 K C
def by_3(c:Str):FS:=λ Δ=> .ex ⟨c,[],[]⟩ Δ
section
variable{X:Cx}{C:Addr}{c:Str}
def cf_1{EX:Az}{np zf pos:Pos}(M:XC0 X.K X.mg c C)(hr:RoomC true 2 X.A)(l1:Lk1 X EX)(hg:Gl X c:=by rfl)(hdb:AG c:=by decide):
  SD X EX (.Raise (some (.Call (.Name c np) [] [] zf)) none pos) (by_3 c):=by
 intro zd s σ H D I q;obtain⟨H0,G0,G,Δ,O,E,q⟩:=q;obtain⟨nm,qn,N,bs,bm,sn,sub,ab,col,dd,k0,k1,k2,k3,k5,mN,lc,tl,hn,hi⟩:=M.made;have hB:bm.contains (.type "BaseException")=true:=ai_4 (tl s.heap I.kIn);rw[arm_exec_Raise];have mk:wpAny (model X.prog X.w) X.A (eval (.Call (.Name c np) [] [] zf) X.env) (λv s1=>∃a t dx,v=.ref a/\s1.heap.get? C=some (excClassObj nm qn C N bs bm true sn sub ab col dd k0 k1 k2 k3 k5 "ValueError.__new__")/\
   s1.heap.get? a=some {cls:=.ref C,dict:=dx,data:=.fields #[.ref t,.none,.none,.none,.bool false,.none]}/\X.xe (.ref a) s1) X.xe s:=by
  refine O0 (s_1 I hg M.glob ?_ hdb);refine callWith_K0 I.kIn M.kp ?_;have KX:=I.kIn;obtain⟨hh,gg,dr,tk,os⟩:=s;refine cf_0 Y7 (tl hh KX) (KX _ _ lc) (hn hh KX) hi λh' a me za=> ?_;obtain⟨kk,new,t,et,_,_⟩:=me;have I2:Inv X zd σ H ⟨h',gg,dr,tk,os⟩:=I.kept (h':=h') (t':=tk) kk;refine⟨a,t,none,rfl,I2.kIn _ _ lc,et, ?_⟩;exact l1 zd σ H H ⟨hh,gg,dr,tk,os⟩ ⟨h',gg,dr,tk,os⟩ a C none _ _ I I2 et rfl rfl rfl rfl rfl (I.hok.fresh za) za ⟨⟨c,[],[]⟩,G,E.st.gh,.bare M.at_,q σ G H O E (Same.refl _)⟩
 refine A4 (O6 (ay_6 hB (hr.hd rfl) (A4 (D1 mk (λv s3 h3=>A4 (O6 (C5 h3))) λ_ _ x=>x))))
end
end L3
namespace L3
open PySem L2
variable{K:Frag}{fd:FuncData}{mg:AB}{us:List Value}{base:Heap}{H:Hp}{X:Cx}{pos:Pos}
abbrev Ai{a b:Prop}(x:a)(y:b):a/\b:=⟨x,y⟩
def Ao:=Ai @Al.eq_1 (Ai @Av.eq_1 (Ai @Af.eq_1 (Ai @Aj.eq_1 (Ai @gsome.eq_1 (Ai @give1.eq_1 (Ai @ZC6.{0,0} (Ai @List.foldl_nil.{0,0} (Ai @Ap.eq_1 (Ai @By.eq_1 (Ai @Cm.eq_1 (Ai @Ej.eq_1 (Ai @Bi.eq_1 (Ai @Bf.eq_1 (Ai @Au.eq_1 (Ai @gall.eq_1 (Ai @cm_9 (Ai @dl_5 (Ai @dl_6 (Ai @dl_7 (Ai @dl_8 (Ai @dl_9 (Ai @cy_9 (Ai @cz_0 (Ai @cz_1 (Ai @Ag.eq_1 (Ai @Ab.eq_1 (Ai @eC.eq_1 (Ai @Am.eq_1 (Ai @Bh.eq_1 (Ai @Bv.eq_1 (Ai @Bv.eq_2 (Ai @Bv.eq_3 (Ai @Bv.eq_4 (Ai @Bv.eq_5 (Ai @Bv.eq_6 (Ai @Bv.eq_7 (Ai @Dq.eq_1 (Ai @Dq.eq_2 (Ai @Ah.eq_1 (Ai @Bc.eq_1 (Ai @R.calm_ok (Ai @R.calm_no (Ai @R.calm_ex (Ai @Dv.eq_1 (Ai @Dv.eq_2 (Ai @Dv.eq_3 (Ai @Dv.eq_4 (Ai @Dv.eq_5 (Ai @eAttr.eq_1 (Ai @eIsC.eq_1 (Ai @isND.eq_1 (Ai @isND.eq_2 (Ai @nonB.eq_1 (Ai @nonB.eq_2 (Ai @Ac.eq_1 (Ai @Aa.eq_1 (Ai @eTup.eq_1 (Ai @Bn.eq_1 (Ai @eIf.eq_1 (Ai @eAnd.eq_1 (Ai @eOr.eq_1 (Ai @eNot.eq_1 (Ai @tAndF.eq_1 (Ai @Cd.eq_1 (Ai @Cp.eq_1 (Ai @eIs.eq_1 (Ai @bl_8 (Ai @bt_2 (Ai @bl_9 (Ai @bm_0 (Ai @bm_1 (Ai @bm_2 (Ai @bf_3 (Ai @bm_3 (Ai @bf_4 (Ai @bf_5 (Ai @bf_6 (Ai @bf_7 (Ai @bm_4 (Ai @bt_3 (Ai @bm_5 (Ai @bm_6 (Ai @bm_7 (Ai @bm_8 (Ai @bf_8 (Ai @bm_9 (Ai @bf_9 (Ai @bg_0 (Ai @bg_1 (Ai @bg_2 (Ai @av_8 (Ai @bg_3 (Ai @av_9 (Ai @aw_0 (Ai @aw_1 (Ai @aw_2 (Ai @Dw.eq_1 (Ai @oNone.eq_1 (Ai @Fv.eq_1 (Ai @intPart.eq_1 (Ai @intPart.eq_2 (Ai @eMeth.eq_1 (Ai @eMeth0.eq_1 (Ai @tyD.eq_1 (Ai @tyD.eq_2 (Ai @tyD.eq_3 (Ai @tyD.eq_4 (Ai @Aw.eq_1 (Ai @Bo.eq_1 (Ai @Eo.eq_1 (Ai @Eo.eq_2 (Ai @Eo.eq_3 (Ai @Eo.eq_4 (Ai @R.bind_ok (Ai @R.bind_no (Ai @R.bind_ex (Ai @W.d_sh (Ai @W.d_ow (Ai @B1.{0,0} (Ai @M3.{0,0} (Ai @Q8.{0} (Ai @P5.{0} (Ai @D7.{0} (Ai @L7.{0} (Ai @List.replicate_zero.{0} (Ai @C6.{0} (Ai @P6.{0} (Ai @List.set_cons_zero.{0} (Ai @List.set_cons_succ.{0} (Ai @U3.{0} (Ai @R1.{0} (Ai @if_true.{1} (Ai @L9.{1} (Ai @Ay.eq_1 (Ai @Ay.eq_2 (Ai @Ay.eq_3 (Ai @Ay.eq_4 (Ai @Ay.eq_5 (Ai @D8 (Ai @Bool.not_true (Ai @Bool.not_false (Ai @Bool.true_and (Ai @Bool.false_and (Ai @O5 (Ai @O4 (Ai @T3 (Ai @gC.eq_1 (@gV.eq_1))))))))))))))))))))))))))))))))))))))))))))))))))))))))))))))))))))))))))))))))))))))))))))))))))))))))))))))))))))))))))))))))))))))))))))))))))))
end L3
namespace L3
open PySem PySem.Spec PyProof.Rows L2
variable{K:Frag}{fd:FuncData}{mg:AB}{us:List Value}{base:Heap}{H:Hp}{X:Cx}{pos:Pos}
abbrev HBd(c:Bool)(P:Program)(w:World)(K:Frag)(mg:AB)(base:Heap)(N:List Str)(qual:Str)(st:Stmt)(f:Addr)(k:Nat)(g:FS):Prop:=∀{zp:Value} {A:Around} {outer:List Env} {s:Shared} {H:Hp} {E:XK},(Eg c P w K mg base N qual (Cc st) f zp A outer s H E).calm=c->RoomC c k (Cx.A (Eg c P w K mg base N qual (Cc st) f zp A outer s H E))->(Cx.A (Eg c P w K mg base N qual (Cc st) f zp A outer s H E)).units + 64 < cLine->N.Nodup->Lk (Eg c P w K mg base N qual (Cc st) f zp A outer s H E) (λ_=>EXof K E)->
   BD (Eg c P w K mg base N qual (Cc st) f zp A outer s H E) (λ_=>EXof K E) (Fs st) g
def Ch{c:Bool}{P:Program}{w:World}{x qual:Str}{st:Stmt}{f:Addr}{N ps:List Str}{k:Nat}{g:FS}(F:Fun K x qual st f fd)
  (zj:HBd c P w K mg base N qual st f k g) (S:FnScope N ps (Cc st):=by exact⟨rfl,rfl,rfl,by decide +kernel,rfl,by decide +kernel,by decide +kernel⟩):FnX P w K mg base c (k + 1) f fd ps (Br K ps.length (Al N.length g)):=
 fn_D F S λzp A outer s H E hr=>zj rfl hr (RoomC.units hr) S.nd bs_3
def df_0{c:Bool}{P:Program}{w:World}{x qual cn:Str}{st:Stmt}{f C:Addr}{N ps:List Str}{k n:Nat}{g:FS}(F:Fun K x qual st f fd)(hC:ClsAt K cn C)(hn:ps.length=n + 1)(hle:ps.length<=N.length)
  (zj:HBd c P w K mg base N qual st f k g) (S:FnScope N ps (Cc st):=by exact⟨rfl,rfl,rfl,by decide +kernel,rfl,by decide +kernel,by decide +kernel⟩):FnX P w K mg base c (k + 1) f fd ps (spI K C n (az_8 N.length cn g)):=
 fn_I F S hC hn hle λzp A outer s H E hr=>zj rfl hr (RoomC.units hr) S.nd bs_3
def FnAt(K:Frag)(x qual:Str)(st:Stmt)(f:Addr):Prop:=∃fd,Fun K x qual st f fd
def FnAt.mk{x qual:Str}{st:Stmt}{f:Addr}{oc kV dc pm cd ct:Value}{od an:Option Addr}{sl:Array (Option Value)}
  (l:K.lookup f=some ⟨oc,od,.func (fnOf x qual (i_3 st) (Fs st) (Cc st) .none kV dc pm an cd ct),sl⟩) (c:codeIn K cd qual=true) (k:keepIn K (.ref f)=true):FnAt K x qual st f:=⟨_,br_7 l c k⟩
def FnTop(K:Frag)(x:Str)(st:Stmt):Prop:=∃f,PySem.W.nsIn K mainGlobals x=some (some (.ref f))/\FnAt K x x st f
theorem FnTop.mk{x:Str}{st:Stmt}{f:Addr}{oc kV dc pm cd ct:Value}{od an:Option Addr}{sl:Array (Option Value)}(a:PySem.W.nsIn K mainGlobals x=some (some (.ref f)))
  (l:K.lookup f=some ⟨oc,od,.func (fnOf x x (i_3 st) (Fs st) (Cc st) .none kV dc pm an cd ct),sl⟩) (c:codeIn K cd x=true) (k:keepIn K (.ref f)=true):FnTop K x st:=⟨f,a,FnAt.mk l c k⟩
def FnMet(K:Frag)(C:Addr)(x qual:Str)(st:Stmt):Prop:=∃f,findIn K (.ref C) x=some (some (.ref f))/\FnAt K x qual st f/\keepIn K (.ref f)=true/\isFn K (.ref f)=true
theorem FnMet.mk{C:Addr}{x qual:Str}{st:Stmt}{f:Addr}{oc kV dc pm cd ct:Value}{od an:Option Addr}{sl:Array (Option Value)}(a:findIn K (.ref C) x=some (some (.ref f)))
  (l:K.lookup f=some ⟨oc,od,.func (fnOf x qual (i_3 st) (Fs st) (Cc st) .none kV dc pm an cd ct),sl⟩) (c:codeIn K cd qual=true) (k:keepIn K (.ref f)=true) (i:isFn K (.ref f)=true):FnMet K C x qual st:=⟨f,a,FnAt.mk l c k,k,i⟩
section
variable{X:Cx}{EX:Az}{pos:Pos}
end
def bn_5(l:List Int):List Int:=l.mergeSort λa b=>decide (a<=b)
def bn_6{l r:List Int}(hp:r.Perm l)(hs:r.Pairwise (· <= ·)):bn_5 l=r:=by
 have h1:(bn_5 l).Pairwise (λa b=>(decide (a<=b))=true):=List.pairwise_mergeSort (le:=λa b=>decide (a<=b)) (λa b c h1 h2=>F5 (ZC0 (D4 h1) (D4 h2))) (λa b=>by
  rcases ZE0 a b with h|h
  ·simp[h]
  ·simp[h]) l
 refine List.Perm.eq_of_pairwise (le:=λa b:Int=>a<=b) (λa b _ _ h1 h2=>Int.le_antisymm h1 h2) (h1.imp λh=>D4 h) hs ?_;exact(List.mergeSort_perm l _).trans hp.symm
def ba_2:List D->R W
 | [.lst ds]=>(match u_3 ds with
  |some is=>if is.length < 64 then .ok (.ow (.lst ((bn_5 is).map λi=> .int i))) else .no
  |none=> .no)
 |_=> .no
theorem ba_3:∀{us:List Value} {is:List Int},IntsAre us is->Vals (is.map λi=>V.int i) us
 |_,_,.nil=> .nil
 |_,_,.cons n t r=> .cons ⟨t,rfl⟩ (ba_3 r)
theorem bn_7{G:Hp}:∀is:List Int,HasL K G (is.map λi=>V.int i) (is.map λi=>D.int i)
 | []=> .nil
 |_::r=> .cons (.int _) (bn_7 r)
section
variable{X:Cx}{EX:Az}{pos:Pos}
def bt_8(_hc:X.calm=true):Fe X (.builtin "sorted") ba_2:=by
 intro zd s σ H vs us Q I rv q;obtain⟨EX,G,ds,g,r,o⟩:=q;cases r with
 |nil=>exact False.elim o
 |cons h t=>
  cases t with
  |cons _ _=>cases h <;> exact False.elim o
  |nil=>
   cases h with
   |lst h r=>
    rename_i l _ _;simp only[ba_2]at o
    split at o
    ·rename_i is e
     split at o
     ·rename_i hl;obtain⟨u,rfl,ru⟩:=rv.one;cases ru;obtain⟨its,rv',pl,hz⟩:=I.list (g.seq h);have ia:=ar_0 r rv' e;have il:its.length=is.length:=ia.length;refine sorted_ints pl.isList ia () λout ns' a1 a2 a3=> ?_;obtain⟨c,hat⟩:=sortedAll_at s.heap its out;have en:bn_5 is=ns':=bn_6 a2 a3;rw[en]at o;have rv2:=ba_3 a1;have fr:=I.hok.fresh (N5 s.heap.objs.size);refine⟨.ref _,upd H _ (.lst _),I.laid (t':=s.toks) (λ_ _=>sortedAll_old) (N5 _) ⟨?_,out.toList,c,rv2,by simpa using hat⟩,rfl,q_3 o g (bn_7 ns') _ fr⟩;rw[A3,a2.length_eq,D2];omega
     ·exact o.elim
    ·exact o.elim
   |_=>exact False.elim o
end
section
variable{X:Cx}{EX:Az}
end
end L3
namespace PySem
open PyProof.Rows (IsTup)
namespace F
end F
def Heap.IsRvd(h:Heap)(a t:Addr)(i:Int):Prop:=∃o,h.get? a=some o/\o.cls=.type "reversed" /\o.data=.fields #[.ref t,rawInt i]
def cn_6{h h':Heap}{a:Addr}{items:Array Value}(x:IsTup h a items)(e:∀o,h.get? a=some o->h'.get? a=some o):IsTup h' a items:=x.elim λo z=>⟨o,e o z.1,z.2⟩
open AutoSeq1 (wpAny_loadPart')
section
variable{prog:Program}{w:World}{A:Around}{E:AA}{s:Shared}
def Heap.IsRvd.ty{a l:Addr}{i:Int}(x:s.heap.IsRvd a l i):s.TypeIs (.ref a) "reversed" :=x.elim λo z=>⟨o,z.1,z.2.1⟩
end
end PySem
namespace L3
open PySem PySem.Spec PyProof.Rows L2
variable{K:Frag}{fd:FuncData}{mg:AB}{us:List Value}{base:Heap}{H:Hp}{X:Cx}{pos:Pos}
theorem HasL.app{G:Hp}:∀{vs us:List V} {ds es:List D},HasL K G vs ds->HasL K G us es->HasL K G (vs ++ us) (ds ++ es)
 |_,_,_,_,.nil,h=>h
 |_,_,_,_,.cons a r,h=> .cons a (HasL.app r h)
theorem HasL.rev{G:Hp}:∀{vs:List V} {ds:List D},HasL K G vs ds->HasL K G vs.reverse ds.reverse
 |_,_,.nil=> .nil
 |_,_,.cons a r=>by rw[Q0,Q0];exact r.rev.app (.cons a .nil)
theorem Vals.app2:∀{vs vs':List V} {us us':List Value},Vals vs us->Vals vs' us'->Vals (vs ++ vs') (us ++ us')
 |_,_,_,_,.nil,h=>h
 |_,_,_,_,.cons a r,h=> .cons a (Vals.app2 r h)
theorem Vals.rev:∀{vs:List V} {us:List Value},Vals vs us->Vals vs.reverse us.reverse
 |_,_,.nil=> .nil
 |_,_,.cons a r=>by rw[Q0,Q0];exact Vals.app2 (Vals.rev r) (.cons a .nil)
section
variable{X:Cx}{EX:Az}{a:Expr}{f:FE}{p p' pos pos':Pos}
end
end L3
namespace HT
open PySem PyProof.Rows
section
variable{prog:Program}{w:World}{A:Around}{E:AA}{s:Shared}
end
end HT
namespace L3
open PySem PySem.Spec PyProof.Rows L2
variable{K:Frag}{fd:FuncData}{mg:AB}{us:List Value}{base:Heap}{H:Hp}{X:Cx}{pos:Pos}
section
variable{X:Cx}{EX:Az}{e:Expr}{f:FE}{pos p2:Pos}
end
def Ec(i:Int):List Int->Int
 | []=>i
 |j::r=>Ec (if i < j then j else i) r
theorem ao_4:∀(r:List Int) (i:Int),i<=Ec i r/\∀j∈r,j<=Ec i r
 | [],i=>⟨Int.le_refl _,λj h=>by simp at h⟩
 |a::r,i=>by
  obtain⟨h1,h2⟩:=ao_4 r (if i < a then a else i);have h3:i<=(if i < a then a else i)/\a<=(if i < a then a else i):=by split <;> omega
  refine⟨ZC0 h3.1 h1,λj hj=> ?_⟩;rcases C4.mp hj with rfl|hj
  ·exact ZC0 h3.2 h1
  ·exact h2 j hj
theorem ar_9:∀(r:List Int) (i:Int),Ec i r∈i::r
 | [],i=>by simp[Ec]
 |a::r,i=>by
  have h:=ar_9 r (if i < a then a else i);show Ec (if i < a then a else i) r∈i::a::r;rcases C4.mp h with e|h
  ·rw[e];split <;> simp
  ·exact D3 _ (D3 _ h)
def da_0{i m:Int}{r:List Int}(h1:m∈i::r)(h2:∀j∈i::r,j<=m):m=Ec i r:=by
 refine Int.le_antisymm ?_ (h2 _ (ar_9 r i));rcases C4.mp h1 with e|h
 ·rw[e];exact(ao_4 r i).1
 ·exact(ao_4 r i).2 m h
def bn_8{i:Int}{is:List Int}{n:Nat}(hn:n=is.length):(i::is).getD (argBest (λa b=>decide ((i::is).getD a 0 > (i::is).getD b 0)) n) 0=Ec i is:=by
 subst hn;obtain⟨b1,b2⟩:=argBest_gt (λj=>(i::is).getD j 0) is.length;refine da_0 ?_ λj hj=> ?_
 ·rw[F0,B6 (Nat.lt_succ_of_le b1)];exact W3 _
 ·obtain⟨k,hk,rfl⟩:=List.mem_iff_getElem.mp hj;have:=b2 k (Nat.le_of_lt_succ hk);rw[show(i::is)[k]=(i::is).getD k 0 by rw[F0,B6 hk];rfl];exact this
def Fk:List D->R W
 | [.lst ds]=>(match u_3 ds with
  |some (i::is)=> .ok (.sh (.int (Ec i is)))
  |_=> .no)
 | [.tup ds]=>(match u_3 ds with
  |some (i::is)=> .ok (.sh (.int (Ec i is)))
  |_=> .no)
 |_=> .no
section
variable{X:Cx}{EX:Az}{pos:Pos}
def cf_2(hc:X.calm=true):Fe X (.builtin "max") Fk:=by
 intro zd s σ H vs us Q I rv q;obtain⟨EX,G,ds,g,r,o⟩:=q;cases r with
 |nil=>exact False.elim o
 |cons h t=>
  cases t with
  |cons _ _=>cases h <;> exact False.elim o
  |nil=>
   cases h with
   |lst h r=>
    rename_i l _ _;simp only[Fk]at o
    split at o
    ·rename_i i is e;obtain⟨u,rfl,ru⟩:=rv.one;cases ru;obtain⟨its,rv',pl,hz⟩:=I.list (g.seq h);obtain⟨el,ev⟩:=be_6 r rv' e;have ll:l < s.heap.objs.size:=by
      obtain⟨o',ho,_⟩:=pl.isList;exact A6 ho
     refine call_max_walk (Z5 pl.isList ⟨s.heap.objs.size,_,_,_,_,_,λa b=>decide ((i::is).getD a 0 > (i::is).getD b 0),rfl,Walks.list (A:=X.A.in1) (I.ok.hd hc) s.heap.objs.size l (B4 ll) its.toArray,⟨⟨_,B8 _ rfl,rfl,rfl⟩, ?_⟩,λb hb=> ?_, ?_,CmpOf.ints_gt (λj=>(i::is).getD j 0) (λj v hP=>ev j v (by simpa using hP)),λv h' tk hP hk=> ?_⟩)
     ·exact pl.isList.at λo z=>A5 _ z
     ·rw[K9];have hb':b=s.heap.objs.size\/b=l:=by simpa using hb
      rcases hb' with rfl|rfl
      ·exact Q7 _
      ·exact V0 ll
     ·simp[el]
     ·have hP':=hP;rw[List.getElem?_toArray]at hP';obtain⟨t,rfl⟩:=ev _ v hP';rw[bn_8 (by simp[el])];refine⟨.int _,H,I.kept (t':=tk) λb o' z=>hk b o' (by
       have hb:b≠s.heap.objs.size:=B4 (A6 z);simpa using hb) (A5 _ z),⟨t,rfl⟩,Cq o g (.int _)⟩
    ·exact o.elim
   |tup h r=>
    rename_i l _ _;simp only[Fk]at o
    split at o
    ·rename_i i is e;obtain⟨u,rfl,ru⟩:=rv.one;cases ru;obtain⟨its,rv',pl,hz⟩:=I.tuple (Same.tupS g h);obtain⟨el,ev⟩:=be_6 r rv' e;have ll:l < s.heap.objs.size:=by
      obtain⟨o',ho,_⟩:=pl;exact A6 ho
     refine call_max_walk (wpAny_pyIter_tuple pl ⟨s.heap.objs.size,_,_,_,_,_,λa b=>decide ((i::is).getD a 0 > (i::is).getD b 0),rfl,Walks.tuple (A:=X.A.in1) (I.ok.hd hc) s.heap.objs.size l (B4 ll) its.toArray,⟨⟨_,B8 _ rfl,rfl,rfl⟩, ?_⟩,λb hb=> ?_, ?_,CmpOf.ints_gt (λj=>(i::is).getD j 0) (λj v hP=>ev j v (by simpa using hP)),λv h' tk hP hk=> ?_⟩)
     ·exact cn_6 pl λo z=>A5 _ z
     ·rw[K9];have hb':b=s.heap.objs.size\/b=l:=by simpa using hb
      rcases hb' with rfl|rfl
      ·exact Q7 _
      ·exact V0 ll
     ·simp[el]
     ·have hP':=hP;rw[List.getElem?_toArray]at hP';obtain⟨t,rfl⟩:=ev _ v hP';rw[bn_8 (by simp[el])];refine⟨.int _,H,I.kept (t':=tk) λb o' z=>hk b o' (by
       have hb:b≠s.heap.objs.size:=B4 (A6 z);simpa using hb) (A5 _ z),⟨t,rfl⟩,Cq o g (.int _)⟩
    ·exact o.elim
   |_=>exact False.elim o
end
def Tn.flat:Tn->Option (List D)
 | .lst ts=>unT ts
 |_=>none
def Tn.kid(t:Tn)(n:Nat):Option (List D):=match t with
 | .lst ts=>(ts[n]?).bind Tn.flat
 | .tup ts=>(ts[n]?).bind Tn.flat
 |_=>none
def Tn.setKid(t:Tn)(n:Nat)(ds:List D):Tn:=match t with
 | .lst ts=> .lst (ts.set n (Tn.of (.lst ds)))
 | .tup ts=> .tup (ts.set n (Tn.of (.lst ds)))
 |t=>t
def Tn.flat_some{t:Tn}{ds:List D}(e:t.flat=some ds):t=Tn.of (.lst ds):=by
 cases t with
 |lst ts=>
  have e:unT ts=some ds:=e;rw[ar_6 e];rfl
 |_=>cases e
section
variable{K:Frag}{G H:Hp}
def OwL.kid{vs:List V}{ts:List Tn}{S:AS}{n:Nat}{ds:List D}(r:OwL K G H vs ts S)(e:(ts[n]?).bind Tn.flat=some ds):∃c cs,vs[n]? =some (.ref c)/\S c/\H c=some (.lst cs)/\HasL K G cs ds/\
  ∀{H':Hp} {cs':List V} {ds':List D},(∀b o,S b->b≠c->H b=some o->H' b=some o)->H' c=some (.lst cs')->HasL K G cs' ds'->OwL K G H' vs (ts.set n (Tn.of (.lst ds'))) S:=by
 obtain⟨t,e1,e2⟩:=U4.mp e;obtain⟨v,S1,e3,h,i,f⟩:=OwL.focus r e1;rw[Tn.flat_some e2]at h;obtain⟨c,cs,rfl,m,hH,rl⟩:=h.list_of;refine⟨c,cs,e3,i c m,hH,rl,λ{H' cs' ds'} g hc r'=>f (λb o hb nb q=>g b o hb (λz=>nb (by rw[z];exact m)) q) (Ow.list hc m r')⟩
theorem Ow.kid{v:V}{t:Tn}{S:AS}{n:Nat}{ds:List D}(o:Ow K G H v t S)(e:t.kid n=some ds):∃a vs c cs,v=.ref a/\(H a=some (.lst vs)\/H a=some (.tup vs))/\vs[n]? =some (.ref c)/\S c/\c≠a/\H c=some (.lst cs)/\HasL K G cs ds/\
  ∀{H':Hp} {cs':List V} {ds':List D},(∀b o,S b->b≠c->H b=some o->H' b=some o)->H' c=some (.lst cs')->HasL K G cs' ds'->Ow K G H' v (t.setKid n ds') S:=by
 cases o with
 |lst h ha sub r=>
  obtain⟨c,cs,e1,m,hc,rl,f⟩:=r.kid e;exact⟨_,_,c,cs,rfl,.inl h,e1,(sub c m).1,(sub c m).2,hc,rl,λ{H' cs' ds'} g hc' r'=> .lst (g _ _ ha (Ne.symm (sub c m).2) h) ha sub (f (λb o hb nb q=>g b o (sub b hb).1 nb q) hc' r')⟩
 |tup h ha sub r=>
  obtain⟨c,cs,e1,m,hc,rl,f⟩:=r.kid e;exact⟨_,_,c,cs,rfl,.inr h,e1,(sub c m).1,(sub c m).2,hc,rl,λ{H' cs' ds'} g hc' r'=> .tup (g _ _ ha (Ne.symm (sub c m).2) h) ha sub (f (λb o hb nb q=>g b o (sub b hb).1 nb q) hc' r')⟩
 |_=>cases e
end
section
variable{X:Cx}{EX:Az}{pos:Pos}
def rIxQ(K:Frag):R2:=λx y H Q=>rIxL K x y H Q\/rIxT K x y H Q
def ix_q:IxR X (rIxQ X.K):=by
 intro value slice zd s σ H x y v u Q I rx ry h hs;rcases h with h|h
 ·exact bw_6 value slice zd s σ H x y v u Q I rx ry h hs
 ·exact ci_3 value slice zd s σ H x y v u Q I rx ry h hs
def by_4{α:Type}{xs:List α}{n:Nat}{x:α}(h:xs[n]? =some x):atI xs (n:Int)=some x:=by
 have hn:n < xs.length:=(B2.mp h).1;unfold atI ixN;rw[if_pos (),if_pos ()];exact h
def rIxQ.at{Q:VK}{a:Addr}{vs:List V}{n:Nat}{v:V}(h:H a=some (.lst vs)\/H a=some (.tup vs))(e:vs[n]? =some v)(q:Q v H):rIxQ K (.ref a) (.int (n:Int)) H Q:=by
 rcases h with h|h
 ·exact .inl ⟨a,vs,n,v,rfl,rfl,SqL.of h,by_4 e,q⟩
 ·exact .inr ⟨a,vs,n,v,rfl,rfl,SqT.of h,by_4 e,q⟩
end
section
variable{K:Frag}{G:Hp}{A:AS}{p:List D->Bool}
end
section
variable{X:Cx}{EX:Az}{pos:Pos}
end
end L3
namespace PySem
open AutoSeq1 (wpAny_loadPart')
namespace F
end F
section
variable{prog:Program}{w:World}{A:Around}{E:AA}{s:Shared}
def Heap.SetIt(h:Heap)(I S:Addr)(f:Value)(i n ep:Nat):Prop:=∃o,h.get? I=some o/\o.cls=.type "set_iterator" /\o.data=.fields #[f,rawInt i,.ref S,rawInt n,rawInt ep]
def Heap.SetIt.ty{I S:Addr}{f:Value}{i n ep:Nat}(x:s.heap.SetIt I S f i n ep):s.TypeIs (.ref I) "set_iterator" :=x.elim λo z=>⟨o,z.1,z.2.1⟩
end
end PySem
namespace L3
open PySem PySem.Spec PyProof.Rows L2
variable{K:Frag}{fd:FuncData}{mg:AB}{us:List Value}{base:Heap}{H:Hp}{X:Cx}{pos:Pos}
def gcM{EX:Az}{i:Nat}{x:Str}(hN:decide X.N.Nodup=true:=by rfl')(hi:X.N[i]? =some x:=by rfl)(hx:Loc X.env.scope x:=by trivial)
  (hf:X.fn x=true\/X.env.scope.names.lookup x=some .local:=by trivial):GC X EX (.Name x pos) (gC i):=cw_8 (D4 hN) hi hx hf
structure BaseI(K:Frag)(B f:Addr):Prop where
 sp:specialIn K (.ref B) "__getattribute__" =some (some (.builtin "type.__getattribute__"))
 rd:readsIn K B (.type "type")=true
 at_:findCls K (.ref B) (.type "type") "__init__" =some (.val (.ref f))
 kp:keepIn K (.ref f)=true
def MakB(P:Program)(w:World)(K:Frag)(mg:AB)(base:Heap)(cc:Bool)(b c:Str)(k n:Nat)(F:List D->R (List Str×List D)):Prop:=
 ∃B C f fd ps,ClsAt K c C/\mg b=some (.ref B)/\BaseI K B f/\FnX P w K mg base cc k f fd ps (spI K C n F)/\Binds K fd ps []
def ai_5(i:Nat)(c:Str)(js:List Nat)(F:List D->R (List Str×List D))(fe:FE):FS:=λ Δ=>match(gsome js Δ)[i]? with
 |some (.lt (.obj c' [] []))=>if c'=c then(match fe (Bf (gsome js Δ)) with
  | .ok w=>(match F [w.d] with
   | .ok p=> .nx ((gsome js Δ).set i (.lt (.obj c p.1 (p.2.map .sh))))
   |_=> .no)
  | .ex x=> .ex x (gsome js Δ)
  | .no=> .no) else .no
 |_=> .no
section
variable{X:Cx}{EX:Az}{e:Expr}{es:List Expr}{x:Str}{pp zh pos:Pos}{cc:Bool}{k k' n:Nat}{ps:List Str}
def cn_7{sp:Sp}{t:TA}{B f:Addr}{pl:Sem Bool}(b:BaseI X.K B f)(hr:RoomC cc k X.A)(lk:Lk X EX)(ok:FnX X.prog X.w X.K X.mg X.base cc k f fd ps sp)(hb:Binds X.K fd ps [])(hm:X.mg x=some (.ref B))(hg:Gl X x)(hdb:AG x)(ha:PA X (e::es) t)
  (hst:starEach (e::es) X.env=(false,eval e X.env)::starEach es X.env) (hpl:(backTo pos (starEach es X.env)).any (·.1)=false)
  (ht:eval (.Call (.Attribute (.Name x pp) "__init__" zh) (e::es) [] pos) X.env=(do
   let ov<-eval (.Name x pp) X.env
   standAt zh.atName
   let(f,first)<-holding [ov] (getMethod ov "__init__" pl)
   callWith pos f first (backTo pos (starEach (e::es) X.env)) (backToKw pos (keywordEach [] X.env)))):
  PE X (.Call (.Attribute (.Name x pp) "__init__" zh) (e::es) [] pos) (λ σ H Q=>t σ H λvs H1=>sp vs H1 Q (EXE X.K (EX σ))):=by
 intro zd s σ H Q I q;refine Z7 (pl:=pl) (s_1 I hg hm ?_ hdb) ht;refine method_cls I.kIn b.sp (cls_value I.kIn b.rd b.at_ rfl ?_);refine Y2 (first:=[]) (h₀:=X.base) I.ok.mod.kin b.kp (Ax (ha pos zd _ σ H _ (I.tok _) q) λus s1 ⟨vs,H1,I1,r,q⟩=>⟨I1.kIn, ?_⟩) hst hpl;exact an_9 ok hr hb lk I1 r q
def cn_8{i:Nat}{c y:Str}(js:List Nat){fe:FE}{F:List D->R (List Str×List D)}{p3 fm:Pos}{pl:Sem Bool}(hr:RoomC cc k' X.A)(lk:Lk X EX)(h:MakB X.prog X.w X.K X.mg X.base cc x c k 1 F)(he:ED X EX e fe)(hk:k<=k':=by decide)
  (hN:X.N[i]? =some y:=by rfl) (hv:Vis X.env.scope y:=by trivial) (hd:AG y:=by decide) (hcd:(y ==("__classdict__" :Str))=false:=by decide)
  (hg:Gl X x:=by rfl) (hdb:AG x:=by decide) (hs1:starEach [.Name y p3,e] X.env=(false,eval (.Name y p3) X.env)::starEach [e] X.env:=by rfl) (hs2:starEach [e] X.env=(false,eval e X.env)::starEach [] X.env:=by rfl)
  (hpl:(backTo pos (starEach [e] X.env)).any (·.1)=false:=by rfl) (jf:swapsWith (.Call (.Attribute (.Name x pp) "__init__" zh) [.Name y p3,e] [] pos) none fm.line X.env=pure false:=by rfl)
  (ht:eval (.Call (.Attribute (.Name x pp) "__init__" zh) [.Name y p3,e] [] pos) X.env=(do
   let ov<-eval (.Name x pp) X.env
   standAt zh.atName
   let(f,first)<-holding [ov] (getMethod ov "__init__" pl)
   callWith pos f first (backTo pos (starEach [.Name y p3,e] X.env)) (backToKw pos (keywordEach [] X.env))):=by rfl):
  SD X EX (.Expr (.Call (.Attribute (.Name x pp) "__init__" zh) [.Name y p3,e] [] pos) fm) (ai_5 i c js F fe):=by
 obtain⟨B,C,f,fd,ps,hC,hm,b,ok,hb⟩:=h;refine PS.imp (z_8 (cn_7 b (hr.mono hk) lk ok hb hm hg hdb (j_9 (l_5 hN hv hd hcd) (j_9 he p_4 hs2) hs1) hs1 hpl ht) jf) λD σ H ⟨H0,G0,G,Δ,O,E,q⟩=> ?_;obtain⟨G1,O1,sg,E1⟩:=E.gsome js;unfold ai_5 at q;generalize gsome js Δ=Δ1 at q E1
 split at q
 ·rename_i c' e1
  split at q
  ·rename_i hcc;subst hcc;obtain⟨v0,s1,t0⟩:=E1.ow i _ _ e1 rfl;refine⟨v0,s1,G1,Bf Δ1,E1.st.gh,E1.gsh, ?_⟩;cases e2:fe (Bf Δ1) with
   |ex y=>simp only[e2]at q;exact q σ G1 H O1 E1 sg
   |no=>simp only[e2]at q;exact q.elim
   |ok w=>
    simp only[e2]at q;refine WP.intro λv G2 H2 st r=> ?_;have E2:=E1.grow st;obtain⟨v1,s1',t⟩:=E2.ow i _ _ e1 rfl;rw[s1]at s1';cases s1';have s2:=E2.lt i _ e1
    split at q
    ·rename_i p ef;generalize et:(Tn.obj c' [] [])=tt at t;cases t with
     | @obj a C2 dx c2 ns2 us ts2 S S1 hC2 h hl ha sub rl=>
      injection et with et1 et2 et3
      subst et1 et2 et3;have:=hC.same hC2;subst this;have:us= []:=by cases us with|nil=>rfl|cons _ _=>simp at hl
      subst this;have ga:=(E2.out i a ha).1;refine⟨a,dx,[v],λb=>if b=a then none else H2 b,G2,[w.d],rfl,rfl,if_pos rfl,λb o z=> ?_,h,λb o z=> ?_,.cons r .nil, ?_⟩
      ·simp only at z
       split at z
       ·cases z
       ·exact z
      ·simp only;rw[if_neg (Co z ga)];exact E2.st.gh b o z
      rw[ef];intro G' H' us' dx' ms g' hx zk rr;have nb:∀b,¬O1 i b->b≠a:=λb nb w=>nb (by rw[w];exact ha);refine q σ G' H' _ (E2.step2 (S:=λb=>b=a) (z:=.lt _) rfl (λ_ z=>by cases z) (λ_ _=>s2) ⟨λb o n z=>ms.hh b o (by rw[if_neg (nb b n)];exact z),ms.gh,ms.gg,λb n z1 z2=>ms.nw b z1 (by rw[if_neg (nb b n)];exact z2)⟩ s1 (λb hb=> ?_) ?_) (sg.trans (st.gg.trans ms.gg))
      ·subst hb;exact⟨.inl ha,g',by rw[hx];simp⟩
      ·exact .obj (S1:=λ_=>False) hC hx zk rfl (λ_ z=>z.elim) (OwL.of rr)
     |_=>cases et
    ·exact q.elim
  ·exact q.elim
 ·exact q.elim
end
def FnBase(K:Frag)(B:Addr)(qual:Str)(st:Stmt):Prop:=∃f,BaseI K B f/\FnAt K "__init__" qual st f
theorem FnBase.mk{B:Addr}{qual:Str}{st:Stmt}{f:Addr}{oc kV dc pm cd ct:Value}{od an:Option Addr}{sl:Array (Option Value)}(s:specialIn K (.ref B) "__getattribute__" =some (some (.builtin "type.__getattribute__")))(r:readsIn K B (.type "type")=true)
  (a:findCls K (.ref B) (.type "type") "__init__" =some (.val (.ref f)))
  (l:K.lookup f=some ⟨oc,od,.func (fnOf "__init__" qual (i_3 st) (Fs st) (Cc st) .none kV dc pm an cd ct),sl⟩) (c:codeIn K cd qual=true) (k:keepIn K (.ref f)=true):FnBase K B qual st:=⟨f,⟨s,r,a,k⟩,FnAt.mk l c k⟩
def Step.wr{G H G' H':Hp}{a:Addr}{o:HO}(s:Step G H G' H')(n:H a=none)(g:G' a=none):Step G H G' (L2.upd H' a o):=
 ⟨λb u z=>by rw[Aq (Co z n)];exact s.hh b u z,λb u z=>by rw[Aq (Co z g)];exact s.gh b u z,s.gg,s.nw⟩
def bn_9(fe f:FE):FS:=λ Δ=>match fe (Bf Δ) with
 | .ok (.ow (.lst ds))=>if ds.length < 16777216 then(match f (Bf Δ) with
  | .ok _=> .nx Δ
  |_=> .no) else .no
 |_=> .no
def da_1{EX:Az}{o e:Expr}{fe f:FE}{zh zf pos:Pos}(ho:ED X EX o fe)(he:ED X EX e f)
  (hsw:swapsWith (.Call (.Attribute o "append" zh) [e] [] zf) none pos.line X.env=pure false:=by rfl)
  (ag:attributeBase o "append" X.env (eval o X.env)=eval o X.env:=by rfl)
  (ax:((backTo zf (starEach [e] X.env)).all (λx=> !x.1) && (backToKw zf (keywordEach [] X.env)).all (λx=>x.1.isSome)
   && decide ([e].length + ([]:List Keyword).length + (if([]:List Keyword).isEmpty then 0 else 1) < 30))=true:=by rfl)
  (af:(zh.endLine ==zf.line)=true:=by rfl) (hs:starEach [e] X.env=(false,eval e X.env)::starEach [] X.env:=by rfl) (aa:(backTo zf (starEach [] X.env)).any (·.1)=false:=by rfl):
  SD X EX (.Expr (.Call (.Attribute o "append" zh) [e] [] zf) pos) (bn_9 fe f):=
 PS.imp (z_8 (bj_8 Q9 Q4 Q5 q_8 ho (j_9 he p_4 hs) ag ax af hs aa) hsw) λD σ H ⟨H0,G0,G,Δ,O,E,q⟩=>by
  unfold bn_9 at q;refine⟨G,Bf Δ,E.st.gh,E.gsh, ?_⟩
  split at q
  ·rename_i ds e1;rw[e1]
   split at q
   ·rename_i hz;intro v S G1 H1 st fr t;obtain⟨a,vs,rfl,ha,hH,r⟩:=t.list_of;obtain⟨na,ga,la⟩:=fr a ha;have E1:=E.grow st;refine⟨.inl ⟨rfl,_,SqL.of hH⟩,G1,Bf Δ,st.gh,E1.gsh, ?_⟩;cases e2:f (Bf Δ) with
    |ex x=>simp only[e2]at q;exact q.elim
    |no=>simp only[e2]at q;exact q.elim
    |ok w=>
     simp only[e2]at q;refine WP.intro λy G2 H2 st2 r2=> ?_;refine⟨a,vs,y,rfl,rfl,st2.hh _ _ hH,by rw[r.length,D2];exact hz, ?_⟩;have st3:=Step.wr (a:=a) (o:=.lst (vs ++ [y])) (st.trans st2) na (st2.nw a ga la);exact q σ G2 _ _ (E.grow st3) st3.gg
   ·exact q.elim
  ·exact q.elim
end L3
namespace PySem
namespace F
def slot_lri_hint:Slot "list_reverseiterator" "__length_hint__" "list_reverseiterator.__length_hint__" :=Slot.of (owner:= "list_reverseiterator") (n:= "__length_hint__") (by simp only[ZC8,V8];rfl') nofun nofun nofun (.inr nofun) (by simp only[Y8];rfl')
def lri_no_len:typeLookup (.type "list_reverseiterator") "__len__" =pure none:=by simp only[ZC8,V8];rfl'
def sub_lri_self:isSubtype (.type "list_reverseiterator") (.type "list_reverseiterator")=pure true:=by simp only[Y8];rfl'
end F
section
variable{prog:Program}{w:World}{A:Around}{E:AA}{s:Shared}
def cn_9{it l:Addr}{i:Int}{Q:Bool->Shared->Prop}(hit:s.heap.IsRevIter it l i)(h:Q false s):wpAny (model prog w) A (Builtin.List.listLengthHint (.ref it)) Q E s:=by
 have T:=hit.typeIs;have l3:splitId "list_reverseiterator.__length_hint__" =some ("list_reverseiterator","__length_hint__"):=by decide +kernel
 unfold Builtin.List.listLengthHint;refine A4 (X3 T F.lri_no_len ?_);change wpAny _ _ (specialOf _ "__length_hint__" >>=_) _ _ _;refine A4 (X3 T F.slot_lri_hint.lookup ?_);dsimp only;rw[l3];dsimp only;refine A4 (wpAny_isInstance T F.sub_lri_self ?_);rw[if_neg ⋯,if_pos nofun,if_neg ⋯];exact C5 h
def co_0{R:Result->Shared->Prop}{I l S:Addr}{items:Array Value}(hh:A.handled=none)(hit:s.heap.IsRevIter I l ((items.size:Int) - 1))(hl:s.heap.IsList l items)(hne:l≠I)(hz:items.size<=16777216)
  (hSI:S≠I) (hSl:S≠l) (hS:s.heap.get? S=some {cls:=.type "list",data:=.seq #[]})
  (hR:∀h' tk zn c,(∀b o,b≠S->b≠I->s.heap.get? b=some o->h'.get? b=some o)->h'.get? S=some {cls:=.type "list",dict:=none,data:=.seq zn c,slots:= #[]}->
   ItemsOf (λi v=>items[items.size - 1 - i]? =some v) zn items.size->R (.ok (.ret .none)) {s with heap:=h',toks:=tk}):
  wpAny (model prog w) A.in1 (Builtin.«list.__init__» ⟨[.ref S,.ref I],[]⟩)
   (λfin s'=>match fin with| .done f=>R (.ok f) s'| .again c'=>c'.quiet=true/\codeAny (model prog w) A c' R s') (λe s'=>R (.error e) s') s:=by
 have W:=(Walks.listRev (prog:=prog) (w:=w) (A:=A.in1) hh I l hne items).toS;obtain⟨hp,g,d,tk,os⟩:=s;have n0:=N7 (Obj.mapSeq (λ_=>(#[]:Array Value))) hS rfl;have k0:∀b o,b≠S->hp.get? b=some o->(hp.update S (Obj.mapSeq (λ_=>(#[]:Array Value)))).get? b=some o:=λb o hb z=>(F3 _ _ (Ne.symm hb)).trans z;have bw:=hit.at (h':=hp.update S (Obj.mapSeq (λ_=>(#[]:Array Value)))) (λo=>k0 I o (Ne.symm hSI));have hl0:=hl.at (h':=hp.update S (Obj.mapSeq (λ_=>(#[]:Array Value)))) (λo=>k0 l o (Ne.symm hSl));show wpAny _ _ (do let old<-Builtin.List.listItems (.ref S);Builtin.List.listUpdate (.ref S) (λ_=> #[]);letGo old.toList.reverse;Builtin.List.listExtendWith (.ref S) (.ref I) .none) _ _ _;unfold Builtin.List.listItems;refine A4 (A4 (wpAny_seqItems hS rfl (C5 (A4 (wpAny_updateSeq hS rfl (A4 (wpAny_letGo ?_)))))));generalize hp.update S (Obj.mapSeq (λ_=>(#[]:Array Value)))=h1 at n0 k0 bw hl0⊢;have q:Builtin.List.listSameRef (.ref S) (.ref I)=false:=by simp[Builtin.List.listSameRef,hSI]
 have T:=bw.typeIs (s:=⟨h1,g,d,tk,os⟩);unfold Builtin.List.listExtendWith;refine A4 (wpAny_typeOf T ?_);rw[q];refine A4 (wpAny_pyIter_revIter (s:=⟨h1,g,d,tk,os⟩) bw (A4 (M7 (cn_9 (s:=⟨h1,g,d,tk,os⟩) bw ?_))))
 wp_walk
 refine⟨ZD4 F.plain_extend_loop _,codeAny_extend_loopS W (by unfold sizeLine;omega) S ?_ .none items.size 0 _ #[] _ rfl (F7 _) ⟨F7 _, ?_,hl0⟩ n0 (ItemsOf.nil _) λs' zn c mv fin all=> ?_⟩
 ·simp[hSI,hSl]
 ·rw[show(items.size:Int) - 1 - ((0:Nat):Int)=(items.size:Int) - 1 by omega];exact bw
 ·obtain⟨m1,m2,m3,m4,m5⟩:=mv;obtain⟨hp',g',d',tk',os'⟩:=s';cases m2;cases m3;cases m4;exact hR hp' tk' zn c (λb o hb hi z=>m1 b o (by simp[hb,hi]) (k0 b o hb z)) fin all
def aw_4{I l:Addr}{items:Array Value}{Q:AA}(hh:A.handled=none)(hit:s.heap.IsRevIter I l ((items.size:Int) - 1))(hl:s.heap.IsList l items)(hne:l≠I)(hz:items.size<=16777216)
  (hQ:∀h' tk zn c,(∀b o,b≠I->s.heap.get? b=some o->h'.get? b=some o)->h'.get? s.heap.objs.size=some {cls:=.type "list",dict:=none,data:=.seq zn c,slots:= #[]}->
   ItemsOf (λi v=>items[items.size - 1 - i]? =some v) zn items.size->Q (.ref s.heap.objs.size) {s with heap:=h',toks:=tk}):
  wpAny (model prog w) A (call (.type "list") [.ref I]) Q E s:=by
 have lI:I < s.heap.objs.size:=hit.elim λ_ z=>A6 z.1;have ll:l < s.heap.objs.size:=hl.elim λ_ z=>A6 z.1;refine callType_codes (Q₁:=λobj s₁=>obj=.ref s.heap.objs.size/\s₁={s with heap:=s.heap.push {cls:=.type "list",data:=.seq #[]}}) F.called_list (F.typeCall_list_1 _) F.entry_list_init
  (code_list_new _ ⟨rfl,rfl⟩) λobj s₁ h₁=> ?_
 obtain⟨rfl,rfl⟩:=h₁;have new:=B8 s.heap (o:={cls:=.type "list",data:=.seq #[]}) rfl;have grow:∀b o,s.heap.get? b=some o->(s.heap.push {cls:=.type "list",data:=.seq #[]}).get? b=some o:=λ_ _ z=>A5 _ z;refine⟨⟨_,new,rfl⟩,F.args_list_init_2 _ _,co_0 (A:=A.in1) (s:={s with heap:=s.heap.push {cls:=.type "list",data:=.seq #[]}}) hh (hit.at (grow I)) (hl.at (grow l)) hne hz (R6 lI) (R6 ll) new λh' tk zn c hk hS all=> ?_⟩;exact⟨rfl,hQ h' tk zn c (λb o hb e=>hk b o (B4 (A6 e)) hb (grow b o e)) hS all⟩
end
end PySem
namespace L3
open PySem PySem.Spec PyProof.Rows L2
variable{K:Frag}{fd:FuncData}{mg:AB}{us:List Value}{base:Heap}{H:Hp}{X:Cx}{pos:Pos}
def k_6(f:FE):FE:=λ δ=>(f δ).bind λw=>match w.d with
 | .lst ds=> .ok (.ow (.lst ds.reverse))
 |_=> .no
section
variable{X:Cx}{EX:Az}{a:Expr}{f:FE}{p p' pos pos':Pos}
def as_0(hc:X.calm=true)(hml:X.mg "list" =none)(hm:X.mg "reversed" =none)(ha:ED X EX a f)(hgl:Gl X "list" :=by rfl)(hg:Gl X "reversed" :=by rfl)
  (hs:starEach [a] X.env=(false,eval a X.env)::starEach [] X.env:=by rfl)
  (hs2:starEach [.Call (.Name "reversed" p') [a] [] pos'] X.env=(false,eval (.Call (.Name "reversed" p') [a] [] pos') X.env)::starEach [] X.env:=by rfl) (hpl:(backTo pos (starEach [] X.env)).any (·.1)=false:=by rfl) (dm:(backTo pos' (starEach [] X.env)).any (·.1)=false:=by rfl):
  ED X EX (.Call (.Name "list" p) [.Call (.Name "reversed" p') [a] [] pos'] [] pos) (k_6 f):=by
 intro zd s σ H Q I q;obtain⟨G,δ,g0,s0,o⟩:=q;refine Call_ (l_6 I hgl hml N3 (D6 ?_ hs2 hpl));rw[hs2];show wpAny _ _ (spliced ((false,eval (.Call (.Name "reversed" p') [a] [] pos') X.env)::backTo pos (starEach [] X.env))) _ _ s;refine K6 ?_;refine Call_ (l_6 I hg hm boot_reversed (D6 ?_ hs dm));rw[hs];show wpAny _ _ (spliced ((false,eval a X.env)::backTo pos' (starEach [] X.env))) _ _ s;refine K6 (Ax (ha zd s σ H _ I (tD.seq g0 s0 o (P:=λv H1=>∃l ds vs G1,Same G1 H1/\v=.ref l/\SqL X.K G1 l vs/\HasL X.K G1 vs ds/\Out X.K (EX σ) G1 H1 (.ok (.ow (.lst ds.reverse))) Q) λw v G' H' _ st r o'=> ?_)) λu s1 ⟨v,H1,I1,r1,q1⟩=>M8 ?_)
 ·revert r o';cases w.d with
  |lst ds=>
   intro r o';cases r with
   |lst h r=>
    exact⟨_,ds,_,G',st.gh,rfl,h,r,o'⟩
  |_=>intro _ o';exact False.elim o'
 ·obtain⟨l,ds,vs,G1,sg,rfl,hq,r,o'⟩:=q1;cases r1;obtain⟨its,rv,pl,hz⟩:=I1.list (sg.seq hq);have e1:vs.length=its.length:=rv.length;have e2:vs.length=ds.length:=r.length;rw[D2]at hz;have hsz:its.toArray.size=its.length:=by simp
  refine call_reversed_list pl.isList ?_;refine M8 ?_;have I2:Inv X zd σ H1 {s1 with heap:=s1.heap.push (revObj l ((its.toArray.size:Int) - 1))}:=I1.kept λb o e=>A5 _ e;have hll:l < s1.heap.objs.size:=by obtain⟨o,ho,_⟩:=pl.isList;exact A6 ho
  refine aw_4 (s:={s1 with heap:=s1.heap.push (revObj l ((its.toArray.size:Int) - 1))}) (I2.ok.hd hc) ⟨_,B8 _ rfl,rfl,rfl⟩ (pl.isList.at λo e=>A5 _ e) (B4 hll) (by rw[hsz];omega) λh' tk zn c hk hS it=> ?_;have ev:zn.toList=its.reverse:=by
   obtain⟨i1,i2⟩:=it;refine N2 λj=> ?_
   by_cases hj:j < its.length
   ·have hja:j < zn.size:=by rw[i1,hsz];exact hj
    have g1:zn[j]? =some zn[j]:=Array.getElem?_eq_getElem hja;have g2:=i2 j _ g1;rw[V9,g1,List.getElem?_reverse hj,<-g2,hsz];simp
   ·rw[D5 (by rw[L5,i1,hsz];omega),D5 (by rw[X8];omega)]
  have rv':Vals vs.reverse zn.toList:=by rw[ev];exact Vals.rev rv
  have fr:=I1.hok.fresh (a:=(s1.heap.push (revObj l ((its.toArray.size:Int) - 1))).objs.size) (by simp[Heap.push]);refine⟨.ref _,upd H1 _ (.lst vs.reverse),I1.laid (t':=tk) (λb o e=>hk b o (B4 (A6 e)) (A5 _ e)) (by simp[Heap.push]) ⟨?_,zn.toList,c,rv',by simpa using hS⟩,rfl,q_3 o' sg r.rev _ fr⟩;rw[X8,D2];exact hz
end
structure OInst(K:Frag)(C:Addr):Prop where
 pg:plainGet K C "__class__" =true
 hd:hasDictIn K C=true
 cl:findIn K (.ref C) "__class__" =some (some (.builtin "object.__class__"))
 gs:specialIn K (.builtin "object.__class__") "__get__" =some (some (.builtin "getset_descriptor.__get__"))
 tk:takesIn K (.builtin "object.__class__")=some true
 ob:mroIn K C (.type "object")=some true
section
variable{X:Cx}{EX:Az}{zd:AE}{σ:Sg}{G H:Hp}{s:Shared}
variable{a:Expr}{fo:FE}{tb:List (Str×Bool)}{pp pos:Pos}
end
section
variable{P:Program}{w:World}{K:Frag}{mg:AB}{base:Heap}{cc:Bool}{k n:Nat}{ps:List Str}{st:Stmt}{Fn:AF}
def as_1{m q c:Str}{C:Addr}(xa:ClsAt K c C)(cl:Cls K C)(W:FnMet K C m q st)(ok:∀{f:Addr} {fd:FuncData},Fun K m q st f fd->FnX P w K mg base cc k f fd ps (Br K (n + 1) Fn)/\Binds K fd ps []):MethD P w K mg base cc k n m c Fn:=by
 obtain⟨f,a,⟨fd,F⟩,kp,i⟩:=W;exact⟨⟨C,f,fd,ps,xa,cl,⟨a,i,kp⟩,(ok F).1,(ok F).2⟩⟩
def Di{x:Str}{h:Heap}(X:K.In h)(G:h.Ns mainGlobals mg)(W:FnTop K x st)(ok:∀{f:Addr} {fd:FuncData},Fun K x x st f fd->FnX P w K mg base cc k f fd ps (Br K ps.length Fn)/\Binds K fd ps []):FnD P w K mg base cc x k ps Fn:=by
 obtain⟨f,a,fd,F⟩:=W;exact ck_5 F (mg_of X G a) (ok F).2 (ok F).1
end
section
variable{X:Cx}{zd:AE}{σ:Sg}{H:Hp}{s:Shared}{a:Addr}{kvs:List (Ak×V)}{k:Ak}{u:Value}{A:Around}{E:AA}
def co_1{x:V}{r:Value}{Q:AA}(I:Inv X zd σ H s)(e:H a=some (.dK kvs))(ry:RelV (kV k) u)(rx:RelV x r)(l:kvs.length < sizeLine)
  (h1:∀v w' s',Cj kvs k=some v->Inv X zd σ H s'->RelV v w'->Q w' s') (h2:Cj kvs k=none->∀s',Inv X zd σ (upd H a (.dK (Fm kvs k x))) s'->Q r s'):
  wpAny (model X.prog X.w) A (call (.builtin "dict.setdefault") [.ref a,u,r]) Q E s:=by
 obtain⟨z,hd,vs,rel,dd⟩:=de_6 I.hok e;have hl:(Fm kvs k x).length<=sizeLine:=by have:=x_8 kvs k x;omega
 have hr:=rel.val k;refine ZD9 X5 dd.typeIs PySem.F.entry_dict_setdefault (PySem.F.args_dict_setdefault_3 _ _ _) (PySem.kt_meets_setdefault (f_9 X.prog X.w) a (ay_8 ry) hd r) ⟨vs,dd,by rw[<-rel.length];exact z,λw' hw=> ?_,λhn h' dd' hs=> ?_⟩
 ·cases hv:Cj kvs k with
  |none=>
   have hn:valueAt vs k=none:=RelO.none_of (by rw[<-hv];exact hr);rw[hn]at hw;cases hw
  |some v=>
   obtain⟨w2,hw2,rv⟩:=RelO.some_of (v:=v) (o:=valueAt vs k) (by rw[<-hv];exact hr);rw[hw2]at hw;cases hw;exact h1 v w' _ hv (I.tok _) rv
 ·have he:∃q,h'.get? a=some q:=let⟨q,_,_,hq,_⟩:=dd';⟨q,hq⟩;refine h2 ?_ _ (bd_9 I (by rw[e];exact True.intro) hs he (cj_5 hl hd (rel.put k rx) dd'));cases hv:Cj kvs k with
  |none=>rfl
  |some v=>
   obtain⟨w2,hw2,rv⟩:=RelO.some_of (v:=v) (o:=valueAt vs k) (by rw[<-hv];exact hr);rw[hw2]at hn;cases hn
end
def dr_0(td ty tx:TE):TE:=λ σ H Q=>td σ H λx H1=>∃a,x=.ref a/\IsD H1 a/\ty σ H1 λy H2=>tx σ H2 λz H3=>∃kvs k,H3 a=some (.dK kvs)/\y=kV k/\kvs.length < sizeLine/\
 (∀v,Cj kvs k=some v->Q v H3)/\(Cj kvs k=none->Q z (upd H3 a (.dK (Fm kvs k z))))
section
variable{X:Cx}{EX:Az}{o e f:Expr}{zh zf pos:Pos}{td ty tx:TE}
def da_2(ho:PE X o td)(he:PE X e ty)(hf:PE X f tx)(m:M2 X o "setdefault" zh e f zf):PE X (.Call (.Attribute o "setdefault" zh) [e,f] [] zf) (dr_0 td ty tx):=by
 intro zd s σ H Q I h;refine wpAny_Call_method m.base m.few m.line ZA5 X5 PySem.F.type_dict_setdefault (Ax (ho zd s σ H _ I h) λu s1 ⟨x,H1,I1,rx,a,ex,d,q1⟩=> ?_);subst ex;obtain rfl:u=Value.ref a:=rx;obtain⟨t1,t2,_⟩:=cj_8 I1 d;refine⟨t1,t2, ?_⟩;rw[m.trees];refine U5 rfl (W9 (K6 (Ax (he zd s1 σ H1 _ I1 q1) λiv s2 ⟨y,H2,I2,ry,q2⟩=>
  K6 (Ax (hf zd s2 σ H2 _ I2 q2) λfv s3 ⟨z,H3,I3,rz,kvs,k,ea,ey,l,q3,q4⟩=>M8 ?_))))
 subst ey;exact co_1 I3 ea ry rz l (λv w' s4 hv I4 rv=>⟨v,_,I4,rv,q3 v hv⟩) λhn s4 I4=>⟨z,_,I4,rz,q4 hn⟩
end
def sdK(zm:List (Ak×Tn))(k:Ak):List (Ak×Tn):=match Ck zm k with
 |some _=>zm
 |none=>zm ++ [(k,.lst [])]
section
variable{X:Cx}{EX:Az}{pos:Pos}
theorem bo_0{k:Ak}:∀{kvs:List (Ak×V)} {zm:List (Ak×Tn)},kvs.map (·.1)=zm.map (·.1)->Ck zm k=none->Cj kvs k=none
 | [],_,_,_=>rfl
 |_::_,[],e,_=>by simp at e
 |(x,v)::kvs,(y,t)::zm,e,h=>by
  simp only[B1,T6]at e;obtain⟨e1,e2⟩:=e;subst e1
  by_cases q:x=k
  ·exfalso;unfold Ck at h;rw[U8 (by simpa using q)]at h;cases h
  ·rw[g_9 q];refine bo_0 e2 ?_;unfold Ck at h⊢
   rwa[U9 (by simpa using q)]at h
end
section
variable{P:Program}{w:World}{K:Frag}{mg:AB}{base:Heap}{cc:Bool}{j k n:Nat}{ps:List Str}{st:Stmt}{Fn:AF}{C:Addr}{m c q f:Str}
def XB(K:Frag)(C:Addr)(q f:Str)(st:Stmt):Prop:=keepIn K (.ref C)=true/\XCls K C/\findIn K (.ref C) f=some none/\∃(fI:Addr) (fd:FuncData) (o:Obj),XMk K C fI/\K.lookup fI=some o/\o.cls=.type "function" /\Fun K "__init__" q st fI fd
def XB.mk{fI N L:Addr}{nm qn:Str}{bs sub:List Value}{sn:List Str}{ab:Bool}{col:Option Bool}{dd od ddL odL odI an:Option Addr}{k0 k1 k2 k3 k5:Option Value}{oc c0 oL kV dc pm cd ct:Value}{es esL:Array DictEntry}{ep epL:Nat}{sl sl0 slL slI:Array (Option Value)}{cdL:ClassData}
  (lc:K.lookup C=some (excClassObj nm qn C N bs (.ref L::bmVE) true sn sub ab col dd k0 k1 k2 k3 k5 "ValueError.__new__")) (ln:K.lookup N=some ⟨oc,od,.dict es ep,sl⟩) (_:findIn K (.ref C) "__init__" =some (some (.ref fI))) (kn:k_5 es=true) (hi:nsFind es "__init__" =some (.ref fI))
  (ll:K.lookup L=some ⟨c0,ddL,.cls cdL,sl0⟩) (lm:K.lookup cdL.ns=some ⟨oL,odL,.dict esL epL,slL⟩) (km:k_5 esL=true) (hL:nsFind esL "__init__" =none) (sa:findIn K (.ref C) "__setattr__" =some (some (.builtin "object.__setattr__"))) (nf:findIn K (.ref C) f=some none) (kp:keepIn K (.ref C)=true)
  (l:K.lookup fI=some ⟨.type "function",odI,.func (fnOf "__init__" q (i_3 st) (Fs st) (Cc st) .none kV dc pm an cd ct),slI⟩) (cI:codeIn K cd q=true) (kI:keepIn K (.ref fI)=true):XB K C q f st:=
 ⟨kp,cz_3 lc sa,nf,fI,_,_,dm_0 lc ln kn hi ll lm km hL,l,rfl,br_7 l cI kI⟩
def co_2(xa:ClsAt K c C)(gx:mg c=some (.ref C))(b:XB K C q f st)(ok:∀{fI:Addr} {fd:FuncData},Fun K "__init__" q st fI fd->XCls K C->findIn K (.ref C) f=some none->FnX P w K mg base false 1 fI fd ps (ad_4 C f)/\Binds K fd ps []):XC P w K mg base c f C:=by
 obtain⟨kp,xc,nf,fI,fd,o,mk,l,e,F⟩:=b;exact⟨xa,gx,kp,xc,fI,fd,ps,o,mk,l,e,(ok F xc nf).1,(ok F xc nf).2⟩
def XB0{N L:Addr}{nm qn:Str}{bs sub:List Value}{sn:List Str}{ab:Bool}{col:Option Bool}{dd od ddL odL:Option Addr}{k0 k1 k2 k3 k5:Option Value}{oc c0 oL:Value}{es esL:Array DictEntry}{ep epL:Nat}{sl sl0 slL:Array (Option Value)}{cdL:ClassData}
  (lc:K.lookup C=some (excClassObj nm qn C N bs (.ref L::bmVE) true sn sub ab col dd k0 k1 k2 k3 k5 "ValueError.__new__")) (ln:K.lookup N=some ⟨oc,od,.dict es ep,sl⟩) (kn:k_5 es=true) (hi:nsFind es "__init__" =none)
  (ll:K.lookup L=some ⟨c0,ddL,.cls cdL,sl0⟩) (lm:K.lookup cdL.ns=some ⟨oL,odL,.dict esL epL,slL⟩) (km:k_5 esL=true) (hL:nsFind esL "__init__" =none) (kp:keepIn K (.ref C)=true):keepIn K (.ref C)=true/\XMk0 K C:=⟨kp,cz_9 lc ln kn hi ll lm km hL⟩
def XB9(K:Frag)(C:Addr):Prop:=keepIn K (.ref C)=true/\XMk0 K C
def dm_2(xa:ClsAt K c C)(gx:mg c=some (.ref C))(b:XB9 K C):XC0 K mg c C:=⟨xa,gx,b.1,b.2⟩
def OInst.mm(pg:plainGet K C Str.empty=true)(hd:hasDictIn K C=true)(cl:findIn K (.ref C) "__class__" =some (some (.builtin "object.__class__")))(gs:specialIn K (.builtin "object.__class__") "__get__" =some (some (.builtin "getset_descriptor.__get__")))(tk:takesIn K (.builtin "object.__class__")=some true)(ob:mroIn K C (.type "object")=some true):OInst K C:=⟨pg,hd,cl,gs,tk,ob⟩
def NoAttr.mk(h:findIn K (.ref C) f=some none):NoAttr K C f:=h
def mto{tb:List (Str×(AF))}(d:MethD P w K mg base cc j n m c Fn)(r:MethT P w K mg base cc k n m tb)(hj:j<=k:=by decide):MethT P w K mg base cc k n m ((c,Fn)::tb):=.one d hj r
def mtn:MethT P w K mg base cc k n m []:=.nil
def dr_1{Fi:List D->R (List Str×List D)}(xa:ClsAt K c C)(gx:mg c=some (.ref C))(ms:makesIn K C=true)(kc:keepIn K (.ref C)=true)(W:FnMet K C "__init__" q st)(ok:∀{f:Addr} {fd:FuncData},Fun K "__init__" q st f fd->FnX P w K mg base cc k f fd ps (spI K C n Fi)/\Binds K fd ps []):MakD P w K mg base cc c k n Fi:=by
 obtain⟨f,a,⟨fd,F⟩,kp,i⟩:=W;exact⟨C,f,fd,ps,xa,gx,⟨ms,a,i,kc⟩,(ok F).1,(ok F).2⟩
end
def Ft:HO->Bool
 | .ins _ _ _=>true
 | .dK _=>true
 |_=>false
mutual
def Tn.lends:Tn->Bool
 | .sh _=>true
 | .lst _=>false
 | .tup _=>false
 | .dic zm=>Tn.lendsK zm
 | .obj _ _ ts=>Tn.lendsL ts
def Tn.lendsL:List Tn->Bool
 | []=>true
 |t::ts=>t.lends && Tn.lendsL ts
def Tn.lendsK:List (Ak×Tn)->Bool
 | []=>true
 |(_,t)::ts=>t.lends && Tn.lendsK ts
end
theorem Tn.lendsK_eq:∀zm:List (Ak×Tn),Tn.lendsL (zm.map (·.2))=Tn.lendsK zm
 | []=>by simp only[M3,Tn.lendsL,Tn.lendsK]
 |(k,t)::zm=>by simp only[B1,Tn.lendsL,Tn.lendsK,Tn.lendsK_eq zm]
mutual
theorem Ow.lend{G H:Hp}:∀{v:V} {t:Tn} {S:AS},Ow K G H v t S->t.lends=true->∃S':AS,(∀b,S' b->S b/\∃o,H b=some o/\Ft o=true)/\Ow K G H v t S'
 |_,_,_,.sh h,_=>⟨λ_=>False,λ_ z=>z.elim,.sh h⟩
 |_,_,_,.lst h ha sub r,e=>by simp only[Tn.lends]at e;cases e
 |_,_,_,.tup h ha sub r,e=>by simp only[Tn.lends]at e;cases e
 |_,_,_,.dic (a:=a) h hk ha sub r,e=>by
  simp only[Tn.lends]at e;obtain⟨S1,f,r'⟩:=OwL.lend r (by rw[Tn.lendsK_eq];exact e);refine⟨λb=>b=a\/S1 b,λb hb=> ?_,.dic h hk (.inl rfl) (λb hb=>⟨.inr hb,(sub b (f b hb).1).2⟩) r'⟩;rcases hb with rfl|hb
  ·exact⟨ha,_,h,rfl⟩
  ·exact⟨(sub b (f b hb).1).1,(f b hb).2⟩
 |_,_,_,.obj (a:=a) hc h hl ha sub r,e=>by
  simp only[Tn.lends]at e;obtain⟨S1,f,r'⟩:=OwL.lend r e;refine⟨λb=>b=a\/S1 b,λb hb=> ?_,.obj hc h hl (.inl rfl) (λb hb=>⟨.inr hb,(sub b (f b hb).1).2⟩) r'⟩;rcases hb with rfl|hb
  ·exact⟨ha,_,h,rfl⟩
  ·exact⟨(sub b (f b hb).1).1,(f b hb).2⟩
theorem OwL.lend{G H:Hp}:∀{vs:List V} {ts:List Tn} {S:AS},OwL K G H vs ts S->Tn.lendsL ts=true->∃S':AS,(∀b,S' b->S b/\∃o,H b=some o/\Ft o=true)/\OwL K G H vs ts S'
 |_,_,_,.nil,_=>⟨λ_=>False,λ_ z=>z.elim,.nil⟩
 |_,_,_,.cons h r dj s1 s2,e=>by
  simp only[Tn.lendsL,C9]at e;obtain⟨A,fA,hA⟩:=Ow.lend h e.1;obtain⟨B,fB,hB⟩:=OwL.lend r e.2;exact⟨λb=>A b\/B b,λb hb=>hb.elim (λz=>⟨s1 b (fA b z).1,(fA b z).2⟩) λz=>⟨s2 b (fB b z).1,(fB b z).2⟩,.cons hA hB (λb x y=>dj b (fA b x).1 (fB b y).1) (λ_ z=> .inl z) λ_ z=> .inr z⟩
end
mutual
def t_2:D->Bool
 | .non=>true
 | .bl _=>true
 | .int _=>true
 | .str _=>true
 | .lst ds=>w_1 ds
 | .tup ds=>w_1 ds
 |_=>false
def w_1:List D->Bool
 | []=>true
 |d::ds=>t_2 d && w_1 ds
end
mutual
def t_3:Tn->Bool
 | .sh d=>t_2 d
 | .lst ts=>q_5 ts
 | .tup ts=>q_5 ts
 | .dic zm=>af_5 zm
 | .obj _ _ ts=>q_5 ts
def q_5:List Tn->Bool
 | []=>true
 |t::ts=>t_3 t && q_5 ts
def af_5:List (Ak×Tn)->Bool
 | []=>true
 |(_,t)::ts=>t_3 t && af_5 ts
end
theorem as_2:∀zm:List (Ak×Tn),q_5 (zm.map (·.2))=af_5 zm
 | []=>by simp only[M3,q_5,af_5]
 |(k,t)::zm=>by simp only[B1,q_5,af_5,as_2 zm]
def bt_9:W->Bool
 | .sh d=>t_2 d
 | .ow d=>t_3 (Tn.of d)
 | .tr t=>t_3 t
open Classical in
def offQ(G:Hp)(S:AS):Hp:=λb=>if S b then none else G b
section
variable{K:Frag}{G H:Hp}{S:AS}
def offQ_sub:Same (offQ G S) G:=λb o e=>by
 unfold offQ at e
 split at e
 ·cases e
 ·exact e
def af_6{b:Addr}(h:¬S b):offQ G S b=G b:=by unfold offQ;rw[if_neg h]
def bg_7{b:Addr}(h:S b):offQ G S b=none:=by unfold offQ;rw[if_pos h]
def ai_6(hs:∀b o,S b->G b=some o->Ft o=true){b:Addr}{o:HO}(e:G b=some o)(n:Ft o=false):offQ G S b=some o:=by
 rw[af_6 λz=>by have:=hs b o z e;rw[n]at this;cases this];exact e
def by_5(hs:∀b o,S b->G b=some o->Ft o=true){a:Addr}{u:HO}(h:Rd G a u)(n:Ft u=false):Rd (offQ G S) a u:=by
 rcases h with h|⟨o,h⟩
 ·exact .inl (ai_6 hs h n)
 ·exact .inr ⟨o,ai_6 hs h rfl⟩
mutual
theorem Has.offQ(hs:∀b o,S b->G b=some o->Ft o=true):∀{v:V} {d:D},Has K G v d->t_2 d=true->Has K (L3.offQ G S) v d
 |_,_,.non,_=> .non
 |_,_,.bl b,_=> .bl b
 |_,_,.int i,_=> .int i
 |_,_,.str x,_=> .str x
 |_,_,.lst h r,e=>by
  simp only[t_2]at e;exact .lst (h.elim (λz=> .inl (by_5 hs z rfl)) .inr) (HasL.offQ hs r e)
 |_,_,.tup h r,e=>by
  simp only[t_2]at e;exact .tup (h.elim (λz=> .inl (by_5 hs z rfl)) .inr) (HasL.offQ hs r e)
 |_,_,.exn0 _ _,e=>by simp only[t_2]at e;cases e
 |_,_,.exn1 _ _ _ _ _,e=>by simp only[t_2]at e;cases e
 |_,_,.dic _ _ _,e=>by simp only[t_2]at e;cases e
 |_,_,.obj _ _ _ _,e=>by simp only[t_2]at e;cases e
theorem HasL.offQ(hs:∀b o,S b->G b=some o->Ft o=true):∀{vs:List V} {ds:List D},HasL K G vs ds->w_1 ds=true->HasL K (L3.offQ G S) vs ds
 |_,_,.nil,_=> .nil
 |_,_,.cons h r,e=>by
  simp only[w_1,C9]at e;exact .cons (Has.offQ hs h e.1) (HasL.offQ hs r e.2)
end
mutual
theorem Ow.offQ(hs:∀b o,S b->G b=some o->Ft o=true):∀{v:V} {t:Tn} {S':AS},Ow K G H v t S'->t_3 t=true->Ow K (L3.offQ G S) H v t S'
 |_,_,_,.sh h,e=>by simp only[t_3]at e;exact .sh (h.offQ hs e)
 |_,_,_,.lst h ha sub r,e=>by simp only[t_3]at e;exact .lst h ha sub (OwL.offQ hs r e)
 |_,_,_,.tup h ha sub r,e=>by simp only[t_3]at e;exact .tup h ha sub (OwL.offQ hs r e)
 |_,_,_,.dic h hk ha sub r,e=>by simp only[t_3]at e;exact .dic h hk ha sub (OwL.offQ hs r (by rw[as_2];exact e))
 |_,_,_,.obj hc h hl ha sub r,e=>by simp only[t_3]at e;exact .obj hc h hl ha sub (OwL.offQ hs r e)
theorem OwL.offQ(hs:∀b o,S b->G b=some o->Ft o=true):∀{vs:List V} {ts:List Tn} {S':AS},OwL K G H vs ts S'->q_5 ts=true->OwL K (L3.offQ G S) H vs ts S'
 |_,_,_,.nil,_=> .nil
 |_,_,_,.cons h r dj s1 s2,e=>by
  simp only[q_5,C9]at e;exact .cons (Ow.offQ hs h e.1) (OwL.offQ hs r e.2) dj s1 s2
end
theorem ExcAt.offQ(hs:∀b o,S b->G b=some o->Ft o=true){cls:Value}{dx:Option Addr}{x:Xn}(h:ExcAt K G cls dx x)(e:w_1 x.vs=true):ExcAt K (L3.offQ G S) cls dx x:=by
 cases h with
 |bare hc=>exact .bare hc
 |with_ hc hd hl r=>exact .with_ hc (ai_6 hs hd rfl) hl (r.offQ hs e)
end
def ak_3(js:List Nat):Nat->SE->DE
 |_,[]=> []
 |n,s::Δ=>(if js.contains n=true then s.any else s.pub)::ak_3 js (n + 1) Δ
def Fj(js:List Nat)(Δ:SE):DE:=ak_3 js 0 Δ
theorem ba_4(js:List Nat):∀(Δ:SE) (n i:Nat),(ak_3 js n Δ)[i]? =(Δ[i]?).map λs=>if js.contains (n + i)=true then s.any else s.pub
 | [],n,i=>by simp only[ak_3,List.getElem?_nil,Option.map_none]
 |s::Δ,n,0=>by simp only[ak_3,U3,L4,Nat.add_zero]
 |s::Δ,n,i + 1=>by
  simp only[ak_3,R1];rw[ba_4 js Δ (n + 1) i,show n + 1 + i=n + (i + 1) by omega]
theorem ba_5(js:List Nat):∀(Δ:SE) (n:Nat),(ak_3 js n Δ).length=Δ.length
 | [],_=>rfl
 |s::Δ,n=>by simp only[ak_3,C6,ba_5 js Δ]
def y_4(js:List Nat)(Δ:SE):Bool:=js.all λj=>match Δ[j]? with
 |some s=>(match s.own with
  |some t=>t.lends
  |none=>true)
 |none=>true
section
variable{K:Frag}{H0:HB}{G0 G H:Hp}{σ:Sg}{Δ:SE}{O:OS}
def Sl.any_own{s:Sl}{d:D}(e:s.any=some d):s=.sh d\/∃t,s.own=some t/\t.d=d:=by
 cases s with
 |no=>cases e
 |sh d'=>cases e;exact .inl rfl
 |ow d'=>cases e;exact .inr ⟨_,rfl,Tn.of_d _⟩
 |tr t=>cases e;exact .inr ⟨_,rfl,rfl⟩
 |lk d'=>cases e;exact .inr ⟨_,rfl,Tn.of_d _⟩
 |lt t=>cases e;exact .inr ⟨_,rfl,rfl⟩
theorem Ev.lend(E:Ev K H0 G0 G H σ Δ O)(js:List Nat)(hl:y_4 js Δ=true):∃S:AS,(∀b,S b->∃i,O i b)/\(∀b,S b->∃o,H b=some o/\Ft o=true)/\HasS K (Cu G H S) σ (Fj js Δ):=by
 let S:AS:=λb=>∃(i:Nat) (s:Sl) (t:Tn) (v:V) (S':AS),Δ[i]? =some s/\s.own=some t/\σ[i]? =some (some v)/\(∀b,S' b->O i b/\∃o,H b=some o/\Ft o=true)/\S' b
 have hS:∀b,S b->∃i,O i b:=λb ⟨i,s,t,v,S',_,_,_,f,hb⟩=>⟨i,(f b hb).1⟩;have sg:Same G (Cu G H S):=λb o q=>by
  unfold Cu
  split
  ·rename_i hb;obtain⟨i,hi⟩:=hS b hb;rw[(E.out i b hi).1]at q;cases q
  ·exact q
 refine⟨S,hS,λb ⟨i,s,t,v,S',_,_,_,f,hb⟩=>(f b hb).2,by unfold Fj;rw[ba_5];exact E.len,λi d q=> ?_⟩;unfold Fj at q;rw[ba_4,O5]at q;obtain⟨s,es,q⟩:=N1.mp q
 split at q
 ·rename_i hj;rcases Sl.any_own q with rfl|⟨t,to,rfl⟩
  ·obtain⟨v,e1,r⟩:=E.sh i d es;exact⟨v,e1,r.mono sg⟩
  ·obtain⟨v,e1,w⟩:=E.ow i s t es to;have lt:t.lends=true:=by
    have:=F2.mp hl i (S4.mp hj);rw[es]at this;simp only[to]at this;exact this
   obtain⟨S',f,w'⟩:=w.lend lt;refine⟨v,e1,w'.has sg λb o hb hq=> ?_⟩;unfold Cu;rw[if_pos ⟨i,s,t,v,S',es,to,e1,f,hb⟩];exact hq
 ·cases s with
  |sh d'=>cases q;obtain⟨v,e1,r⟩:=E.sh i _ es;exact⟨v,e1,r.mono sg⟩
  |_=>cases q
def bo_1(E:Ev K H0 G0 G H σ Δ O){S:AS}(hS:∀b,S b->∃i,O i b):offQ (Cu G H S) S=G:=by
 funext b
 by_cases hb:S b
 ·rw[bg_7 hb];obtain⟨i,hi⟩:=hS b hb;exact(E.out i b hi).1.symm
 ·rw[af_6 hb];unfold Cu;rw[if_neg hb]
def co_3(E:Ev K H0 G0 G H σ Δ O){S:AS}:Same (Cu G H S) H:=λb o q=>by
 unfold Cu at q
 split at q
 ·exact q
 ·exact E.st.gh b o q
def co_4{S:AS}(hk:∀b,S b->∃o,H b=some o/\Ft o=true):∀b,S b->∃o,Cu G H S b=some o/\Ft o=true:=λb hb=>by
 obtain⟨o,e,l⟩:=hk b hb;exact⟨o,by unfold Cu;rw[if_pos hb];exact e,l⟩
end
theorem Step.offQ{G H G2 H2:Hp}{S:AS}(st:Step G H G2 H2):Step (L3.offQ G S) H (L3.offQ G2 S) H2:=
 ⟨st.hh,λb o q=>st.gh b o (offQ_sub b o q),λb o q=>by
  by_cases hb:S b
  ·rw[bg_7 hb]at q;cases q
  ·rw[af_6 hb]at q⊢;exact st.gg b o q,λb n z=>by
  by_cases hb:S b
  ·exact bg_7 hb
  ·rw[af_6 hb]at n⊢;exact st.nw b n z⟩
def Step.lentK{G H G2 H2:Hp}{S:AS}(st:Step G H G2 H2)(hk:∀b,S b->∃o,G b=some o/\Ft o=true):∀b,S b->∃o,G2 b=some o/\Ft o=true:=λb hb=>by
 obtain⟨o,e,l⟩:=hk b hb;exact⟨o,st.gg b o e,l⟩
def kin{G:Hp}{S:AS}(hk:∀b,S b->∃o,G b=some o/\Ft o=true):∀b o,S b->G b=some o->Ft o=true:=λb o hb q=>by
 obtain⟨o',e,l⟩:=hk b hb;rw[e]at q;cases q;exact l
def dr_2(EX:EXT):EXT:=⟨λx G H=>w_1 x.vs=true/\∃S:AS,(∀b,S b->∃o,G b=some o/\Ft o=true)/\EX.p x (offQ G S) H,
 λ_ _ _ _ _ st ⟨pl,S,k,q⟩=>⟨pl,S,st.lentK k,EX.mono _ _ _ _ _ st.offQ q⟩⟩
def bu_0(EX:Az):Az:=λ σ=>dr_2 (EX σ)
def Lk.lend{EX:Az}(lk:Lk X EX):Lk X (bu_0 EX):=λzd σ H s e s' I c=>by
 obtain⟨a,C,dx,T,H',h1,h2,h3,h4,h5,h6,h7,h8,h9,h10,x,G,sg,ea,pl,S,k,q⟩:=c;exact lk zd σ H s e s' I ⟨a,C,dx,T,H',h1,h2,h3,h4,h5,h6,h7,h8,h9,h10,x,offQ G S,offQ_sub.trans sg,ea.offQ (kin k) pl,q⟩
section
variable{K:Frag}{EX:Az}{H0:HB}{G0 G H:Hp}{σ:Sg}{Δ:SE}{O:OS}{f:FE}{Q:VK}{js:List Nat}{w:W}{x:Xn}
def da_3(E:Ev K H0 G0 G H σ Δ O)(hl:y_4 js Δ=true)(e:f (Fj js Δ)=.ok w)(pw:bt_9 w=true)(q:WP K G H w Q):tD K EX f σ H Q:=by
 obtain⟨S,hS,hk,hs⟩:=E.lend js hl;have k1:=co_4 (G:=G) hk;refine⟨Cu G H S,Fj js Δ,co_3 E,hs, ?_⟩;rw[e];have st':∀{G2 H2:Hp},Step (Cu G H S) H G2 H2->Step G H (offQ G2 S) H2:=λst=>by
  have:=st.offQ (S:=S);rw[bo_1 E hS]at this;exact this
 cases w with
 |sh d=>exact λv G2 H2 st r=>q v (offQ G2 S) H2 (st' st) (r.offQ (kin (st.lentK k1)) pw)
 |ow d=>exact λv S' G2 H2 st fr t=>q v S' (offQ G2 S) H2 (st' st) (λa ha=>⟨(fr a ha).1,offQ_sub.free (fr a ha).2.1,(fr a ha).2.2⟩) (t.offQ (kin (st.lentK k1)) pw)
 |tr t=>exact λv S' G2 H2 st fr t=>q v S' (offQ G2 S) H2 (st' st) (λa ha=>⟨(fr a ha).1,offQ_sub.free (fr a ha).2.1,(fr a ha).2.2⟩) (t.offQ (kin (st.lentK k1)) pw)
def da_4(E:Ev K H0 G0 G H σ Δ O)(hl:y_4 js Δ=true)(e:f (Fj js Δ)=.ex x)(pl:w_1 x.vs=true)(q:(EX σ).p x G H):tD K (bu_0 EX) f σ H Q:=by
 obtain⟨S,hS,hk,hs⟩:=E.lend js hl;refine⟨Cu G H S,Fj js Δ,co_3 E,hs, ?_⟩;rw[e];exact⟨pl,S,co_4 hk,by rw[bo_1 E hS];exact q⟩
end
inductive FM where
 |ok (d:D) (Δ:SE)|ex (x:Xn) (Δ:SE)|no
def OutM(K:Frag)(EX:Az)(H0:HB)(G0 G1:Hp)(σ:Sg)(r:FM)(Q:VK):Prop:=match r with
 | .ok d Δ=>∀v G H O,Ev K H0 G0 G H σ Δ O->Same G1 G->Has K G v d->Q v H
 | .ex x Δ=>∀G H O,Ev K H0 G0 G H σ Δ O->Same G1 G->(EX σ).p x G H
 | .no=>False
def tM(K:Frag)(EX:Az)(g:SE->FM):TE:=λ σ H Q=>∃H0 G0 G Δ O,Ev K H0 G0 G H σ Δ O/\OutM K EX H0 G0 G σ (g Δ) Q
abbrev EM(X:Cx)(EX:Az)(e:Expr)(g:SE->FM):Prop:=PE X e (tM X.K EX g)
def bo_2(js:List Nat)(f:FE):SE->FM:=λ Δ=>if y_4 js Δ=true then(match f (Fj js Δ) with
 | .ok w=>if bt_9 w=true then .ok w.d Δ else .no
 | .ex x=>if w_1 x.vs=true then .ex x Δ else .no
 | .no=> .no) else .no
section
variable{X:Cx}{EX:Az}{a b e:Expr}{f:FE}{p:FT}{g g2:SE->FM}{pos:Pos}
def da_5(js:List Nat)(he:ED X (bu_0 EX) e f):EM X EX e (bo_2 js f):=PE.imp he λ σ H Q ⟨H0,G0,G,Δ,O,E,q⟩=>by
 unfold bo_2 at q
 split at q
 ·rename_i hl;cases e1:f (Fj js Δ) with
  |ok w=>
   simp only[e1]at q
   split at q
   ·rename_i pw;exact da_3 E hl e1 pw (WP.intro λv G' H' st r=>q v G' H' O (E.grow st) st.gg r)
   ·exact q.elim
  |ex x=>
   simp only[e1]at q
   split at q
   ·rename_i pl;exact da_4 E hl e1 pl (q G H O E (Same.refl _))
   ·exact q.elim
  |no=>simp only[e1]at q;exact q.elim
 ·exact q.elim
end
def bo_3(i:Nat)(g:SE->FM):FS:=λ Δ=>match g Δ with
 | .ok d Δ1=> .nx (Δ1.set i (.sh d))
 | .ex x Δ1=> .ex x Δ1
 | .no=> .no
section
variable{X:Cx}{EX:Az}{e:Expr}{g:SE->FM}{g1 g2:FS}{pos:Pos}
def da_6{i:Nat}{x:Str}{pos':Pos}(he:EM X EX e g)(hN:X.N.Nodup)(hi:X.N[i]? =some x:=by rfl)(hx:Loc X.env.scope x:=by trivial)(hs:swapsWith e (some (.Name x pos')) pos.line X.env=pure false:=by rfl)
  (hf:X.fn x=true\/X.env.scope.names.lookup x=some .local:=by trivial):SD X EX (.Assign [.Name x pos'] e pos) (bo_3 i g):=
 PS.imp (ch_2 hN hi hx he hs hf) λD σ H ⟨H0,G0,G,Δ,O,E,q⟩=>by
  refine⟨H0,G0,G,Δ,O,E, ?_⟩;unfold bo_3 at q;cases e1:g Δ with
  |ok d Δ1=>simp only[e1]at q;exact λv G1 H1 O1 E1 s1 r1=>q _ G1 H1 O1 (E1.put r1) s1
  |ex x Δ1=>simp only[e1]at q;exact λG1 H1 O1 E1 s1=>q σ G1 H1 O1 E1 s1
  |no=>simp only[e1]at q;exact q.elim
end
def da_7{Δ:SE}{i:Nat}{s:Sl}{t t':Tn}{lk:Bool}(e:Δ[i]? =some s)(q:s.tree=some (t,lk)):Bf (Δ.set i (Sl.mk lk t'))=Bf Δ:=by
 unfold Bf;rw[List.map_set];apply N2;intro j
 by_cases h:i=j
 ·subst h;have hlt:i < Δ.length:=(B2.mp e).1;rw[F6 (by rw[A3];exact hlt),B3,e];cases lk <;> cases s <;> first|rfl|cases q
 ·rw[C8 h]
def sSdb(i:Nat)(f1 f2:FE):FS:=λ Δ=>match(Δ[i]?).bind Sl.tree with
 |some (.dic zm,lk)=>(match f1 (Au Δ) with
   | .ok z1=>(match Dn z1.d with
    |some k1=>if zm.length < 16777216 then(match Ck (sdK zm k1) k1 with
     |some (.lst ts)=>if ts.length < 16777216 then(match f2 (Bf Δ) with
      | .ok z2=> .nx (Δ.set i (Sl.mk lk (.dic (Do (sdK zm k1) k1 (.lst (ts ++ [.sh z2.d]))))))
      |_=> .no) else .no
     |_=> .no) else .no
    |none=> .no)
   |_=> .no)
 |_=> .no
section
variable{X:Cx}{EX:Az}{pos:Pos}
def by_6{H0:HB}{G0 G H:Hp}{σ:Sg}{Δ:SE}{O:OS}{D:Ends}{i:Nat}{s:Sl}{zm:List (Ak×Tn)}{lk:Bool}{k:Ak}{ts:List Tn}{f2:FE}{z2:W}(E:Ev K H0 G0 G H σ Δ O)(e1:Δ[i]? =some s)(etr:s.tree=some (.dic zm,lk))(ev:Ck zm k=some (.lst ts))(hz:ts.length < 16777216)(ef:f2 (Bf Δ)=.ok z2)
  (q:∀σ' G' H' O',Ev K H0 G0 G' H' σ' (Δ.set i (Sl.mk lk (.dic (Do zm k (.lst (ts ++ [.sh z2.d])))))) O'->Same G G'->D.nx σ' H'):
  ∃c a kvs,σ[i]? =some (some (.ref a))/\H a=some (.dK kvs)/\Cj kvs k=some (.ref c)/\tyV K "list" (.ref c) H/\tD K EX f2 σ H λy H2=>bd_5 (.ref c) [y] H2 λ_ H3=>D.nx σ H3:=by
 obtain⟨v0,s1,t⟩:=E.ow i _ _ e1 (Sl.tree_own etr);obtain⟨a,kvs,S1,rfl,m,hH,hk,sub,rl⟩:=t.dic_of;obtain⟨vc,Sc,ec,tc,ic,fc⟩:=OwL.focusK k hk rl ev;cases tc with
 |lst hc mc subc rc=>
  rename_i c vs S2;have hca:c≠a:=(sub c (ic c mc)).2;refine⟨c,a,kvs,s1,hH,ec,.inl ⟨rfl,_,SqL.of hc⟩,G,Bf Δ,E.st.gh,E.gsh, ?_⟩;rw[ef];refine WP.intro λy G2 H2 st2 r2=> ?_;have E2:=E.grow st2;have zk:vs.length < sizeLine:=by rw[rc.length,D2];exact hz
  refine⟨c,vs,y,rfl,rfl,st2.hh _ _ hc,zk, ?_⟩;refine q σ G2 _ _ (E2.writeIn e1 etr s1 (sub c (ic c mc)).1 ?_) st2.gg;obtain⟨vc',Sc',ec',tc',ic',fc'⟩:=OwL.focusK k hk (OwL.mono st2.gg rl (λ_ _ _ z=>z) λ_ z=>z) ev;rw[ec]at ec';cases ec';cases tc' with
  |lst hc' mc' subc' rc'=>
   rename_i vs' S2';rw[hc]at hc';cases hc';refine Ow.dic (S1:=S1) (by rw[Aq (Ne.symm hca)];exact st2.hh _ _ hH) (by rw[az_6];exact hk) m sub ?_;refine fc' (λb o hb nb z=> ?_) ?_
   ·rw[Aq (show b≠c from λw=>nb (by rw[w];exact mc'))];exact st2.hh _ _ z
   ·refine Ow.lst (S1:=S2') Bp mc' subc' (OwL.append (S2:=λ_=>False) (rc'.mono (Same.refl _) (λb o hb z=> ?_) λ_ z=>z) (.cons (S1:=λ_=>False) (S2:=λ_=>False) (.sh r2) .nil (λ_ z=>z.elim) (λ_ z=>z) λ_ z=>z) (λ_ _ z=>z) (λ_ z=>z) λ_ z=>z.elim);rw[Aq (subc' b hb).2];exact st2.hh _ _ z
def dm_3{i:Nat}{x:Str}{e1 e2:Expr}{f1 f2:FE}{p1 lp a1 c1 zh zf:Pos}(h1:ED X EX e1 f1)(h2:ED X EX e2 f2)(hN:X.N[i]? =some x:=by rfl)(hv:Vis X.env.scope x:=by trivial)(hd:AG x:=by decide)
  (hcd:(x ==("__classdict__" :Str))=false:=by decide) (hm:M2 X (.Name x p1) "setdefault" a1 e1 (.List [] lp) c1:=by exact⟨rfl,rfl,rfl,rfl⟩)
  (hsw:swapsWith (.Call (.Attribute (.Call (.Attribute (.Name x p1) "setdefault" a1) [e1,.List [] lp] [] c1) "append" zh) [e2] [] zf) none pos.line X.env=pure false:=by rfl)
  (ag:attributeBase (.Call (.Attribute (.Name x p1) "setdefault" a1) [e1,.List [] lp] [] c1) "append" X.env (eval (.Call (.Attribute (.Name x p1) "setdefault" a1) [e1,.List [] lp] [] c1) X.env)=eval (.Call (.Attribute (.Name x p1) "setdefault" a1) [e1,.List [] lp] [] c1) X.env:=by rfl)
  (ax:((backTo zf (starEach [e2] X.env)).all (λx=> !x.1) && (backToKw zf (keywordEach [] X.env)).all (λx=>x.1.isSome)
   && decide ([e2].length + ([]:List Keyword).length + (if([]:List Keyword).isEmpty then 0 else 1) < 30))=true:=by rfl)
  (af:(zh.endLine ==zf.line)=true:=by rfl) (hs:starEach [e2] X.env=(false,eval e2 X.env)::starEach [] X.env:=by rfl) (aa:(backTo zf (starEach [] X.env)).any (·.1)=false:=by rfl):
  SD X EX (.Expr (.Call (.Attribute (.Call (.Attribute (.Name x p1) "setdefault" a1) [e1,.List [] lp] [] c1) "append" zh) [e2] [] zf) pos) (sSdb i f1 f2):=
 PS.imp (z_8 (bj_8 Q9 Q4 Q5 q_8 (da_2 (l_5 hN hv hd hcd) h1 (br_5 p_4) hm) (j_9 h2 p_4 hs) ag ax af hs aa) hsw) λD σ H ⟨H0,G0,G,Δ,O,E,q⟩=>by
  unfold sSdb at q
  split at q
  ·rename_i zm lk e0;obtain⟨s,e1,etr⟩:=U4.mp e0;obtain⟨v0,s1,t⟩:=E.ow i _ _ e1 (Sl.tree_own etr);obtain⟨a,kvs,S1,rfl,m,hH,hk,sub,rl⟩:=t.dic_of;refine⟨.ref a,s1,a,rfl,.inl ⟨kvs,.inl hH⟩,x_5 G H O,Au Δ,E.aH,E.gall, ?_⟩;cases e3:f1 (Au Δ) with
   |ex x=>simp only[e3]at q;exact q.elim
   |no=>simp only[e3]at q;exact q.elim
   |ok z1=>
    simp only[e3]at q;refine WP.intro λv1 G1 H1 st1 r1=> ?_
    split at q
    ·rename_i k1 ek1
     split at q
     ·rename_i hl
      split at q
      ·rename_i ts ev
       split at q
       ·rename_i hz;cases e4:f2 (Bf Δ) with
        |ex x=>simp only[e4]at q;exact q.elim
        |no=>simp only[e4]at q;exact q.elim
        |ok z2=>
         simp only[e4]at q
         ·have hv1:=ar_1 r1 ek1;subst hv1;refine⟨F7 _,λp hp=> ?_⟩;have E3:=E.keep st1.hh;have E5:=E3.keep (g_8 hp (.lst []));have hle:kvs.length=zm.length:=by
           have:=K5 List.length hk
           rwa[A3,A3]at this
          have hH5:upd H1 p (.lst []) a=some (.dK kvs):=g_8 hp _ _ _ (st1.hh _ _ hH);refine⟨kvs,k1,hH5,rfl,by rw[hle,D2];exact hl,λv hv=> ?_,λhn=> ?_⟩
          ·have hA:sdK zm k1=zm:=by
            unfold sdK;cases hA:Ck zm k1 with
            |some t=>rfl
            |none=>rw[bo_0 hk hA]at hv;cases hv
           rw[hA]at ev q;obtain⟨c,a',fz,s1',hH',ec,ty,td⟩:=by_6 (D:=D) (EX:=EX) E5 e1 etr ev hz e4 q;rw[s1]at s1';cases s1';rw[hH5]at hH';cases hH';rw[hv]at ec;cases ec;exact⟨ty,td⟩
          ·have hA:Ck zm k1=none:=by
            cases hA:Ck zm k1 with
            |none=>rfl
            |some t=>
             obtain⟨v',_,ev',_⟩:=OwL.focusK k1 hk rl hA;rw[hn]at ev';cases ev'
           have hK:sdK zm k1=zm ++ [(k1,.lst [])]:=by unfold sdK;rw[hA]
           rw[hK]at ev q;have npO:∀j b,O j b->b≠p:=λj b hb z=>by
            have h0:=(E.out j b hb).2.2;cases e:H b with
            |none=>exact h0 e
            |some o=>rw[z]at e;rw[st1.hh _ _ e]at hp;cases hp
           have hap:a≠p:=npO i a m;have ja:(kvs.any λkv=>decide (kv.1=k1))=false:=by
            rw[x_7,hn];rfl
           have ff:Fm kvs k1 (.ref p)=kvs ++ [(k1,.ref p)]:=by
            rw[bx_9];unfold Eh;rw[ja];rfl
           rw[ff];have Gp:G p=none:=E3.st.gh.free hp;have old:∀b o,H1 b=some o->upd H1 p (.lst []) b=some o:=λb o z=>g_8 hp _ b o z;have hp1:upd H1 p (.lst []) p=some (.lst []):=Bp;have ms:MStep2 (O i) G H1 G (upd (upd H1 p (.lst [])) a (.dK (kvs ++ [(k1,.ref p)]))):=⟨λb o nb z=>by rw[Aq (λw=>nb (by rw[w];exact m))];exact old b o z,λb o z=>by
            have:b≠a:=λw=>by rw[w,(E.out i a m).1]at z;cases z
            rw[Aq this];exact old b o (E3.st.gh b o z),Same.refl _,λb _ z _=>z⟩
           have E6:Ev X.K H0 G0 G (upd (upd H1 p (.lst [])) a (.dK (kvs ++ [(k1,.ref p)]))) σ (Δ.set i (Sl.mk lk (.dic (zm ++ [(k1,.lst [])])))) (Ey O i λb=>O i b\/b=p):=by
            refine E3.step2 (S:=λb=>O i b\/b=p) (Sl.mk_own lk _) (Sl.mk_lk lk _) (E3.mk_lt e1 etr _) ms s1 (λb hb=> ?_) ?_
            ·rcases hb with hb|hb
             ·refine⟨.inl hb,(E3.out i b hb).1, ?_⟩
              by_cases w:b=a
              ·rw[w,Bp];simp
              ·rw[Aq w];cases e:H1 b with
               |none=>exact absurd e (E3.out i b hb).2.2
               |some o=>rw[old b o e];simp
             ·subst hb;exact⟨.inr hp,Gp,by rw[Aq (Ne.symm hap),hp1];simp⟩
            ·refine Ow.dic (S1:=λb=>S1 b\/b=p) Bp (by rw[F1,F1,hk];rfl) (.inl m) (λb hb=> ?_) ?_
             ·rcases hb with hb|hb
              ·exact⟨.inl (sub b hb).1,(sub b hb).2⟩
              ·subst hb;exact⟨.inr rfl,Ne.symm hap⟩
             ·rw[F1,F1];refine OwL.append (S2:=λb=>b=p) (rl.mono (Same.refl _) (λb o hb z=> ?_) λ_ z=>z) (.cons (S1:=λb=>b=p) (S2:=λ_=>False) (.lst (S1:=λ_=>False) (by rw[Aq (Ne.symm hap)];exact hp1) rfl (λ_ z=>z.elim) .nil) .nil (λ_ _ z=>z) (λ_ z=>z) λ_ z=>z.elim) (λb z1 z2=>npO i b (sub b z1).1 z2) (λb z=> .inl z) λb z=> .inr z;rw[Aq (sub b hb).2];exact old _ _ (st1.hh _ _ z)
           have hlt:i < Δ.length:=(B2.mp e1).1;obtain⟨c,a',fz,s1',hH',ec,ty,td⟩:=by_6 (D:=D) (EX:=EX) (lk:=lk) E6 (s:=Sl.mk lk (.dic (zm ++ [(k1,.lst [])]))) (by rw[F6 hlt]) (by cases lk <;> rfl) ev hz (by rw[da_7 e1 etr];exact e4) (λ σ' G' H' O' E' sg=>q σ' G' H' O' (by rw[List.set_set]at E';exact E') sg);rw[s1]at s1';cases s1';rw[Bp]at hH';cases hH';rw[<-ff,cj_4,if_pos rfl]at ec;cases ec;exact⟨ty,td⟩
       ·exact q.elim
      ·exact q.elim
     ·exact q.elim
    ·exact q.elim
  ·exact q.elim
end
end L3
namespace PySem.W
open PySem PySem.Calls PyProof.Rows PySem.Spec
section
variable{prog:Program}{w:World}{A:Around}{E:AA}{s:Shared}{T:String}{r d:Addr}{n:Nat}{P:Nat->Value->Prop}{OK:Heap->Prop}
def collect_kdl{Q:List Value->Shared->Prop}(K:KdlSrc prog w T r d n P OK)(hh:A.handled=none)(hok:OK s.heap)(hn:n<=sizeLine)
  (hQ:∀h' tk zn,(∀b o,s.heap.get? b=some o->h'.get? b=some o)->s.heap.objs.size<=h'.objs.size->ItemsOf P zn n->Q zn.toList {s with heap:=h',toks:=tk}):wpAny (model prog w) A (collect (.ref r)) Q E s:=by
 have hlt:=K.there _ hok;unfold collect;refine A4 (wpAny_runValue (ZC9 PySem.F.entry_proto_collect ?_));rw[X2 PySem.F.plain_proto_collect _];show wpAny _ A.in1 (newList [] >>=λl=>again (.builtin "list.__iadd__" ⟨[l,.ref r],[]⟩)) _ _ s;refine A4 (S5 ?_);refine C5 ⟨ZD4 ZA7 _,ZC9 PySem.F.entry_list_iadd ?_⟩;rw[X2 ZA7 _];have hS₁:(s.heap.push {cls:=.type "list",data:=.seq ([]:List Value).toArray}).get? s.heap.objs.size=some {cls:=.type "list",data:=.seq #[] 0}:=B8 _ rfl;show wpAny _ A.in1 (Builtin.List.listExtendWith (.ref s.heap.objs.size) (.ref r) (.ref s.heap.objs.size)) _ _ _;have fin:∀{rr:Result} {s':Shared},(∃h' tk az c',rr=.ok (.ret (.ref s.heap.objs.size))/\s'={s with heap:=h',toks:=tk}/\(∀b o,b≠s.heap.objs.size->(s.heap.push {cls:=.type "list",data:=.seq ([]:List Value).toArray}).get? b=some o->h'.get? b=some o)/\h'.get? s.heap.objs.size=some {cls:=.type "list",dict:=none,data:=.seq az c',slots:= #[]}/\ItemsOf P az n)->
   rr=.ok (.ret (.ref s.heap.objs.size))/\wpAny (model prog w) A (load s.heap.objs.size >>=λo=>match o.data with| .seq xs _=>pure xs.toList|_=>unsupported "internal:collect") Q E s':=by
  rintro rr s' ⟨h',tk,az,c',rfl,rfl,hk,hS',cy⟩
  refine⟨rfl,A4 (wpAny_load hS' ?_)⟩;exact C5 (hQ h' tk az (λb o e=>hk b o (B4 (A6 e)) (A5 _ e)) (R5 (A6 hS')) cy)
 refine D1 (kdl_extend (R:=λrr s'=>∃h' tk az c',rr=.ok (.ret (.ref s.heap.objs.size))/\s'={s with heap:=h',toks:=tk}/\(∀b o,b≠s.heap.objs.size->(s.heap.push {cls:=.type "list",data:=.seq ([]:List Value).toArray}).get? b=some o->h'.get? b=some o)/\h'.get? s.heap.objs.size=some {cls:=.type "list",dict:=none,data:=.seq az c',slots:= #[]}/\ItemsOf P az n)
  (s:={s with heap:=s.heap.push {cls:=.type "list",data:=.seq ([]:List Value).toArray}}) K hh (K.keep _ _ hok λb _ o e=>A5 _ e) s.heap.objs.size (R6 hlt.1) (R6 hlt.2) (.ref s.heap.objs.size) 0 hS₁ (λh' tk az c' hk hS' cy=>⟨h',tk,az,c',rfl,rfl,hk,hS',cy⟩) hn) (λf s' hf=> ?_) λe s' hf=> ?_
 ·cases f with
  |done f=>
   obtain⟨e,q⟩:=fin hf;cases e;exact q
  |again c'=>
   refine⟨hf.1,R7 hf.2 λrr s'' h=> ?_⟩;obtain⟨e,q⟩:=fin h;cases e;exact q
 ·obtain⟨e,_⟩:=fin hf;cases e
end
section
variable{prog:Program}{w:World}{A:Around}{E:AA}{s:Shared}{a kS:Addr}{vs:List Value}{kz:List Int}{e1:Nat}{P:PySem.Fin->Shared->Prop}
end
end PySem.W
namespace L3
open PySem PySem.Spec PyProof.Rows L2
variable{K:Frag}{fd:FuncData}{mg:AB}{us:List Value}{base:Heap}{H:Hp}{X:Cx}{pos:Pos}
def w_2(F:AF):List D->R (List (Int×D))
 | []=> .ok []
 |d::ds=>(F [d]).bind λw=>match w.d with
  | .int n=>(w_2 F ds).bind λr=> .ok ((n,d)::r)
  |_=> .no
def insK(p:Int×D):List (Int×D)->List (Int×D)
 | []=> [p]
 |q::r=>if p.1<=q.1 then p::q::r else q::insK p r
def Fq:List (Int×D)->List (Int×D)
 | []=> []
 |p::r=>insK p (Fq r)
def ba_6(F:AF)(ds:List D):R W:=match w_2 F ds with
 | .ok ps=>if ps.length < 64/\(ps.map (·.1)).Nodup then .ok (.ow (.lst ((Fq ps).map (·.2)))) else .no
 |_=> .no
section
variable{X:Cx}{zd:AE}{σ:Sg}{H:Hp}{s:Shared}
end
theorem ai_7(p:Int×D):∀l:List (Int×D),(insK p l).Perm (p::l)
 | []=> .refl _
 |q::r=>by
  unfold insK
  split
  ·exact .refl _
  ·exact(List.Perm.cons q (ai_7 p r)).trans (List.Perm.swap p q r)
theorem ad_5:∀l:List (Int×D),(Fq l).Perm l
 | []=> .refl _
 |p::r=>(ai_7 p (Fq r)).trans (.cons p (ad_5 r))
theorem ak_4(p:Int×D):∀{l:List (Int×D)},l.Pairwise (λa b=>a.1<=b.1)->(insK p l).Pairwise (λa b=>a.1<=b.1)
 | [],_=>by unfold insK;simp
 |q::r,h=>by
  rw[P0]at h;unfold insK
  split
  ·rename_i hl;refine P0.mpr ⟨λz hz=> ?_,P0.mpr h⟩;rcases C4.mp hz with rfl|hz
   ·exact hl
   ·exact ZC0 hl (h.1 z hz)
  ·rename_i hl;refine P0.mpr ⟨λz hz=> ?_,ak_4 p h.2⟩;rcases C4.mp ((ai_7 p r).mem_iff.mp hz) with rfl|hz
   ·omega
   ·exact h.1 z hz
theorem w_3:∀l:List (Int×D),(Fq l).Pairwise (λa b=>a.1<=b.1)
 | []=> .nil
 |p::r=>ak_4 p (w_3 r)
theorem as_3{α β:Type}{R:α->β->Prop}{a:α}:∀{A:List α} {B:List β},Paired R A B->a∈A->∃l1 l2 m1 m2 b,A=l1 ++ a::l2/\B=m1 ++ b::m2/\R a b/\Paired R (l1 ++ l2) (m1 ++ m2)
 |_,_,.cons (a:=x) (b:=y) (l₁:=A) (l₂:=B) r t,h=>by
  by_cases e:a=x
  ·subst e;exact⟨[],A,[],B,y,rfl,rfl,r,t⟩
  ·rcases C4.mp h with z|h
   ·exact absurd z e
   ·obtain⟨l1,l2,m1,m2,b,rfl,rfl,rb,pr⟩:=as_3 t h;exact⟨x::l1,l2,y::m1,m2,b,rfl,rfl,rb,.cons r pr⟩
theorem y_5{α β:Type}{R:Int×α->Int×β->Prop}(hR:∀p q,R p q->p.1=q.1):∀{A:List (Int×α)} {A0:List (Int×α)} {B0 B:List (Int×β)},Paired R A0 B0->A.Perm A0->B.Perm B0->(B0.map (·.1)).Nodup->A.Pairwise (λp q=>p.1<=q.1)->B.Pairwise (λp q=>p.1<=q.1)->Paired R A B
 | [],A0,B0,B,r,pa,pb,_,_,_=>by
  have:A0= []:=pa.symm.eq_nil;subst this;cases r;have:B= []:=pb.eq_nil;subst this;exact .nil
 |a::A,A0,B0,B,r,pa,pb,nd,sa,sb=>by
  obtain⟨l1,l2,m1,m2,b,rfl,rfl,rb,pr⟩:=as_3 r (pa.mem_iff.mp (.head _));have pa':A.Perm (l1 ++ l2):=(List.perm_cons a).mp (pa.trans W5);have bB:b∈B:=pb.mem_iff.mpr (by simp);rw[P0]at sa;cases B with
  |nil=>cases bB
  |cons c B=>
   rw[P0]at sb;have gb:∀z∈m1 ++ m2,a.1<=z.1:=λz hz=>by
    have:∀{A:List (Int×α)} {B:List (Int×β)},Paired R A B->∀z∈B,∃y∈A,y.1=z.1:=λ{A B} p=>by
     induction p with
     |nil=>intro z hz;cases hz
     |cons rr _ ih=>
      intro z hz;rcases C4.mp hz with rfl|hz
      ·exact⟨_,.head _,hR _ _ rr⟩
      ·obtain⟨y,hy,e⟩:=ih z hz;exact⟨y,.tail _ hy,e⟩
    obtain⟨y,hy,e⟩:=this pr z hz;rw[<-e];exact sa.1 y (pa'.mem_iff.mpr hy)
   have eb:a.1=b.1:=hR _ _ rb;have cb:c=b:=by
    have hc:c∈m1 ++ b::m2:=pb.mem_iff.mp (.head _);have hc':c=b\/c∈m1 ++ m2:=by
     rcases J7.mp hc with h|h
     ·exact .inr (M5 _ h)
     ·rcases C4.mp h with h|h
      ·exact .inl h
      ·exact .inr (A9 _ h)
    rcases hc' with h|h
    ·exact h
    ·exfalso;have h1:=gb c h;have h2:c.1<=b.1:=by
      rcases C4.mp bB with z|z
      ·rw[z];exact Int.le_refl _
      ·exact sb.1 b z
     have h3:c.1=b.1:=by omega
     have nd':((b::(m1 ++ m2)).map (·.1)).Nodup:=(List.Perm.map _ (W5 (a:=b) (l₁:=m1) (l₂:=m2))).nodup_iff.mp nd;rw[B1,J8]at nd';exact nd'.1 (by rw[<-h3];exact List.mem_map_of_mem h)
   subst cb;have pb':B.Perm (m1 ++ m2):=(List.perm_cons c).mp (pb.trans W5);have nd':((m1 ++ m2).map (·.1)).Nodup:=by
    have nd':((c::(m1 ++ m2)).map (·.1)).Nodup:=(List.Perm.map _ (W5 (a:=c) (l₁:=m1) (l₂:=m2))).nodup_iff.mp nd;rw[B1,J8]at nd';exact nd'.2
   exact .cons rb (y_5 hR pr pa' pb' nd' sa.2 sb.2)
theorem ba_7{F:AF}:∀{ds:List D} {ps:List (Int×D)},w_2 F ds=.ok ps->Paired (λd (p:Int×D)=>p.2=d/\∃w,F [d]=.ok w/\w.d=.int p.1) ds ps
 | [],_,e=>by cases e;exact .nil
 |d::ds,ps,e=>by
  unfold w_2 at e;cases ef:F [d] with
  |ok w=>
   rw[ef]at e;simp only[R.bind_ok]at e;cases ew:w.d with
   |int n=>
    rw[ew]at e;simp only at e;cases er:w_2 F ds with
    |ok r=>rw[er]at e;cases e;exact .cons ⟨rfl,w,ef,ew⟩ (ba_7 er)
    |ex x=>rw[er]at e;cases e
    |no=>rw[er]at e;cases e
   |_=>rw[ew]at e;cases e
  |ex x=>rw[ef]at e;cases e
  |no=>rw[ef]at e;cases e
def co_5{v:V}{k:Ak}{u:Value}(r:RelV v u)(q:RelV (kV k) u):v=kV k:=by
 cases k with
 |inl i=>
  obtain⟨t,rfl⟩:=q;cases v with
  |int j=>obtain⟨t',e⟩:=r;cases e;rfl
  |str x=>obtain⟨t',e⟩:=r;cases e
  |byt x=>obtain⟨t',e⟩:=r;cases e
  |flt x=>obtain⟨t',e⟩:=r;cases e
  |_=>cases r
 |inr x=>
  obtain⟨t,rfl⟩:=q;cases v with
  |str y=>obtain⟨t',e⟩:=r;cases e;rfl
  |int j=>obtain⟨t',e⟩:=r;cases e
  |byt x=>obtain⟨t',e⟩:=r;cases e
  |flt x=>obtain⟨t',e⟩:=r;cases e
  |_=>cases r
abbrev RelK(p:Int×Value)(q:Int×D):Prop:=p.1=q.1/\∃k0,q.2=kD k0/\RelV (kV k0) p.2
theorem zipR{F:AF}:∀{ks:List Ak} {vs:List Value} {ps:List (Int×D)},Vals (ks.map kV) vs->Paired (λd (p:Int×D)=>p.2=d/\∃w,F [d]=.ok w/\w.d=.int p.1) (ks.map kD) ps->Paired RelK ((ps.map (·.1)).zip vs) ps
 | [],_,_,r,q=>by cases r;cases q;exact .nil
 |k::ks,_,_,r,q=>by
  rw[B1]at r q;cases r with
  |cons h t=>
   cases q with
   |cons h2 t2=>exact .cons ⟨rfl,k,h2.1,h⟩ (zipR t t2)
theorem outR{G:Hp}:∀{ps:List (Int×Value)} {qs:List (Int×D)} {us:List V},Paired RelK ps qs->Vals us (ps.map Prod.snd)->HasL K G us (qs.map (·.2))
 | [],_,_,r,h=>by cases r;cases h;exact .nil
 |p::ps,_,_,r,h=>by
  rw[B1]at h;cases r with
  |cons r t=>
   cases h with
   |cons hv ht=>
    obtain⟨_,k0,e,rk⟩:=r;rw[B1,e];exact .cons (by rw[co_5 hv rk];exact cm_0 k0) (outR t ht)
theorem Paired.getL{α β:Type}{R:α->β->Prop}:∀{A:List α} {B:List β} {i:Nat} {a:α} {b:β},Paired R A B->A[i]? =some a->B[i]? =some b->R a b
 |_,_,_,_,_,.nil,e,_=>by simp at e
 |_,_,0,_,_,.cons r _,e,e'=>by
  simp at e e';subst e e';exact r
 |_,_,i + 1,_,_,.cons _ t,e,e'=>Paired.getL (i:=i) t (by simpa using e) (by simpa using e')
section
variable{X:Cx}{EX:Az}{pos:Pos}
end
end L3
namespace L3
open PySem PySem.W PyProof.Rows
variable{K:Frag}{fd:FuncData}{mg:AB}{us:List Value}{base:Heap}{H:Hp}{X:Cx}{pos:Pos}
section
variable{N:Nat}{key:Nat->Int}{cmp:Nat->Nat->(Bool->Shared->Prop)->Shared->Prop}{s:Shared}
structure GoodP(N:Nat)(p:Array Nat):Prop where
 size:p.size=N
 perm:p.toList.Perm (List.range N)
abbrev kp(key:Nat->Int)(p:Array Nat)(i:Nat):Int:=key (p.getD i 0)
def GoodP.lt{p:Array Nat}(g:GoodP N p){i:Nat}(h:i < N):p.getD i 0 < N:=by
 have h':i < p.size:=by rw[g.size];exact h
 have e:p.getD i 0=p[i]:=by simp[Array.getD,h']
 rw[e];exact K0.mp (g.perm.mem_iff.mp (by simp))
def GoodP.inj{p:Array Nat}(g:GoodP N p){i j:Nat}(hi:i < N)(hj:j < N)(e:p.getD i 0=p.getD j 0):i=j:=by
 have h1:i < p.size:=by rw[g.size];exact hi
 have h2:j < p.size:=by rw[g.size];exact hj
 have e1:p.getD i 0=p[i]:=by simp[Array.getD,h1]
 have e2:p.getD j 0=p[j]:=by simp[Array.getD,h2]
 rw[e1,e2]at e;have nd:p.toList.Nodup:=g.perm.nodup_iff.mpr List.nodup_range;have pw:=P2.mp nd;rcases S6 i j with h|h|h
 ·exact absurd (by rw[S7,S7];exact e) (pw i j _ _ h)
 ·exact h
 ·exact absurd (by rw[S7,S7];exact e.symm) (pw j i _ _ h)
def ao_5{p q:Array Nat}{i j:Nat}(h:p[i]? =q[j]?):p.getD i 0=q.getD j 0:=by
 rw[Y0,Y0,h]
def GoodP.rev{p:Array Nat}(g:GoodP N p)(i j:Nat):GoodP N (kas_rev p i j):=⟨(mirror_size _ _ _ _).trans g.size,(Y9.mp (mirror_perm p i j _)).trans g.perm⟩
def GoodP.bub{p:Array Nat}(g:GoodP N p)(i j:Nat):GoodP N (bubble p i j):=⟨(bubble_size _ _ _).trans g.size,(Y9.mp (bubble_perm p i j)).trans g.perm⟩
def Asc(key:Nat->Int)(p:Array Nat)(n:Nat):Prop:=∀i j,i < j->j < n->kp key p i < kp key p j
def Des(key:Nat->Int)(p:Array Nat)(n:Nat):Prop:=∀i j,i < j->j < n->kp key p j < kp key p i
def df_1(N:Nat)(key:Nat->Int)(cmp:Nat->Nat->(Bool->Shared->Prop)->Shared->Prop)(s:Shared):Prop:=(∀i j,i < N->j < N->key i=key j->i=j)/\∀i j C,i < N->j < N->i≠j->C (decide (key i < key j)) s->cmp i j C s
variable(T:df_1 N key cmp s)
include T
theorem af_7{p:Array Nat}(g:GoodP N p){i j:Nat}(hi:i < N)(hj:j < N)(hn:i≠j){C:Bool->Shared->Prop}(h1:kp key p i < kp key p j->C true s)(h2:kp key p j < kp key p i->C false s):cmp (p.getD i 0) (p.getD j 0) C s:=by
 refine T.2 _ _ _ (g.lt hi) (g.lt hj) (λe=>hn (g.inj hi hj e)) ?_
 by_cases h:key (p.getD i 0) < key (p.getD j 0)
 ·rw[F5 h];exact h1 h
 ·rw[F8 h];have:key (p.getD i 0)≠key (p.getD j 0):=λe=>hn (g.inj hi hj (T.1 _ _ (g.lt hi) (g.lt hj) e));exact h2 (show key _ < key _ by omega)
theorem Asc.up{p:Array Nat}{n:Nat}(h:Asc key p n)(h1:1<=n)(hn:kp key p (n - 1) < kp key p n):Asc key p (n + 1):=λi j hij hj=>by
 by_cases e:j=n
 ·subst e
  by_cases e2:i=j - 1
  ·subst e2;exact hn
  ·exact V1 (h i (j - 1) () ()) hn
 ·exact h i j hij ()
theorem Des.up{p:Array Nat}{n:Nat}(h:Des key p n)(h1:1<=n)(hn:kp key p n < kp key p (n - 1)):Des key p (n + 1):=λi j hij hj=>by
 by_cases e:j=n
 ·subst e
  by_cases e2:i=j - 1
  ·subst e2;exact hn
  ·exact V1 hn (h i (j - 1) () ())
 ·exact h i j hij ()
theorem bu_2{p:Array Nat}(g:GoodP N p):∀(f n:Nat) {Q:Nat->Shared->Prop},1<=n->n + f<=N->Asc key p n->(∀m,n<=m->m<=n + f->Asc key p m->(m < n + f->kp key p m < kp key p (m - 1))->Q m s)->(kas_asc p f n).kasWp cmp Q s
 |0,n,Q,_,_,ha,hq=>hq n (A8 _) (A8 _) ha λh=>absurd h (E9 _)
 |f + 1,n,Q,h1,hN,ha,hq=>by
  show cmp (p.getD n 0) (p.getD (n - 1) 0) _ s;refine af_7 T g () () () (λh=> ?_) λh=> ?_
  ·simp only[if_true];exact hq n (A8 _) () ha λ_=>h
  ·simp only[D8,L9];exact bu_2 g f (n + 1) () () (Asc.up T ha h1 h) λm a1 a2 a3 a4=>hq m () () a3 λhm=>a4 ()
theorem by_7{p:Array Nat}(g:GoodP N p):∀(f n:Nat) {Q:Array Nat×Nat×Nat->Shared->Prop},1<=n->n + f<=N->Des key p n->(∀m,n<=m->m<=n + f->Des key p m->Q (p,m,0) s)->(kas_desc f p n 0).kasWp cmp Q s
 |0,n,Q,_,_,ha,hq=>hq n (A8 _) (A8 _) ha
 |f + 1,n,Q,h1,hN,ha,hq=>by
  show cmp (p.getD n 0) (p.getD (n - 1) 0) _ s;refine af_7 T g () () () (λh=> ?_) λh=> ?_
  ·simp only[if_true,E9,gt_iff_lt,L9];exact by_7 g f (n + 1) () () (Des.up T ha h1 h) λm a1 a2 a3=>hq m () () a3
  ·simp only[D8,L9];show cmp (p.getD (n - 1) 0) (p.getD n 0) _ s;refine af_7 T g () () () (λh'=> ?_) λh'=> ?_
   ·simp only[if_true];exact hq n (A8 _) () ha
   ·exact absurd (V1 h h') (Int.lt_irrefl _)
theorem da_9{p:Array Nat}(g:GoodP N p){n:Nat}(hn:n<=N)(h:Des key p n):Asc key (kas_rev p 0 n) n:=λi j hij hj=>by
 have at':∀k,k < n->kp key (kas_rev p 0 n) k=kp key p (n - 1 - k):=λk hk=>by
  have:=getElem?_mirror_all (xs:=p) (i:=0) (j:=n) (by rw[g.size];exact hn) k;rw[if_pos ⟨F7 _,hk⟩,O5]at this;exact K5 key (ao_5 this)
 rw[at' i (),at' j hj];exact h (n - 1 - j) (n - 1 - i) () ()
theorem db_0{p:Array Nat}(g:GoodP N p){n:Nat}{Q:Nat×Array Nat->Shared->Prop}(h1:1<=n)(hn:n + 1<=N)(hd:Des key p (n + 1))(hq:∀m q,1<=m->m<=N->GoodP N q->Asc key q m->Q (m,q) s):(kas_descPart n N p).kasWp cmp Q s:=by
 unfold kas_descPart;rw[T7];refine by_7 T g (N - (n + 1)) (n + 1) () () hd λm a1 a2 a3=> ?_;simp only[gt_iff_lt,E9,L9];unfold kas_tail3;rw[T7];refine bu_2 T (g.rev 0 m) (N - m) m () () (da_9 T g () a3) λm' b1 b2 b3 _=> ?_;exact hq m' _ () () (g.rev 0 m) b3
theorem co_6{p:Array Nat}(g:GoodP N p){Q:Nat×Array Nat->Shared->Prop}(h1:1<=N)(hq:∀m q,1<=m->m<=N->GoodP N q->Asc key q m->Q (m,q) s):(kas_count N p).kasWp cmp Q s:=by
 unfold kas_count;rw[T7];refine bu_2 T g (N - 1) 1 (A8 _) () (λi j hij hj=>by omega) λn a1 a2 a3 a4=> ?_
 by_cases e:n=N
 ·subst e;simp only[O7,if_true];exact hq n p a1 (A8 _) g a3
 ·have e':(n ==N)=false:=by simpa using e
  simp only[e',D8,L9]
  by_cases h2:n > 1
  ·rw[if_pos h2];show cmp (p.getD 0 0) (p.getD (n - 1) 0) _ s;refine af_7 T g () () () (λh=> ?_) λh=> ?_
   ·simp only[if_true];exact hq n p a1 () g a3
   ·exact absurd (V1 h (a3 0 (n - 1) () ())) (Int.lt_irrefl _)
  ·rw[if_neg h2];have:n=1:=by omega
   subst this;have h10:=a4 ();exact db_0 T g (A8 _) () (λi j hij hj=>by
    have:i=0/\j=1:=by omega
    obtain⟨rfl,rfl⟩:=this;exact h10) hq
theorem as_4{p:Array Nat}(g:GoodP N p){k:Nat}(hk:k < N):∀(f l r:Nat) {Q:Nat->Shared->Prop},r - l<=f->l<=r->r<=k->(∀i,i < l->kp key p i < kp key p k)->(∀i,r<=i->i < k->kp key p k < kp key p i)->(∀m,m<=k->(∀i,i < m->kp key p i < kp key p k)->(∀i,m<=i->i < k->kp key p k < kp key p i)->Asc key p k->Q m s)->Asc key p k->(kas_place p k f l r).kasWp cmp Q s
 |0,l,r,Q,hf,hlr,hrk,h1,h2,hq,ha=>hq l () h1 (λi hi hk=>h2 i () hk) ha
 |f + 1,l,r,Q,hf,hlr,hrk,h1,h2,hq,ha=>by
  unfold kas_place
  by_cases e:l≥r
  ·rw[if_pos e];exact hq l () h1 (λi hi hk=>h2 i () hk) ha
  ·rw[if_neg e];show cmp (p.getD k 0) (p.getD ((l + r) / 2) 0) _ s;refine af_7 T g hk () () (λh=> ?_) λh=> ?_
   ·simp only[if_true];refine as_4 g hk f l ((l + r) / 2) () () () h1 (λi hi hik=> ?_) hq ha
    by_cases e2:i=(l + r) / 2
    ·subst e2;exact h
    ·exact V1 h (ha _ i () hik)
   ·simp only[D8,L9];refine as_4 g hk f ((l + r) / 2 + 1) r () () hrk (λi hi=> ?_) h2 hq ha
    by_cases e2:i=(l + r) / 2
    ·subst e2;exact h
    ·exact V1 (ha i _ () ()) h
theorem db_1{p:Array Nat}(g:GoodP N p){k l:Nat}(hk:k < N)(hl:l<=k)(h1:∀i,i < l->kp key p i < kp key p k)(h2:∀i,l<=i->i < k->kp key p k < kp key p i)(ha:Asc key p k):Asc key (bubble p k (k - l)) (k + 1):=λi j hij hj=>by
 have b:=getElem?_bubble (xs:=p) (src:=k) (by rw[g.size];exact hk) (k - l) ();have e:k - (k - l)=l:=by omega
 have at0:kp key (bubble p k (k - l)) l=kp key p k:=K5 key (ao_5 (by rw[b l,e,if_pos rfl]));have at1:∀x,x < l->kp key (bubble p k (k - l)) x=kp key p x:=λx hx=>K5 key (ao_5 (by rw[b x,e,if_neg (),if_neg ()]));have at2:∀x,l < x->x<=k->kp key (bubble p k (k - l)) x=kp key p (x - 1):=λx hx hxk=>K5 key (ao_5 (by rw[b x,e,if_neg (),if_pos ⟨hx,hxk⟩]));rcases S6 i l with h|h|h
 ·rw[at1 i h];rcases S6 j l with h'|h'|h'
  ·rw[at1 j h'];exact ha i j hij ()
  ·rw[h',at0];exact h1 i h
  ·rw[at2 j h' ()];exact ha i (j - 1) () ()
 ·rw[h,at0,at2 j () ()];exact h2 (j - 1) () ()
 ·rw[at2 i h (),at2 j () ()];exact ha (i - 1) (j - 1) () ()
theorem co_7:∀(f:Nat) (p:Array Nat) (k:Nat) {Q:Array Nat->Shared->Prop},GoodP N p->f + k=N->Asc key p k->(∀q,GoodP N q->Asc key q N->Q q s)->(kas_bin f p k).kasWp cmp Q s
 |0,p,k,Q,g,hk,ha,hq=>hq p g (by rw[O5]at hk;rw[<-hk];exact ha)
 |f + 1,p,k,Q,g,hk,ha,hq=>by
  unfold kas_bin;rw[T7];refine as_4 T g () k 0 k () () (A8 _) (λi hi=>by omega) (λi h1 h2=>by omega) (λm a1 a2 a3 a4=> ?_) ha;exact co_7 f _ (k + 1) (g.bub k (k - m)) () (db_1 T g () a1 a2 a3 a4) hq
theorem db_2(h1:1<=N){Q:Array Nat->Shared->Prop}(hq:∀q,GoodP N q->Asc key q N->Q q s):(kas_sort N).kasWp cmp Q s:=by
 unfold kas_sort;rw[T7];have g0:GoodP N (List.toArray (List.range N)):=⟨by simp,by simp⟩;refine co_6 T g0 h1 λm q a1 a2 a3 a4=> ?_
 by_cases h:m < N
 ·rw[if_pos h];have e:max m 1=m:=by omega
  rw[e];exact co_7 T (N - m) q m a3 () a4 hq
 ·rw[if_neg h];have:m=N:=by omega
  subst this;exact hq q a3 a4
end
end L3
namespace L3
open PySem PySem.Spec PySem.W PyProof.Rows L2
variable{K:Frag}{fd:FuncData}{mg:AB}{us:List Value}{base:Heap}{H:Hp}{X:Cx}{pos:Pos}
abbrev w_4:Str:= "numbers_by_bucket.<locals>.<lambda>"
def LamC(H:Hp)(P c:Addr):Prop:=∃o us t,H c=some (.frz o (.own P))/\o.data=.fields us/\us[1]? =some (.str "numbers_by_bucket.<locals>.<lambda>" t)
def LamC.mono{H H':Hp}{P c:Addr}(s:Same H H')(h:LamC H P c):LamC H' P c:=let⟨o,us,t,e,r⟩:=h;⟨o,us,t,s _ _ e,r⟩
def bu_3{pos pos':Pos}{c cv:Value}(l:List Value)(h:TriplesOk l)(e:codeAmong pos' (l ++ [rawInt pos.line,rawInt pos.col,c])=some cv):codeAmong pos' l=some cv\/cv=c:=by
 fun_induction TriplesOk l with
 |case1=>
  simp only[P5,codeAmong,rawInt]at e
  split at e
  ·cases e;exact .inr rfl
  ·cases e
 |case2 a t b u x v_2 ih=>
  simp only[Q8,codeAmong]at e⊢
  split at e
  ·rename_i hc;rw[if_pos hc];exact .inl e
  ·rename_i hc;rw[if_neg hc];exact ih h e
 |case3 l h1 h2=>exact h.elim
section
variable{X:Cx}{zd:AE}{σ:Sg}{H:Hp}{s:Shared}{A:Around}{E:AA}
def Inv.pinned{h':Heap}{tk:Nat}{o:Obj}(I:Inv X zd σ H {s with heap:=h',toks:=tk})(hd:∀v,o.data≠ .cell v)(hfr:o.isFreed=false):Inv X ((h'.objs.size,o)::zd) σ H {s with heap:=h'.push o,toks:=tk}:=by
 have I2:Inv X zd σ H {s with heap:=h'.push o,toks:=tk}:=I.kept (t':=tk) λb u e=>A5 _ e;refine I2.pins_of λp hp=> ?_;rcases C4.mp hp with rfl|hp
 ·refine⟨B8 _ hfr,I.hok.fresh (A8 _),λz=> ?_,I.nofs (A8 _),hd⟩;have:=I.lt;rw[<-z]at this;exact absurd this (E9 _)
 ·exact I2.pin p (A9 _ hp)
def co_8{params:Arguments}{body:Expr}{scope:Scope}{c P:Addr}{clos:List (Str×Addr)}{Q:AA}(I:Inv X zd σ H s)(ht:tabIn X.K "numbers_by_bucket" =some (c,P))(hcd:codeHdIn X.K c P=true)(ah:X.env.code=.ref c)
  (hq:X.env.qual ++ "<lambda>" =w_4) (gn:defaultsOf params X.env=([],[])) (hcl:closureFor scope X.env=pure clos)
  (h:∀f c' pm ctv H' s',Same H H'->LamC H' P c'->Inv X ((f,kla_obj "<lambda>" w_4 params body scope clos pm c' ctv)::zd) σ H' s'->Q (.ref f) s'):wpAny (model X.prog X.w) A (eval (.Lambda params body scope pos) X.env) Q E s:=by
 refine kla_eval gn ?_;rw[hq];obtain⟨ps,hH⟩:=I.tab c P ht;obtain⟨vs,hP,tr,reg⟩:=I.hok P _ hH;have C:CodeHd s.heap c P:=codeHd_of_K I.kIn hcd;have hg:s.heap.Ns mainGlobals X.mg:=I.ok.mod.glob.keeps λb o e=>(I.bs b o e).1;have hgP:mainGlobals≠P:=λq=>by
  obtain⟨o,es,ep,e,hd,_⟩:=hg;rw[q,hP]at e;cases e;cases hd
 have hb:s.heap.BuiltinsAt X.mg P:=by
  obtain⟨bm,ob,b1,b2,b3,b4,b5,b6⟩:=I.ok.mod.bm;have b3':=(I.bs _ _ b3).1;refine⟨bm,ob,b1,b2,λq=> ?_,λq=> ?_,b3',b4,b5,b6⟩
  ·obtain⟨o,es,ep,e,hd,_⟩:=hg;rw[q,e]at b3';cases b3';rw[hd]at b6;cases b6
  ·rw[q,hP]at b3';cases b3';cases b4
 cases hf:codeAmong pos vs.toList with
 |some cv=>
  obtain⟨c',o,us,t,rfl,r⟩:=reg pos cv hf;refine kla_makeFunctionHit hcl I.ok.glob hg ah C hP tr hf hb λctv h' tk hk hsz=> ?_;exact h h'.objs.size c' _ ctv H _ (Same.refl _) ⟨o,us,t,r⟩ (Inv.pinned (I.kept (t':=tk) hk) (λv z=>by cases z) rfl)
 |none=>
  refine kla_makeFunction hcl I.ok.glob hg ah C hP tr hf hgP hb λc' ctv h' tk hx hge hlt gq htb=> ?_;obtain⟨c2,oc,us,t,e2,hoc,hd,hv⟩:=gq;cases e2;have hn:H c'=none:=I.hok.fresh hge;have up:Same H (upd H c' (.frz oc (.own P))):=g_8 hn _;have iu:HOk X.prog X.w (upd H c' (.frz oc (.own P))) h':=λb u e=>by
   by_cases z:b=c'
   ·subst z;rw[Bp]at e;cases e;exact⟨hoc,oc,hoc⟩
   ·rw[Aq z]at e
    by_cases z2:b=P
    ·subst z2;rw[hH]at e;cases e;refine⟨_,htb, ?_,λpos' cv q=> ?_⟩
     ·have:=TriplesOk_snoc pos.line pos.col (.ref c') vs.toList tr;simpa using this
     ·rcases bu_3 (pos:=pos) (c:=.ref c') vs.toList tr (by simpa using q) with q|rfl
      ·obtain⟨c3,o3,us3,t3,e3,e4,r⟩:=reg pos' cv q;exact⟨c3,o3,us3,t3,e3,up _ _ e4,r⟩
      ·exact⟨c',oc,us,t,rfl,Bp,hd,hv⟩
    ·refine(I.hok b u e).stay (λx v hxx r=>hx x v (λz3=> ?_) r) (λx r=>up _ _ r) (λx xs r=>up _ _ r) λx o r=>up _ _ r;rcases hxx with rfl|hxx
     ·exact z2 z3
     ·rw[z3,hH]at hxx;cases hxx
  have nP:∀b,H b=none->b≠P:=λb n z=>by rw[z,hH]at n;cases n
  have I1:Inv X zd σ (upd H c' (.frz oc (.own P))) {s with heap:=h',toks:=tk}:=I.un (t':=tk) ⟨λb o q n _ _=>hx b o (nP b n) q,λb o q n _ _=>⟨o.slots,hx b o (nP b n) q⟩,
   λb o q n _=>by rw[Aq (B4 (B9 (A6 q) hge))];exact n,λb o q _=>by
    by_cases z:b=P
    ·subst z;exact⟨_,htb⟩
    ·exact⟨o,hx b o z q⟩,λb xs e=>up _ _ e,λb o u e=>up _ _ e,λb ps e=>⟨#[],by rw[up _ _ e];simp⟩⟩ iu
  exact h h'.objs.size c' _ ctv _ _ up ⟨oc,us,t,Bp,hd,hv⟩ (Inv.pinned I1 (λv z=>by cases z) rfl)
structure LamN(X:Cx)(scope:Scope)(cl:List (Str×Addr)):Prop where
 clos:closureFor scope X.env=pure cl
 cell:∀y∈scope.names,y.2≠ .cell
 sub:∀y c,cl.lookup y=some c->X.env.cells.lookup y=some c
 has:∀y,scope.names.lookup y=some .free->∃c,cl.lookup y=some c
 old:∀(i:Nat) (y:Str),X.N[i]? =some y->Vis scope y->(X.env.scope.names.lookup y=some .cell\/X.env.scope.names.lookup y=some .free)/\scope.names.lookup y=some .free
def db_3{scope:Scope}{x:Str}(ok:X.Ok)(hb:Ex scope.names X.env.scope.names X.N (X.N ++ [x])=true):LamN X scope (Dg X.env.cells scope.names []):=by
 unfold Ex at hb;rw[C9]at hb;obtain⟨h1,h2⟩:=hb;have h1:=F2.mp h1;have h2:=F2.mp h2;have fr:∀p∈scope.names,p.2=.free->∃c,X.env.cells.lookup p.1=some c:=λp hp hf=>by
  have z:=h1 p hp;simp only[hf,C9,R8,bne_iff_ne,L6]at z;exact ok.has p.1 (by
   rcases z.2 with z|z
   ·exact absurd rfl z
   ·exact z)
 refine⟨ab_8 fr,λp hp hc=> ?_,λy c e=> ?_,λy e=>Q3.mp (aq_5 (K3 e)),λi y e hv=> ?_⟩
 ·have z:=h1 p hp;rw[hc]at z;simp at z
 ·rcases aq_4 (K3 e) with z|⟨z1,z2⟩
  ·exact absurd z (by simp)
  ·obtain⟨c',e'⟩:=fr (y,.free) z1 rfl;have z2:c=(X.env.cells.lookup y).getD 0:=z2;have e':X.env.cells.lookup y=some c':=e';rw[e']at z2⊢;cases z2;rfl
 ·have hi:i < X.N.length:=(B2.mp e).1;have z:=h2 i (K0.mpr hi);rw[B7 hi,e]at z;dsimp only at z;cases q:scope.names.lookup y with
  |none=>unfold Vis at hv;rw[q]at hv;simp at hv
  |some k=>
   unfold Vis at hv;rw[q]at z hv;cases k with
   |free=>
    simp only[C9,R8,L6]at z;exact⟨z.2,rfl⟩
   |cell=>simp at z
   |«local»=>simp at z
   |globalExplicit=>simp at hv
   |globalImplicit=>simp at hv
def ba_8(X:Cx)(A:Around)(scope:Scope)(f c:Addr)(cl:List (Str×Addr))(x:Str)(s:Shared)(H:Hp)(zd:AE):Cx where
 prog:=X.prog
 w:=X.w
 K:=X.K
 mg:=X.mg
 base:=X.base
 A:=A.deeper (envX w_4 scope s.heap.objs.size f (.ref c) cl)
 N:=X.N ++ [x]
 s₀:=s
 H₀:=H
 env:=envX w_4 scope s.heap.objs.size f (.ref c) cl
 outer:=X.stack
 stack:=envX w_4 scope s.heap.objs.size f (.ref c) cl::X.stack
 ex:=[]
 fn:=λ_=>false
 calm:=true
 pn:=X.pn ++ zd
 xe:=λ_ _=>False
def co_9{f c P:Addr}{cl:List (Str×Addr)}{pm ctv:Value}{params:Arguments}{body:Expr}{scope:Scope}{x:Str}{u:Value}{v:V}{d:D}{G:Hp}{δ:DE}{w:W}{fb:FE}{Q:VK}(I:Inv X zd σ H s)(hp:(f,kla_obj "<lambda>" w_4 params body scope cl pm c ctv)∈X.pn ++ zd)(hc:LamC H P c)(n:LamN X scope cl)
  (hk:scope.kind=.function) (hco:scope.isCoroutine=false) (hge:scope.isGenerator=false) (bu:scope.names.lookup x=some .local) (ak:bindArgs (kla_fn "<lambda>" w_4 params body scope cl pm (.ref c) ctv) ⟨[u],[]⟩=pure [(x,u)]) (hA:A.frames=X.A.frames) (hr:RoomC true 1 A)
  (g:Same G H) (h0:HasS X.K G σ δ) (rv:RelV v u) (hv:Has X.K G v d) (zj:ED (ba_8 X A scope f c cl x s H zd) Ds body fb) (e:fb (δ ++ [some d])=.ok w) (q:WP X.K G H w Q):wpAny (model X.prog X.w) A (call (.ref f) [u]) (EP X zd σ Q) (λ_ _=>False) s:=by
 have pf:=I.pin _ hp;obtain⟨o,us,t,eo,ed,et⟩:=hc;have hcr:s.heap.CodeRec (.ref c) w_4:=⟨c,o,us,t,rfl,(I.hok c _ eo).1,ed,et⟩;have lim:s.heap.NoLimit:=I.ok.mod.nolimit.keeps λb o e=>(I.bs b o e).1;have dp:A.depth < recursionLimit:=by have:=hr.dp;omega
 refine T9 (R7 (R:=λr s'=>match r with| .ok (.ret z)=>EP X zd σ Q z s'|_=>False) (kla_callFunE dp pf.1 rfl hco hge rfl hcr ?_) λr s' hq=> ?_)
 ·rw[ak];refine C5 (X0 n.cell (λy hy=> ?_) (λh₁ hns hsb=>⟨lim.fresh _ hsb, ?_⟩) hk)
  ·rw[K7.mp hy];exact bu
  show codeAny _ _ (.expr body (envX w_4 scope s.heap.objs.size f (.ref c) cl)) _ _;have up:∀b o,s.heap.get? b=some o->h₁.get? b=some o:=λb o e=>hsb.extBut b o (B4 (A6 e)) (A5 _ e);have ok':(ba_8 X A scope f c cl x s H zd).Ok:=⟨I.ok.mod,hk,rfl,rfl,A8 _,λy z c h1 h2=>I.ok.inj y z c (n.sub y c h1) (n.sub z c h2),λy hy=>by
    have hy:scope.names.lookup y=some .cell\/scope.names.lookup y=some .free:=hy;rcases hy with hy|hy
    ·exact absurd rfl (n.cell _ (K3 hy))
    ·exact n.has y hy,λ_ _ z=>absurd z A7,λ_=>hr.hd rfl,W8 (hA.trans I.ok.frames),.inr ⟨rfl,rfl⟩,λb z=>absurd (show b∈([]:List Addr) from z) (by simp),I.bs,C7 I.ok.bsz I.sz,
    λb _ _ z=>absurd (show b∈([]:List Addr) from z) (by simp),λb z=>absurd (show b∈([]:List Addr) from z) (by simp),I.stack,I.stkFree,I.tab⟩
  have lenσ:σ.length=X.N.length:=I.len;have I4:Inv (ba_8 X A scope f c cl x s H zd) [] (σ ++ [some v]) H {s with heap:=h₁,toks:=s.toks + [(x,u)].length}:=by
   refine⟨ok',rfl,I.bare,Un.kept up,⟨_,hns,λi y v' e1 e2 e3=> ?_⟩,λy c e=> ?_,I.hok.fresh (A8 _),λy c e=>I.freeC y c (n.sub y c e),λp hp=> ?_,I.hok.kept up, ?_⟩
   ·have e1:(X.N ++ [x])[i]? =some y:=e1
    by_cases hi:i < X.N.length
    ·rw[B7 hi]at e1;rw[B7 (by rw[lenσ];exact hi)]at e2;obtain⟨n2,n4⟩:=n.old i y e1 e3;obtain⟨c1,n3⟩:=n.has y n4;obtain⟨mm,hnm,hl⟩:=I.loc;obtain⟨u',r,l⟩:=hl i y v' e1 e2 (.inr n2);refine⟨u',r,.inr ⟨.inr n4,c1,n3, ?_⟩⟩;have n3':=n.sub y c1 n3;rcases l with⟨k1,k2⟩|⟨k1,c',k2,k3⟩
     ·exfalso;have k1':X.env.scope.names.lookup y=some .local:=k1;rcases n2 with n2|n2
      ·rw[n2]at k1';cases k1'
      ·rw[n2]at k1';cases k1'
     ·rw[n3']at k2;cases k2;exact k3.keeps up
    ·have hi2:i=X.N.length:=by
      have:=(B2.mp e1).1;rw[B5,L8]at this;omega
     subst hi2;rw[D0 (A8 _),ZC1]at e1;rw[<-lenσ,D0 (A8 _),ZC1]at e2;cases e1;cases e2;exact⟨u,rv,.inl ⟨bu,by simp⟩⟩
   ·obtain⟨v,hv⟩:=I.cell y c (n.sub y c e);exact⟨v,hv.keeps up⟩
   ·have hp':p∈X.pn ++ zd:=by
     have hp2:p∈(X.pn ++ zd) ++ []:=hp
     rwa[D7]at hp2
    obtain⟨z1,z2,z3,z4,z5⟩:=I.pin p hp';refine⟨up _ _ z1,z2,B4 (A6 z1),λz=> ?_,z5⟩;rcases C4.mp (I.stkSub p.1 z) with z|z
    ·exact z3 z
    ·exact z4 z
   ·show(σ ++ [some v]).length=(X.N ++ [x]).length;rw[B5,B5,lenσ];rfl
  have hS:HasS X.K G (σ ++ [some v]) (δ ++ [some d]):=by
   refine⟨by rw[B5,B5,h0.len];rfl,λi d' e=> ?_⟩
   by_cases hh:i < δ.length
   ·rw[B7 hh]at e;obtain⟨v,e1,r⟩:=h0.get i d' e;exact⟨v,by rw[B7 (by rw[h0.len];exact hh)];exact e1,r⟩
   ·have hi2:i=δ.length:=by
     have:=(B2.mp e).1;rw[B5,L8]at this;omega
    subst hi2;rw[D0 (A8 _),ZC1]at e;cases e;exact⟨v,by rw[<-h0.len,D0 (A8 _),ZC1];rfl,hv⟩
  exact kla_codeExpr (D1 (zj [] _ (σ ++ [some v]) H Q I4 ⟨G,δ ++ [some d],g,hS,by rw[e];exact q⟩) (λz s' ⟨v',H',J,rv',q'⟩=>I.after ⟨v',H',J.os,J.bare,J.base,J.hok,rv',q'⟩) λ_ _ z=>False.elim z)
 ·cases r with
  |error e=>exact hq
  |ok fl=>
   cases fl with
   |ret z=>exact hq
   |next=>exact hq
   |brk=>exact hq
   |cont=>exact hq
end
end L3
namespace L3
open PySem PySem.W PySem.Spec PyProof.Rows
variable{K:Frag}{fd:FuncData}{mg:AB}{us:List Value}{base:Heap}{H:Hp}{X:Cx}{pos:Pos}
def ai_8(h:Heap)(u:Value)(p:Int×Int):Prop:=∃a o xs n t t',u=.ref a/\h.get? a=some o/\o.cls=.type "tuple" /\o.data=.seq xs n/\xs.toList= [.int p.1 t,.int p.2 t']
def Dt(p:Int×Int):Int:=p.1 * 4611686018427387904 + p.2
def In62(p:Int×Int):Prop:=0<=p.2/\p.2 < 4611686018427387904
theorem as_5{h:Heap}:∀{ks:List Value} {ps:List (Int×Int)},Paired (ai_8 h) ks ps->∃fs,KatTups h ks fs/\IntsAre fs (ps.map (·.1))
 |_,_,.nil=>⟨[],.nil,.nil⟩
 |_,_,.cons r t=>by
  obtain⟨fs,q,i⟩:=as_5 t;obtain⟨a,o,xs,n,t1,t2,rfl,ho,hc,hd,hx⟩:=r;exact⟨_,.cons ho hc hd (f:=.int _ t1) (by rw[<-V9,hx];rfl) q,.cons _ _ i⟩
theorem as_6{h:Heap}:∀{ks:List Value} {ps:List (Int×Int)} {i:Nat},Paired (ai_8 h) ks ps->i < ks.length->ai_8 h (ks.getD i Value.none) (ps.getD i (0,0))
 |_,_,_,.nil,hi=>absurd hi (Nat.not_lt_zero _)
 |_,_,0,.cons r t,hi=>by simpa using r
 |_,_,i + 1,.cons r t,hi=>by simpa using as_6 (i:=i) t (by simpa using hi)
section
variable{prog:Program}{w:World}{A:Around}{E:AA}{s:Shared}{vs ks:List Value}{ps:List (Int×Int)}
def bo_4(t:Paired (ai_8 s.heap) ks ps)(hb:∀p∈ps,In62 p)(nd:(ps.map Dt).Nodup):df_1 ks.length (λi=>(ps.map Dt).getD i 0) (kas_ask prog w A (tuples' true) ks) s:=by
 have hl:ps.length=ks.length:=(S0 t).symm;have gk:∀i,i < ks.length->(ps.map Dt).getD i 0=Dt (ps.getD i (0,0)):=λi hi=>by
  have:i < ps.length:=by omega
  simp[this]
 have inj:∀i j,i < ks.length->j < ks.length->(ps.map Dt).getD i 0=(ps.map Dt).getD j 0->i=j:=λi j hi hj e=>by
  have h1:i < (ps.map Dt).length:=by rw[A3];omega
  have h2:j < (ps.map Dt).length:=by rw[A3];omega
  have e1:(ps.map Dt).getD i 0=(ps.map Dt)[i]:=by rw[F0,B6 h1];rfl
  have e2:(ps.map Dt).getD j 0=(ps.map Dt)[j]:=by rw[F0,B6 h2];rfl
  rw[e1,e2]at e;have pw:=P2.mp nd;rcases S6 i j with h|h|h
  ·exact absurd e (pw i j h1 h2 h)
  ·exact h
  ·exact absurd e.symm (pw j i h2 h1 h)
 refine⟨inj,λi j C hi hj hn hC=> ?_⟩;have hne:Dt (ps.getD i (0,0))≠Dt (ps.getD j (0,0)):=λz=>hn (inj i j hi hj (by rw[gk i hi,gk j hj];exact z));have mem:∀k,k < ks.length->In62 (ps.getD k (0,0)):=λk hk=>by
  have h1:k < ps.length:=by omega
  have:ps.getD k (0,0)=ps[k]:=by rw[F0,B6 h1];rfl
  rw[this];exact hb _ (W3 h1)
 obtain⟨b1,b2⟩:=mem i hi;obtain⟨d1,d2⟩:=mem j hj;obtain⟨a,o,xs,n,tk,tk2,e1,e2,_,e3,e4⟩:=as_6 t hi;obtain⟨a',o',xs',n',tk',jl,f1,f2,_,f3,f4⟩:=as_6 t hj;have ee:decide (Dt (ps.getD i (0,0)) < Dt (ps.getD j (0,0)))=decide ((ps.map Dt).getD i 0 < (ps.map Dt).getD j 0):=by rw[gk i hi,gk j hj]
 have hC:C (decide (Dt (ps.getD i (0,0)) < Dt (ps.getD j (0,0)))) s:=by rw[ee];exact hC
 unfold Dt at hC hne;unfold kas_ask;rw[e1,f1];refine kat_lt e2 e3 f2 f3 ?_;rw[e4,f4];generalize ps.getD i (0,0)=p at *
 generalize ps.getD j (0,0)=q at *
 show wpAny _ _ (eqBool _ _) _ _ _;refine ZA1 ?_
 by_cases hpq:p.1=q.1
 ·have ne:(p.1 ==q.1)=true:=by rw[L6];exact hpq
  have ne2:(p.2 ==q.2)=false:=by
   rw[N4];intro z;rw[hpq,z]at hne;exact hne rfl
  rw[ne];simp only[if_true];show wpAny _ _ (eqBool _ _) _ _ _;refine ZA1 ?_;rw[ne2];simp only[D8,L9];refine kat_one _ _ (wpAny_lt_int ?_);have ed:decide (p.1 * 4611686018427387904 + p.2 < q.1 * 4611686018427387904 + q.2)=decide (p.2 < q.2):=by
   rw[hpq];exact ZA8.mpr ()
  rw[ed]at hC
  first
   |exact hC
   |exact⟨_,rfl,hC⟩
 ·have ne:(p.1 ==q.1)=false:=by rw[N4];exact hpq
  rw[ne];simp only[D8,L9];have ed:decide (p.1 * 4611686018427387904 + p.2 < q.1 * 4611686018427387904 + q.2)=decide (p.1 < q.1):=ZA8.mpr ();rw[ed]at hC;exact oneLt_int hC
def by_8{a kS:Addr}{e e1:Nat}{st:SortSt}{out:List Value}{P:PySem.Fin->Shared->Prop}(hk:s.heap.get? kS=some (seqObj "list" ks.toArray e))(ha:s.heap.get? a=some (seqObj "list" #[] e1))(hka:kS≠a)(gz:(arrOf st).map (·.2)=List.toArray out)(hz:out.length < 64)(hkz:ks.length < 64)(hf:failedOf st=none)
  (h:P (.done (.ret .none)) {s with heap:=(s.heap.update kS (Obj.mapSeq λ_=>(#[]:Array Value))).update a (Obj.mapSeq λ_=>List.toArray out)}):wpAny (model prog w) A (ksk_tail a false e1 (.ref kS) st) P E s:=by
 have s1:=Q6 s.heap kS (Obj.mapSeq λ_=>(#[]:Array Value));have na:(s.heap.update kS (Obj.mapSeq λ_=>(#[]:Array Value))).get? a=some (seqObj "list" #[] e1):=(s1.2 a hka.symm).trans ha;unfold ksk_tail
 try dsimp only
 rw[gz];refine A4 (Z8 hk rfl ?_ (by rw[C1,D2];omega) (F7 _));refine A4 (wpAny_letGo ?_);refine A4 (seqEpoch_at na rfl ?_);refine A4 (Z8 na rfl ?_ (F7 _) (by simp only[D8,L9];rw[C1,D2];omega));rw[hf];simp only[bne_self_eq_false,D8,L9];exact C5 h
def cf_3{a kS:Addr}{e e1:Nat}{P:PySem.Fin->Shared->Prop}(hk:s.heap.get? kS=some (seqObj "list" ks.toArray e))(ha:s.heap.get? a=some (seqObj "list" #[] e1))(hka:kS≠a)(hl:ks.length=vs.length)(h64:vs.length < 64)(t:Paired (ai_8 s.heap) ks ps)(hb:∀p∈ps,In62 p)(nd:(ps.map Dt).Nodup)
  (h:∀p:Array Nat,GoodP vs.length p->Asc (λi=>(ps.map Dt).getD i 0) p vs.length->P (.done (.ret .none)) {s with heap:=(s.heap.update kS (Obj.mapSeq λ_=>(#[]:Array Value))).update a (Obj.mapSeq λ_=>List.toArray (p.toList.map λi=>vs.getD i Value.none))}):
  wpAny (model prog w) A (ksk_end a false vs.toArray e1 (.ref kS) ks.toArray) P E s:=by
 have hsz:vs.toArray.size=vs.length:=by simp
 unfold ksk_end;simp only[D8,L9]
 try dsimp only
 by_cases h2:vs.toArray.size < 2
 ·rw[if_pos h2,if_pos h2];refine A4 (C5 ?_);rw[StateT.run_pure];refine A4 (C5 ?_)
  try dsimp only
  have g0:GoodP vs.length (List.toArray (List.range vs.length)):=⟨by simp,by simp⟩;have q:=h _ g0 (λi j hij hj=>by rw[hsz]at h2;omega);refine by_8 hk ha hka (kat_snds hl ?_) (by rw[A3];simpa using h64) () rfl q;exact(kas_range (ks.toArray.zip vs.toArray)).symm.trans (by rw[show(ks.toArray.zip vs.toArray).size=vs.length by simp[hl]])
 ·rw[if_neg h2,if_neg h2];obtain⟨fs,tt,ia⟩:=as_5 t;have hpl:ps.length=ks.length:=(S0 t).symm;have hf:0 < fs.length:=by
   have:fs.length=(ps.map (·.1)).length:=ia.length;rw[A3]at this;rw[hsz]at h2;omega
  refine A4 (kat_kind (T:=.type "int") tt hf (λv hv=> ?_) (by rfl) ?_)
  ·have:∀{fs:List Value} {kz:List Int},IntsAre fs kz->v∈fs->∃n t,v=.int n t:=λ{fs kz} ia=>by
    induction ia with
    |nil=>intro h;cases h
    |cons n t r ih=>
     intro h;rcases C4.mp h with rfl|h
     ·exact⟨n,t,rfl⟩
     ·exact ih h
   obtain⟨n,t,rfl⟩:=this ia hv;exact .now
  ·refine A4 (D1 (kat_run (Q:=λst' s'=>s'=s/\∃p:Array Nat,arrOf st'=p.map (kas_item (ks.toArray.zip vs.toArray))/\failedOf st'=none/\GoodP vs.length p/\Asc (λi=>(ps.map Dt).getD i 0) p vs.length) (G:=λp s'=>s'=s/\GoodP vs.length p/\Asc (λi=>(ps.map Dt).getD i 0) p vs.length)
    hl () h64 (λp' st' s' a1 a2 a3 a4=>⟨a4.1,p',a2,a3,a4.2⟩) (db_2 (by rw[<-hl];exact bo_4 t hb nd) () λq g as=>⟨rfl,g,as⟩)) ?_ λ_ _ e=>e)
   rintro ⟨⟨⟩,st'⟩ s' ⟨rfl,p,har,hf',g,as⟩
   try dsimp only
   exact by_8 hk ha hka (kat_snds hl har) (by rw[A3,L5,g.size];exact h64) () hf' (h p g as)
def cf_4{f:Value}{a kS:Addr}{e1:Nat}{P:PySem.Fin->Shared->Prop}(J:Nat->Array Value->Shared->Prop)(j0:J 0 #[] s)(h64:vs.length < 64)
  (turn:∀(i:Nat) (v:Value) (kA:Array Value) (s':Shared),vs[i]? =some v->J i kA s'->
   wpAny (model prog w) A (call f [v]) (λu s''=>∃e,s''.heap.get? kS=some (seqObj "list" kA e)/\kA.size=i/\J (i + 1) (kA.push u) {s'' with heap:=s''.heap.update kS (Obj.mapSeq (·.push u))}) (λ_ _=>False) s')
  (at_:∀i kA s',J i kA s'->∃e,s'.heap.get? kS=some (seqObj "list" kA e))
  (h:∀kA s',J vs.length kA s'->wpAny (model prog w) A (ksk_end a false vs.toArray e1 (.ref kS) kA) P E s'):
  wpAny (model prog w) A (ksk_rest a f false vs.toArray e1 (.ref kS)) P E s:=by
 unfold ksk_rest;refine A4 (wpAny_rule ?_)
 first
  |rw[List.forIn_toArray]
  |(rw[<-Array.forIn_toList];simp only[List.toList_toArray])
  |rw[<-Array.forIn_toList]
 refine A4 (ksk_fold (λi s'=>∃kA,J i kA s') vs 0 s ⟨#[],j0⟩ ?step ?done)
 case step=>
  rintro j x s' hx ⟨kA,hJ⟩
  simp only[O5]at hJ⊢;have hj:j < vs.length:=(B2.mp hx).1;refine A4 (wpAny_attempt (D1 (turn j x kA s' hx hJ) (λv s'' he=> ?_) λ_ _ hF=>hF.elim));obtain⟨e2,hat,hz,hJ2⟩:=he
  try dsimp only
  refine A4 (Z8 hat rfl ?_ (by rw[D2];omega) (C7 (P9 (Array.size_push ..)) (by rw[D2];omega)));exact C5 ⟨rfl,kA.push v,hJ2⟩
 case done=>
  rintro s' ⟨kA,hJ⟩
  rw[O5]at hJ;obtain⟨e,hat⟩:=at_ _ _ _ hJ
  try dsimp only
  refine A4 (listItems_at hat rfl ?_);exact h kA s' hJ
end
end L3
namespace L3
open PySem PySem.Spec PySem.W PyProof.Rows L2
variable{K:Frag}{fd:FuncData}{mg:AB}{us:List Value}{base:Heap}{H:Hp}{X:Cx}{pos:Pos}
def x_1(fb:FE)(δ:DE):List D->R W
 | [d]=>(fb (δ ++ [some d])).bind λw=>match w.d with
  | .tup [.int a,.int b]=>if 0<=b/\b < 4611686018427387904 then .ok (.sh (.int (a * 4611686018427387904 + b))) else .no
  |_=> .no
 |_=> .no
def y_6(fb:FE)(f:FE):FE:=λ δ=>(f δ).bind λw=>match w.d with
 | .dic kds=>ba_6 (x_1 fb δ) (kds.map λp=>kD p.1)
 |_=> .no
def cp_1{fb:FE}{δ:DE}{d:D}{w:W}{k:Int}(e:x_1 fb δ [d]=.ok w)(ew:w.d=.int k):∃w' a b,fb (δ ++ [some d])=.ok w'/\w'.d=.tup [.int a,.int b]/\In62 (a,b)/\k=Dt (a,b):=by
 unfold x_1 at e;dsimp only at e;cases q:fb (δ ++ [some d]) with
 |ok w'=>
  rw[q]at e;simp only[R.bind_ok]at e
  split at e
  ·rename_i a b e'
   split at e
   ·rename_i h;cases e;cases ew;exact⟨w',a,b,rfl,e',h,rfl⟩
   ·cases e
  ·cases e
 |ex x=>rw[q]at e;cases e
 |no=>rw[q]at e;cases e
def TupAt(K:Frag)(H:Hp)(u:Value)(p:Int×Int):Prop:=∃t,u=.ref t/\SqT K H t [.int p.1,.int p.2]
theorem TupAt.mono{K:Frag}{H H':Hp}(s:Same H H'):∀{us:List Value} {ps:List (Int×Int)},Paired (TupAt K H) us ps->Paired (TupAt K H') us ps
 |_,_,.nil=> .nil
 |_,_,.cons ⟨t,e,h⟩ r=> .cons ⟨t,e,Same.tupS s h⟩ (TupAt.mono s r)
theorem Paired.snoc{α β:Type}{R:α->β->Prop}{a:α}{b:β}:∀{A:List α} {B:List β},Paired R A B->R a b->Paired R (A ++ [a]) (B ++ [b])
 |_,_,.nil,r=> .cons r .nil
 |_,_,.cons q t,r=> .cons q (Paired.snoc t r)
section
variable{X:Cx}{zd:AE}{σ:Sg}{H:Hp}{s:Shared}
theorem TupAt.pair(I:Inv X zd σ H s):∀{us:List Value} {ps:List (Int×Int)},Paired (TupAt X.K H) us ps->Paired (ai_8 s.heap) us ps
 |_,_,.nil=> .nil
 |_,_,.cons ⟨t,e,h⟩ r=>by
  refine .cons ?_ (TupAt.pair I r);obtain⟨its,v,⟨o,g,c,n,d⟩,_⟩:=I.tuple h;cases v with
  |cons r1 v=>
   cases v with
   |cons r2 v=>
    cases v;obtain⟨t1,rfl⟩:=r1;obtain⟨t2,rfl⟩:=r2;exact⟨t,o,_,n,t1,t2,e,g,c,d,rfl⟩
def Inv.track{a:Addr}{h':Heap}{its:List Value}{us:List V}{c tk:Nat}(I:Inv X zd σ H s)(sb:Heap.SameBut a s.heap h')(ho:h'.get? a=some (seqObj "list" its.toArray c))(hu:Vals us its)(hz:us.length<=sizeLine)(ha0:H a=none)(haz:X.s₀.heap.objs.size<=a)(haL:a≠X.env.locals)
  (hac:∀x c,X.env.cells.lookup x=some c->c≠a) (hap:∀p∈X.pn ++ zd,p.1≠a):Inv X zd σ (upd H a (.lst us)) {s with heap:=h',toks:=tk}:=by
 have up:∀b u,H b=some u->upd H a (.lst us) b=some u:=λb u e=>by rw[Aq (Co e ha0)];exact e
 have k:∀b o,b≠a->s.heap.get? b=some o->h'.get? b=some o:=λb o hb e=>(sb.2 b hb).trans e;have nch:∀{b:Addr},b∉ [a]->b≠a:=λh z=>h (by simp[z]);refine I.step (g':=s.gens) (d':=s.drawn) (ch:=[a]) (λb hb=> ?_) (λb o _ _ hc e _=>k b o (nch hc) e) (λb o _ _ hc e _=>⟨o.slots,k b o (nch hc) e⟩) (λb o hc _ n=>by rw[Aq (nch hc)];exact n)
  (λb o hc e=>⟨o,k b o (nch hc) e⟩) (λb xs e=>up _ _ e) (λb o u e=>up _ _ e) (λb ps e=>⟨#[],by rw[up _ _ e];simp⟩) (λm hm=> ?_) (λb u e=> ?_) I.bare
 ·rw[K7.mp hb];exact⟨.inr haz,haL,hac,hap⟩
 ·obtain⟨o,es,ep,ho,r⟩:=hm;exact⟨o,es,ep,k _ o (Ne.symm haL) ho,r⟩
 ·by_cases z:b=a
  ·subst z;rw[Bp]at e;cases e;exact⟨hz,its,c,hu,ho⟩
  ·rw[Aq z]at e;refine(I.hok b u e).stay (λx v hx q=>k x v (λz3=> ?_) q) (λx q=>up _ _ q) (λx xs q=>up _ _ q) λx o q=>up _ _ q;rcases hx with rfl|hx
   ·exact z z3
   ·rw[z3,ha0]at hx;cases hx
def bu_4{A:Around}{E:AA}{P:PySem.Fin->Shared->Prop}{a:Addr}{n:Nat}{vs:List Value}{xs:List V}{ds:List D}{kz:List Int}{fb:FE}{δ:DE}{G:Hp}{f c Pt:Addr}{cl:List (Str×Addr)}{pm ctv:Value}{params:Arguments}{body:Expr}{scope:Scope}{x:Str}
  (I:Inv X zd σ H s) (ho:s.heap.get? a=some (seqObj "list" vs.toArray n)) (ha0:H a=none) (haz:X.s₀.heap.objs.size<=a) (haL:a≠X.env.locals)
  (hac:∀x c,X.env.cells.lookup x=some c->c≠a) (hap:∀p∈X.pn ++ zd,p.1≠a) (haf:a∉X.fs) (hv:Vals xs vs) (hx:∀(i:Nat) v d,xs[i]? =some v->ds[i]? =some d->∀G,Has X.K G v d) (hdl:ds.length=vs.length)
  (hkz:∀(i:Nat) d k,ds[i]? =some d->kz[i]? =some k->∃w,x_1 fb δ [d]=.ok w/\w.d=.int k) (zk:kz.length=vs.length) (h64:vs.length < 64) (nd:kz.Nodup)
  (pf:(f,kla_obj "<lambda>" w_4 params body scope cl pm c ctv)∈X.pn ++ zd) (hc:LamC H Pt c) (nm:LamN X scope cl) (hk:scope.kind=.function) (hco:scope.isCoroutine=false) (hge:scope.isGenerator=false) (bu:scope.names.lookup x=some .local)
  (ak:∀u,bindArgs (kla_fn "<lambda>" w_4 params body scope cl pm (.ref c) ctv) ⟨[u],[]⟩=pure [(x,u)]) (hA:A.frames=X.A.frames) (hr:RoomC true 1 A) (g:Same G H) (h0:HasS X.K G σ δ) (zj:∀A s H zd,RoomC true 1 A->ED (ba_8 X A scope f c cl x s H zd) Ds body fb)
  (h:∀(s':Shared) (H':Hp) (ps:List (Int×Value)) (us:List V),Same H H'->H' a=none->ps.Perm (kz.zip vs)->ps.Pairwise (λp q=>p.1<=q.1)->Vals us (ps.map Prod.snd)->us.length=vs.length->Inv X zd σ (upd H' a (.lst us)) s'->P (.done (.ret .none)) s'):
  wpAny (model X.prog X.w) A (PyProof.Rows.ksk_tree a (.ref f) false) P E s:=by
 have ha:a < s.heap.objs.size:=A6 ho;have s1:=Q6 s.heap a (Obj.mapSeq λ_=>(#[]:Array Value));obtain⟨e1,ho1⟩:∃e1,(s.heap.update a (Obj.mapSeq λ_=>(#[]:Array Value))).get? a=some (seqObj "list" #[] e1):=⟨_,get?_update_seq ho λ_=> #[]⟩;have hkS:((s.heap.update a (Obj.mapSeq λ_=>(#[]:Array Value))).push (seqObj "tuple" vs.toArray 0)).objs.size=s.heap.objs.size + 1:=by rw[size_push',Heap.size_update]
 generalize hq:((s.heap.update a (Obj.mapSeq λ_=>(#[]:Array Value))).push (seqObj "tuple" vs.toArray 0)).objs.size=kS at hkS;have hka:kS≠a:=by rw[hkS];exact R6 (V0 ha)
 have z1:X.s₀.heap.objs.size<=kS:=by rw[hkS];exact Nat.le_succ_of_le I.sz
 have npk:∀p∈X.pn ++ zd,p.1≠kS:=λp hp z=>by
  have:=A6 (I.pin p hp).1;rw[z,hkS]at this;exact absurd this (ZB9.mpr (N5 _))
 have I1:Inv X zd σ H {s with heap:=s.heap.update a (Obj.mapSeq λ_=>(#[]:Array Value))}:=I.turned (t':=s.toks) (λb o hb e=>(s1.2 b hb).trans e) ha0 haL (.inr haz) hac hap;have I2:Inv X zd σ H {s with heap:=((s.heap.update a (Obj.mapSeq λ_=>(#[]:Array Value))).push (seqObj "tuple" vs.toArray 0)).push (seqObj "list" #[] 0)}:=I1.kept (t':=s.toks) λb o e=>A5 _ (A5 _ e);have hk0:H kS=none:=I.hok.fresh (by rw[hkS];exact N5 _);have hkL:kS≠X.env.locals:=λz=>by have:=I.lt;rw[<-z,hkS]at this;exact absurd this (ZB9.mpr (N5 _))
 have hkf:kS∉X.fs:=I.nofs (by rw[hkS];exact N5 _);have nc:∀(l:Array Value) (e:Nat) v,(seqObj "list" l e).data≠ .cell v:=λl e v z=>by cases z
 let J:Nat->Array Value->Shared->Prop:=λi kA s'=>∃H' e qs,Same H H'/\Inv X ((kS,seqObj "list" kA e)::(a,seqObj "list" #[] e1)::zd) σ H' s'/\kA.size=i/\Paired (TupAt X.K H') kA.toList qs/\qs.map Dt=kz.take i/\∀p∈qs,In62 p
 have bc:∀{kA:Array Value} {e:Nat} {H':Hp} {s':Shared},Inv X zd σ H' s'->s'.heap.get? kS=some (seqObj "list" kA e)->s'.heap.get? a=some (seqObj "list" #[] e1)->H' kS=none->H' a=none->Inv X ((kS,seqObj "list" kA e)::(a,seqObj "list" #[] e1)::zd) σ H' s':=λ{kA e H' s'} J0 g1 g2 n1 n2=>by
  refine J0.pins_of λp hp=> ?_;rcases C4.mp hp with rfl|hp
  ·exact⟨g1,n1,hkL,hkf,nc _ _⟩
  ·rcases C4.mp hp with rfl|hp
   ·exact⟨g2,n2,haL,haf,nc _ _⟩
   ·exact J0.pin p (A9 _ hp)
 have pf':∀kA e,(f,kla_obj "<lambda>" w_4 params body scope cl pm c ctv)∈X.pn ++ ((kS,seqObj "list" kA e)::(a,seqObj "list" #[] e1)::zd):=λkA e=>by
  rcases J7.mp pf with z|z
  ·exact M5 _ z
  ·exact A9 _ (.tail _ (.tail _ z))
 have cl':∀{kA:Array Value} {e:Nat} {H':Hp} {s':Shared},Inv X ((kS,seqObj "list" kA e)::(a,seqObj "list" #[] e1)::zd) σ H' s'->∀x c,X.env.cells.lookup x=some c->c≠kS:=λ{kA e H' s'} J2 x c hc z=>by
  obtain⟨v,o,ho,hd⟩:=J2.cell x c hc;have pk:=J2.pin (kS,seqObj "list" kA e) (A9 _ (.head _));rw[z,pk.1]at ho;cases ho;exact pk.2.2.2.2 v hd
 unfold PyProof.Rows.ksk_tree;refine A4 (listItems_at ho rfl ?_);refine A4 (Z8 ho rfl ?_ (by rw[C1,D2];omega) (F7 _));refine A4 (seqEpoch_at ho1 rfl ?_);refine A4 (wpAny_newTuple ?_ (by show vs.length<=_;rw[D2];omega));refine A4 (wpAny_newList ?_ (F7 _));refine M7 ?_;show wpAny _ A (PyProof.Rows.ksk_rest a (.ref f) false vs.toArray e1 (.ref ((s.heap.update a (Obj.mapSeq λ_=>(#[]:Array Value))).push (seqObj "tuple" vs.toArray 0)).objs.size)) P E _;rw[hq];refine cf_4 J ?_ h64 (λi v kA s' ev hJ=> ?_) (λi kA s' hJ=> ?_) λkA s' hJ=> ?_
 ·refine⟨H,0,[],Same.refl _,bc I2 ?_ (A5 _ (A5 _ ho1)) hk0 ha0,rfl,.nil,rfl,λp hp=>nomatch hp⟩;rw[<-hq];exact B8 _ rfl
 ·obtain⟨H1,e,qs,sm,J1,hzk,tp,tk,tb⟩:=hJ;have hi:i < vs.length:=(B2.mp ev).1;have hix:i < xs.length:=by rw[hv.length];exact hi
  obtain⟨u,eu,ru⟩:=hv.get (B6 hix);rw[ev]at eu;cases eu;have hid:i < ds.length:=by rw[hdl];exact hi
  have hik:i < kz.length:=by rw[zk];exact hi
  obtain⟨w,ew,en⟩:=hkz i _ _ (B6 hid) (B6 hik);obtain⟨w',x1,x2,ew',en',h62,ek⟩:=cp_1 ew en;refine D1 (co_9 (Q:=λv' H2=>Same H1 H2/\∃t,v'=.ref t/\SqT X.K H2 t [.int x1,.int x2]) J1 (pf' kA e) (hc.mono sm) nm hk hco hge bu (ak _) hA hr (g.trans sm) h0 ru (hx i _ _ (B6 hix) (B6 hid) G) (zj _ _ _ _ hr) ew' (WP.intro λv' G' H' st r=> ?_)) (λz s2 hz=> ?_) λ_ _ z=>z
  ·rw[en']at r;cases r with
   |tup hsq rl=>
    cases rl with
    |cons r1 rl=>
     cases rl with
     |cons r2 rl=>
      cases rl;cases r1;cases r2;exact⟨st.hh,_,rfl,Same.tupS st.gh hsq⟩
  ·obtain⟨v',H2,J2,rz,sm2,t,rfl,hsq⟩:=hz;obtain rfl:z=Value.ref t:=rz;have pk:=J2.pin (kS,seqObj "list" kA e) (A9 _ (.head _));have pa:=J2.pin (a,seqObj "list" #[] e1) (A9 _ (.tail _ (.head _)));refine⟨e,pk.1,hzk, ?_⟩;have J3:Inv X zd σ H2 s2:=J2.pins_of λp hp=>J2.pin p (A9 _ (.tail _ (.tail _ hp)));have sb:=Q6 s2.heap kS (Obj.mapSeq (·.push (.ref t)));have J4:Inv X zd σ H2 {s2 with heap:=s2.heap.update kS (Obj.mapSeq (·.push (.ref t)))}:=J3.turned (t':=s2.toks) (λb o hb e=>(sb.2 b hb).trans e) pk.2.1 hkL (.inr z1) (cl' J2) npk;refine⟨H2,_,qs ++ [(x1,x2)],sm.trans sm2,bc J4 (get?_update_seq pk.1 (·.push (.ref t))) ((sb.2 a hka.symm).trans pa.1) pk.2.1 pa.2.1,by rw[Array.size_push,hzk], ?_, ?_,λp hp=> ?_⟩
   ·rw[Array.toList_push];exact Paired.snoc (TupAt.mono sm2 tp) ⟨t,rfl,hsq⟩
   ·rw[F1,tk,Z6,B6 hik,ek];rfl
   ·rcases J7.mp hp with hp|hp
    ·exact tb p hp
    ·rw[K7.mp hp];exact h62
 ·obtain⟨H1,e,qs,sm,J1,_⟩:=hJ;exact⟨e,(J1.pin (kS,seqObj "list" kA e) (A9 _ (.head _))).1⟩
 ·obtain⟨H1,e,qs,sm,J1,hzk,tp,tk,tb⟩:=hJ;have pk:=J1.pin (kS,seqObj "list" kA e) (A9 _ (.head _));have pa:=J1.pin (a,seqObj "list" #[] e1) (A9 _ (.tail _ (.head _)));have tk:qs.map Dt=kz:=by rw[tk];exact List.take_of_length_le ()
  have J3:Inv X zd σ H1 s':=J1.pins_of λp hp=>J1.pin p (A9 _ (.tail _ (.tail _ hp)));rw[show kA=kA.toList.toArray by simp];refine cf_3 (ks:=kA.toList) (ps:=qs) (e:=e) (by simpa using pk.1) pa.1 hka (by rw[L5,hzk]) h64 (TupAt.pair J1 tp) tb (by rw[tk];exact nd) λp gp as=> ?_;rw[tk]at as;have sb:=Q6 s'.heap kS (Obj.mapSeq λ_=>(#[]:Array Value));have J4:Inv X zd σ H1 {s' with heap:=s'.heap.update kS (Obj.mapSeq λ_=>(#[]:Array Value))}:=J3.turned (t':=s'.toks) (λb o hb e=>(sb.2 b hb).trans e) pk.2.1 hkL (.inr z1) (cl' J1) npk;have na:(s'.heap.update kS (Obj.mapSeq λ_=>(#[]:Array Value))).get? a=some (seqObj "list" #[] e1):=(sb.2 a hka.symm).trans pa.1;have lt:∀i∈p.toList,i < vs.length:=λi hi=>K0.mp (gp.perm.mem_iff.mp hi);have xl:xs.length=vs.length:=hv.length;have hus:Vals (p.toList.map λi=>xs.getD i V.non) (p.toList.map λi=>vs.getD i Value.none):=by
   have all:∀l:List Nat,(∀i∈l,i < vs.length)->Vals (l.map λi=>xs.getD i V.non) (l.map λi=>vs.getD i Value.none):=by
    intro l
    induction l with
    |nil=>intro _;exact .nil
    |cons i l ih=>
     intro hl;have hi:=hl i (.head _);refine .cons ?_ (ih λj hj=>hl j (.tail _ hj));obtain⟨u,eu,ru⟩:=hv.get (B6 (show i < xs.length by omega));show RelV (xs.getD i V.non) (vs.getD i Value.none);rw[F0,F0,B6 (show i < xs.length by omega),eu];exact ru
   exact all _ lt
  have hpl:p.toList.length=vs.length:=by rw[L5,gp.size]
  refine h _ H1 (p.toList.map λi=>(kz.getD i 0,vs.getD i Value.none)) (p.toList.map λi=>xs.getD i V.non) sm pa.2.1 ?_ ?_ ?_ (by rw[A3];exact hpl)
   (Inv.track (s:={s' with heap:=s'.heap.update kS (Obj.mapSeq λ_=>(#[]:Array Value))}) (tk:=s'.toks) J4 (Q6 _ _ _) (get?_update_seq na λ_=>List.toArray (p.toList.map λi=>vs.getD i Value.none)) hus (by rw[A3,hpl,D2];omega) pa.2.1 haz haL hac hap)
  ·refine(gp.perm.map _).trans (List.Perm.of_eq ?_);refine List.ext_getElem (by rw[A3,K1,List.length_zip,zk,Nat.min_self]) λi h1 h2=> ?_;rw[A3,K1]at h1;rw[ZA9,List.getElem_range,List.getElem_zip];have q1:kz.getD i 0=kz[i]' ():=by rw[F0,B6 ()];rfl
   have q2:vs.getD i Value.none=vs[i]:=by rw[F0,B6 h1];rfl
   rw[q1,q2]
  ·refine P2.mpr λi j hi hj hij=> ?_;rw[A3]at hi hj;rw[ZA9,ZA9];have:=as i j hij ();have gi:∀k (hk:k < p.toList.length),p.getD k 0=p.toList[k]:=λk hk=>by
    have hk':k < p.size:=by rw[<-L5];exact hk
    simp[Array.getD,hk']
   unfold kp at this;rw[gi i hi,gi j hj]at this;exact Int.le_of_lt this
  ·rw[J6];exact hus
end
section
variable{X:Cx}{EX:Az}{pos:Pos}
def cf_5{zd:AE}{σ:Sg}{G H:Hp}{s:Shared}{Q:VK}{a f c Pt:Addr}{k':Nat}{cl:List (Str×Addr)}{pm ctv:Value}{params:Arguments}{body:Expr}{scope:Scope}{x:Str}{fb:FE}{δ:DE}{kvs:List (Ak×V)}{kds:List (Ak×D)}(hc:X.calm=true)
  (I:Inv X ((f,kla_obj "<lambda>" w_4 params body scope cl pm c ctv)::zd) σ H s) (g:Same G H) (h0:HasS X.K G σ δ) (rd:Rd G a (.dK kvs)) (hk:kvs.map (·.1)=kds.map (·.1))
  (hlc:LamC H Pt c) (nm:LamN X scope cl) (hsk:scope.kind=.function) (hco:scope.isCoroutine=false) (hge:scope.isGenerator=false) (bu:scope.names.lookup x=some .local)
  (ak:∀u,bindArgs (kla_fn "<lambda>" w_4 params body scope cl pm (.ref c) ctv) ⟨[u],[]⟩=pure [(x,u)]) (zj:∀A s H zd,RoomC true 1 A->ED (ba_8 X A scope f c cl x s H zd) Ds body fb)
  (hr:RoomC true k' X.A) (hkk:2<=k') (o:Out X.K EX0 G H (ba_6 (x_1 fb δ) (kds.map λp=>kD p.1)) Q):
  wpAny (model X.prog X.w) X.A (call (.builtin "sorted") [.ref a] [(Str.ofString "key",.ref f)]) (EP X zd σ Q) X.xe s:=by
 unfold ba_6 at o;cases eK:w_2 (x_1 fb δ) (kds.map λp=>kD p.1) with
 |ex x=>rw[eK]at o;exact False.elim o
 |no=>rw[eK]at o;exact False.elim o
 |ok psD=>
  rw[eK]at o;simp only at o
  split at o
  ·rename_i hcond;obtain⟨h64,nd⟩:=hcond;have pK:=ba_7 eK;have hkl:kds.length=kvs.length:=by
    have:=K5 List.length hk;rw[A3,A3]at this;exact this.symm
   have hpl:psD.length=kvs.length:=by
    rw[<-S0 pK,A3];exact hkl
   have ekd:(kds.map λp=>kD p.1)=(kvs.map (·.1)).map kD:=by rw[hk,J6];rfl
   obtain⟨z,lo,ws,kv,dd⟩:=ap_8 I.hok (Same.rdD g rd);obtain⟨ep,da⟩:=dd.dictAt;refine call_function_entry_kw kind_sorted plain_sorted entry_sorted (ksk_s1 _ _) ?_;unfold Builtin.«sorted»;refine A4 (m:=checkCount "sorted" 1 1 _) (C5 ?_);refine A4 (PySem.W.collect_kdl (A:=X.A.in1) (kdl_dict lo) (I.ok.hd hc) da (by rw[<-kv.length];exact z) λh1 tk1 zn kk le it=> ?_);have rv':Vals ((kvs.map (·.1)).map kV) zn.toList:=az_7 kv (by rw[L5];exact it.1) λj v e=>it.2 j v (by rw[<-V9];exact e);have hal:zn.toList.length=kvs.length:=by rw[<-rv'.length,A3,A3]
   refine A4 (wpAny_newList ?_ (by rw[hal];exact z));have new:(h1.push (seqObj "list" zn.toList.toArray 0)).get? h1.objs.size=some (seqObj "list" zn.toList.toArray 0):=B8 _ rfl;have I0:Inv X ((f,kla_obj "<lambda>" w_4 params body scope cl pm c ctv)::zd) σ H {s with heap:=h1,toks:=tk1}:=I.kept (t':=tk1) kk;have I1:Inv X ((f,kla_obj "<lambda>" w_4 params body scope cl pm c ctv)::zd) σ H {s with heap:=h1.push (seqObj "list" zn.toList.toArray 0),toks:=tk1}:=I0.kept (t':=tk1) λb u e=>A5 _ e;have fr:H h1.objs.size=none:=I.hok.fresh le;refine A4 (M7 (wpAny_call_entry_kw slot_list_sort ⟨_,new,rfl⟩ entry_list_sort ?body (ksk_l1 _ _)))
   case body=>
    show wpAny (model X.prog X.w) X.A.in1.in1 (Builtin.«list.sort» ⟨[.ref h1.objs.size],[(Str.ofString "key",.ref f)]⟩) _ _ _;rw[ksk_t1];have hr':RoomC true 1 X.A.in1.in1:=⟨hr.hd,by have:=hr.dp;show X.A.depth + 3 * 1 + 5 < _;omega,by have:=hr.un;show X.A.units + 1 + 1 + 16 * 1 + 200 < _;omega⟩;refine bu_4 (kz:=psD.map (·.1)) (ds:=kds.map λp=>kD p.1) (fb:=fb) (δ:=δ) (G:=G) I1 new fr (C7 I.sz le) (λz=> ?_) (λx c e z=> ?_) (λp hp z=> ?_) (I0.nofs (A8 _)) rv' (λi v d e1 e2 G'=> ?_) (by rw[A3,hal];exact hkl) (λi d kx e1 e2=> ?_) (by rw[A3,hal];exact hpl) (by rw[hal,<-hpl];exact h64) nd
     (A9 _ (.head _)) hlc nm hsk hco hge bu ak rfl hr' g h0 zj λs' H' ps us sm na pm srt hu hul J=> ?_
    ·have:=I0.lt;rw[<-z]at this;exact absurd this (E9 _)
    ·obtain⟨v,hv⟩:=I0.cell x c e;have:=hv.lt;rw[z]at this;exact absurd this (E9 _)
    ·have:=A6 (I0.pin p hp).1;rw[z]at this;exact absurd this (E9 _)
    ·rw[ekd,B3]at e2;rw[B3]at e1;cases ek:(kvs.map (·.1))[i]? with
     |none=>rw[ek]at e1;cases e1
     |some k0=>rw[ek]at e1 e2;cases e1;cases e2;exact cm_0 k0
    ·rw[B3]at e2;cases ep2:psD[i]? with
     |none=>rw[ep2]at e2;cases e2
     |some p=>
      rw[ep2]at e2;cases e2;exact(Paired.getL pK e1 ep2).2
    ·have J':Inv X zd σ (upd H' h1.objs.size (.lst us)) s':=J.pins_of λp hp=>J.pin p (A9 _ (.tail _ hp));refine⟨_,rfl,C5 ⟨_,rfl,.ref h1.objs.size,_,J',rfl, ?_⟩⟩;rw[ekd]at pK;have pr:=y_5 (R:=RelK) (λp q r=>r.1) (zipR rv' pK) pm (ad_5 psD) nd srt (w_3 psD);refine(show WP X.K G H (.ow (.lst ((Fq psD).map (·.2)))) Q from o) (.ref h1.objs.size) (λb=>b=h1.objs.size) G _ ⟨λb u e=> ?_,λb u e=> ?_,Same.refl _,λ_ n _=>n⟩ (λb e=> ?_) (Ow.list Bp rfl (outR pr hu))
     ·rw[Aq (Co e fr)];exact sm b u e
     ·rw[Aq (Co (g b u e) fr)];exact sm b u (g b u e)
     ·subst e;exact⟨fr,g.free fr,by rw[Bp];simp⟩
  ·exact False.elim o
structure LamOk(X:Cx)(params:Arguments)(body:Expr)(scope:Scope)(x:Str)(fb:FE):Prop where
 def0:defaultsOf params X.env=([],[])
 qual:X.env.qual ++ "<lambda>" =w_4
 kind:scope.kind=.function
 co:scope.isCoroutine=false
 gen:scope.isGenerator=false
 par:scope.names.lookup x=some .local
 names:Ex scope.names X.env.scope.names X.N (X.N ++ [x])=true
 bind:∀cl pm cd ctv u,bindArgs (kla_fn "<lambda>" w_4 params body scope cl pm cd ctv) ⟨[u],[]⟩=pure [(x,u)]
 body:∀A f c s H zd,(A.deeper (envX w_4 scope s.heap.objs.size f (.ref c) (Dg X.env.cells scope.names []))).units + 64 < cLine->ED (ba_8 X A scope f c (Dg X.env.cells scope.names []) x s H zd) Ds body fb
def cp_2{o:Expr}{f fb:FE}{x:Str}{k':Nat}{c P:Addr}{params:Arguments}{body:Expr}{scope:Scope}{p p2 p3:Pos}(hc:X.calm=true)(hr:RoomC true k' X.A)(hm:X.mg "sorted" =none)(ht:tabIn X.K "numbers_by_bucket" =some (c,P))(hcd:codeHdIn X.K c P=true)(he:ED X EX o f)(L:LamOk X params body scope x fb)(ah:X.env.code=.ref c:=by rfl)(hk:2<=k':=by decide)(hg:Gl X "sorted" :=by rfl)
  (hs1:starEach [o] X.env=(false,eval o X.env)::starEach [] X.env:=by rfl) (hb1:backTo pos (starEach [o] X.env)=(false,eval o X.env)::backTo pos (starEach [] X.env):=by rfl) (hpl:(backTo pos (starEach [o] X.env)).any (·.1)=false:=by rfl)
  (bj:(backToKw pos (keywordEach [⟨some "key",.Lambda params body scope p2,p3⟩] X.env)).all (·.1.isSome)=true:=by rfl) (hkw:(backToKw pos (keywordEach [⟨some "key",.Lambda params body scope p2,p3⟩] X.env)).any (·.1.isNone)=false:=by rfl)
  (hnm:(backToKw pos (keywordEach [⟨some "key",.Lambda params body scope p2,p3⟩] X.env)).filterMap (·.1)= [Str.ofString "key"]:=by rfl):
  ED X EX (.Call (.Name "sorted" p) [o] [⟨some "key",.Lambda params body scope p2,p3⟩] pos) (y_6 fb f):=by
 intro zd s σ H Q I q;obtain⟨G,δ,g0,s0,q⟩:=q;have ta:ci_1 (tD X.K EX f) tNil σ H λvs H1=>∃(G1:Hp) (a:Addr) (kvs:List (Ak×V)) (kds:List (Ak×D)),vs= [.ref a]/\Same G1 H1/\HasS X.K G1 σ δ/\Rd G1 a (.dK kvs)/\kvs.map (·.1)=kds.map (·.1)/\Out X.K (EX σ) G1 H1 (ba_6 (x_1 fb δ) (kds.map λp=>kD p.1)) Q:=by
  refine tD.seq g0 s0 q λw v G1 H1 _ st r o'=> ?_;revert o' r;cases w.d with
  |dic kds=>
   intro r o';cases r with
   |dic hr hk rr=>exact⟨G1,_,_,kds,rfl,st.gh,s0.mono st.gg,hr,hk,o'⟩
  |_=>intro _ o';exact False.elim o'
 refine O0 (l_6 I hg hm Z9 (callWith_kw (Ax ((j_9 he p_4 hs1) pos zd s σ H _ I ta) λus s1 ⟨vs,H1,I1,r1,G1,a,kvs,kds,ev,g1,s1',rd,hkk,o'⟩=> ?_) hb1 hpl bj hkw));subst ev;obtain⟨u,rfl,ru⟩:=r1.one;cases ru;have nm:=db_3 I1.ok L.names;refine kws_cons (co_8 I1 ht hcd ah L.qual L.def0 nm.clos λfa c' pm ctv H2 s2 sm lc I2=>kws_nil ?_);rw[hnm];refine cf_5 hc I2 (g1.trans sm) s1' rd hkk lc nm L.kind L.co L.gen L.par (L.bind _ _ _ _) (λA s H zd hr1=>L.body A fa c' s H zd (RoomC.units (RoomC.deeper hr1 _))) hr hk ?_;have st:Step G1 H1 G1 H2:=⟨sm,g1.trans sm,Same.refl _,λ_ n _=>n⟩;unfold ba_6 at o'⊢;cases eK:w_2 (x_1 fb δ) (kds.map λp=>kD p.1) with
 |ok psD=>
  rw[eK]at o';simp only at o'⊢
  split at o'
  ·rename_i hcond;rw[if_pos hcond];exact WP.mono (w:=.ow (.lst ((Fq psD).map (·.2)))) (Q:=Q) st (show WP X.K G1 H1 (.ow (.lst ((Fq psD).map (·.2)))) Q from o')
  ·exact False.elim o'
 |ex x=>rw[eK]at o';exact False.elim o'
 |no=>rw[eK]at o';exact False.elim o'
end
abbrev HBdT(c:Bool)(P:Program)(w:World)(K:Frag)(mg:AB)(base:Heap)(N:List Str)(qual:Str)(st:Stmt)(f:Addr)(k:Nat)(g:FS)(cd:Addr):Prop:=∀{A:Around} {outer:List Env} {s:Shared} {H:Hp} {E:XK},(Eg c P w K mg base N qual (Cc st) f (.ref cd) A outer s H E).calm=c->RoomC c k (Cx.A (Eg c P w K mg base N qual (Cc st) f (.ref cd) A outer s H E))->(Cx.A (Eg c P w K mg base N qual (Cc st) f (.ref cd) A outer s H E)).units + 64 < cLine->N.Nodup->Lk (Eg c P w K mg base N qual (Cc st) f (.ref cd) A outer s H E) (λ_=>EXof K E)->
   BD (Eg c P w K mg base N qual (Cc st) f (.ref cd) A outer s H E) (λ_=>EXof K E) (Fs st) g
def dr_5{c:Bool}{P:Program}{w:World}{x qual:Str}{st:Stmt}{f cd:Addr}{N ps:List Str}{k:Nat}{g:FS}(F:Fun K x qual st f fd)(ah:fd.code=.ref cd)
  (zj:HBdT c P w K mg base N qual st f k g cd) (S:FnScope N ps (Cc st):=by exact⟨rfl,rfl,rfl,by decide +kernel,rfl,by decide +kernel,by decide +kernel⟩):FnX P w K mg base c (k + 1) f fd ps (Br K ps.length (Al N.length g)):=by
 obtain⟨oc,od,kV,doc,pm,an,zp,ct,osl,rfl,lk,hcd⟩:=F.ex;cases ah;refine ck_2 lk hcd S (λvs H Q E h=>h.1) λA outer s H vs Q E hr h=>⟨_,zj rfl hr (RoomC.units hr) S.nd bs_3, ?_⟩;obtain⟨hl,G,ds,g0,r,o⟩:=h;refine⟨⟨H,λ_=>0⟩,G,G,_,_,bk_7 g0 r, ?_⟩;unfold Al at o;cases e:g (Av N.length ds) with
 |nx Δ=>rw[e]at o;exact λ σ G' H' O E' _=>(WP.mono (w:=.sh .non) (Q:=Q) E'.st o).use E'.st.gh .non
 |rt w=>rw[e]at o;exact o
 |rv d Δ=>rw[e]at o;exact o.elim
 |ex x Δ=>rw[e]at o;exact λ σ G' H' O E' _=>(EXof K E).mono _ _ _ _ _ E'.st o
 |bk Δ=>rw[e]at o;exact o.elim
 |ct Δ=>rw[e]at o;exact o.elim
 |no=>rw[e]at o;exact o
def cp_3{x:Str}{st:Stmt}{f c P:Addr}(a:nsIn K mainGlobals x=some (some (.ref f)))(F:Fun K x x st f fd)(ht:tabIn K x=some (c,P)):fd.code=.ref c:=by
 obtain⟨oc,od,kV,doc,pm,an,zp,ct,osl,rfl,lk,hcd⟩:=F.ex;unfold tabIn at ht;rw[a]at ht;simp only[lk]at ht;cases zp with
 |ref c2=>
  simp only at ht
  split at ht
  ·split at ht
   ·cases ht;rfl
   ·cases ht
  ·cases ht
 |_=>cases ht
def db_4{P:Program}{w:World}{cc:Bool}{k:Nat}{ps:List Str}{Fn:AF}{st:Stmt}{x:Str}{h:Heap}{c Pt:Addr}(X:K.In h)(G:h.Ns mainGlobals mg)(W:FnTop K x st)(ht:tabIn K x=some (c,Pt))(ok:∀{f:Addr} {fd:FuncData},Fun K x x st f fd->fd.code=.ref c->FnX P w K mg base cc k f fd ps (Br K ps.length Fn)/\Binds K fd ps []):FnD P w K mg base cc x k ps Fn:=by
 obtain⟨f,a,fd,F⟩:=W;have hc:=cp_3 a F ht;exact ck_5 F (mg_of X G a) (ok F hc).2 (ok F hc).1
def cp_4{x q:Str}{f c P:Addr}{oT oc2:Value}{od2 oe2 an2:Option Addr}{sl2 sm2:Array (Option Value)}{ar2:Arguments}{bd2:List Stmt}{sc2:Scope}{kV2 dc2 pm2 ct2:Value}{vs2:Array Value}(a:nsIn K mainGlobals x=some (some (.ref f)))
  (l:K.lookup f=some ⟨oT,od2,.func (fnOf q q ar2 bd2 sc2 .none kV2 dc2 pm2 an2 (.ref c) ct2),sl2⟩) (lc:K.lookup c=some ⟨oc2,oe2,.fields vs2,sm2⟩) (e:vs2[11]? =some (.ref P)):tabIn K x=some (c,P):=by
 unfold tabIn;rw[a];simp only[l,lc,e]
def cp_5{h:Heap}{c P:Addr}(X:K.In h)(ht:tabIn K "numbers_by_bucket" =some (c,P))(hcd:codeHdIn K c P=true)(hl:(K.lookup P).isNone=true)(hT:h.get? P=some (tabObj #[])):∀c P,tabIn K "numbers_by_bucket" =some (c,P)->isCodeTable h P/\h.get? P=some {cls:=.none,data:=.fields #[]}/\K.lookup P=none:=λc' P' e=>by
 rw[ht]at e;cases e;exact⟨((codeHd_of_K X hcd).tab hT).isCodeTable,hT,Option.isNone_iff_eq_none.mp hl⟩
def cp_6{h:Heap}{f c P:Addr}{oT oc2:Value}{od2 oe2 an2:Option Addr}{sl2 sm2:Array (Option Value)}{ar2:Arguments}{bd2:List Stmt}{sc2:Scope}{kV2 dc2 pm2 ct2:Value}{vs2:Array Value}(X:K.In h)(a:nsIn K mainGlobals "numbers_by_bucket" =some (some (.ref f)))
  (l:K.lookup f=some ⟨oT,od2,.func (fnOf "numbers_by_bucket" "numbers_by_bucket" ar2 bd2 sc2 .none kV2 dc2 pm2 an2 (.ref c) ct2),sl2⟩) (lc:K.lookup c=some ⟨oc2,oe2,.fields vs2,sm2⟩) (e:vs2[11]? =some (.ref P)) (hcd:codeHdIn K c P=true) (hl:(K.lookup P).isNone=true) (hT:h.get? P=some (tabObj #[])):
  ∀c P,tabIn K "numbers_by_bucket" =some (c,P)->isCodeTable h P/\h.get? P=some {cls:=.none,data:=.fields #[]}/\K.lookup P=none:=cp_5 X (cp_4 a l lc e) hcd hl hT
end L3
namespace PySem
namespace F
def slot_range_rev:Slot "range" "__reversed__" "range.__reversed__" :=Slot.of (owner:= "range") (n:= "__reversed__") (by simp only[ZC8,V8];rfl') nofun nofun nofun (by first|exact .inl nofun|exact .inr nofun) (by simp only[Y8];rfl')
def code_range_rev:entryFor table "range.__reversed__" =some Builtin.«range.__reversed__»:=entryFor_of_tree ∅
def args_range_rev(a:Value):argsOk "range.__reversed__" ⟨[a],[]⟩:=by
 rw[argsOk,signature?_of (id:= "range.__reversed__") (n:= "__reversed__".toList.reverse) (o:= "range".toList.reverse) ∅ owner_range];rfl'
def rngit_no_rev:isSubtype (.type "range_iterator") (.type "reversed")=pure false:=by rw[Y8];rfl'
end F
section
variable{prog:Program}{w:World}{A:Around}{E:AA}{s:Shared}{r:Addr}{j:Int}{t u v:Tok}
abbrev rngO(j:Int)(t u v:Tok):Obj:={cls:=.type "range",data:=.fields #[.int 0 t,.int j u,.int 1 v]}
abbrev by_9(n:Nat):Obj:={cls:=.type "range_iterator",dict:=none,data:=.fields #[rawInt ((n:Int) - 1),rawInt n,rawInt (-1)],slots:= #[]}
def as_7{Q:AA}(hr:s.heap.get? r=some (rngO j t u v))(h1: -(2 ^ 62)<=j)(h2:j < 2 ^ 62)(h:Q (.ref s.heap.objs.size) {s with heap:=s.heap.push (by_9 j.toNat)}):
  wpAny (model prog w) A (call (.builtin "range.__reversed__") [.ref r]) Q E s:=by
 refine wpAny_call_entry F.slot_range_rev ⟨_,hr,rfl⟩ F.code_range_rev ?_ (F.args_range_rev _);have hz:Builtin.Range.rangeSize 0 j 1=(j.toNat:Int):=by
  unfold Builtin.Range.rangeSize;rw[if_pos ⋯]
  split <;> omega
 unfold Builtin.«range.__reversed__»;refine A4 (Q2 (a:=Value.ref r) rfl ?_);unfold Builtin.Range.rangeFields;refine A4 ?_;refine A4 (U2 hr rfl rfl ?_);refine A4 (Q2 (a:=some (0:Int)) rfl ?_);refine A4 (U2 hr rfl rfl ?_);refine A4 (Q2 (a:=some j) rfl ?_);refine A4 (U2 hr rfl rfl ?_);refine A4 (Q2 (a:=some (1:Int)) rfl ?_);refine C5 ?_;dsimp only;rw[hz];have sm:(Builtin.Range.rangeFitsLong 0 && Builtin.Range.rangeFitsLong j && Builtin.Range.rangeFitsLong 1 && Builtin.Range.rangeFitsLong (-1) && Builtin.Range.rangeFitsLong (0 - 1) && Builtin.Range.rangeFitsLong (j.toNat:Int))=true:=by
  simp only[Builtin.Range.rangeFitsLong,C9,V2];omega
 rw[sm];simp only[Bool.not_true,D8,L9,if_true];have e:(0:Int) + ((j.toNat:Int) - 1) * 1=(j.toNat:Int) - 1:=by omega
 rw[e];exact A4 (S5 (C5 ⟨_,rfl,h⟩))
def ab_1{Q:AA}(hr:s.heap.get? r=some (rngO j t u v))(h1: -(2 ^ 62)<=j)(h2:j < 2 ^ 62)(h:Q (.ref s.heap.objs.size) {s with heap:=s.heap.push (by_9 j.toNat)}):
  wpAny (model prog w) A (call (.type "reversed") [.ref r]) Q E s:=by
 refine callType_other (U:= "range_iterator") (Q₁:=λobj s₁=>obj=.ref s.heap.objs.size/\s₁={s with heap:=s.heap.push (by_9 j.toNat)}) nofun F.create_reversed ⟨_,_,F.mro_reversed⟩ F.made_reversed F.rngit_no_rev (F.typeCall_reversed_1 _) ?_ ?_
 ·refine ZC7 ?_;show wpAny _ A.in1.in1 (do checkBuiltinCall "reversed.__new__" ⟨[.type "reversed",.ref r],[]⟩;again (.builtin "reversed.__new__" ⟨[.type "reversed",.ref r],[]⟩)) _ _ s;refine A4 (Q2 (F.newCall_reversed_1 _) (C5 ⟨ZD4 F.plain_reversed_new _,ZC9 F.entry_reversed_new ?_⟩));rw[X2 F.plain_reversed_new _];have T:s.TypeIs (.ref r) "range" :=⟨_,hr,rfl⟩;have n1:=F.slot_range_rev.lookup;have n4:=newClass_reversed (.ref r);unfold Builtin.«reversed.__new__»;refine A4 (Q2 n4 ?_)
  try dsimp only
  refine A4 (Q2 (a:=.unit) (by first|rfl|rfl') ?_);refine A4 (Q2 (a:=.unit) (by first|rfl|rfl') ?_)
  try dsimp only
  refine A4 (X3 T n1 ?_)
  try dsimp only
  refine A4 (Q2 (F.slot_range_rev.bind _) ?_)
  try dsimp only
  have ne:¬((Value.builtin "range.__reversed__" ==Value.none)=true):=A7
  first
   |rw[if_neg ne]
   |(show wpAny _ _ (if(Value.builtin "range.__reversed__" ==Value.none)=true then _ else _) _ _ _;rw[if_neg ne])
  refine A4 (wpAny_rule ?_);refine A4 (m:=runValue (.call (.builtin "range.__reversed__") ⟨[.ref r],[]⟩)) (show wpAny _ _ (call (.builtin "range.__reversed__") [.ref r]) _ _ _ from as_7 hr h1 h2 ?_)
  first
   |exact C5 ⟨rfl,rfl⟩
   |exact A4 (C5 (C5 ⟨rfl,rfl⟩))
 ·rintro obj s₁ ⟨rfl,rfl⟩
  exact⟨⟨_,B8 _ rfl,rfl⟩,h⟩
end
end PySem
namespace L3
open PySem PySem.Spec PyProof.Rows L2
variable{K:Frag}{fd:FuncData}{mg:AB}{us:List Value}{base:Heap}{H:Hp}{X:Cx}{pos:Pos}
section
variable{X:Cx}{EX:Az}{tg a:Expr}{fa:FA}{p p2 pos av:Pos}
def tRg(t:TA):TE:=λ σ H Q=>t σ H λvs H1=>∃j:Int,vs= [.int j]/\∀r,H1 r=none->Q (.ref r) (upd H1 r (.rng 0 j))
def iRvR(t:TA):TI:=λ σ H Q=>ci_1 (tRg t) tNil σ H λvs H2=>∃(r:Addr) (j:Int),vs= [.ref r]/\H2 r=some (.rng 0 j)/\ -(2 ^ 62)<=j/\j < 2 ^ 62/\Q (Itr3 ((j.toNat:Int) - 1) (-1) j.toNat) H2
def dr_7{ta:TA}(hg:Gl X "range")(hm:X.mg "range" =none)(ha:PA X [a] ta)(hs:starEach [a] X.env= [(false,eval a X.env)]:=by rfl):PE X (.Call (.Name "range" p2) [a] [] av) (tRg ta):=by
 intro zd s σ H Q I h;refine Call_ (l_6 I hg hm boot_range (D6 (Ax (ha av zd s σ H _ I h) λus s1 ⟨vs,H1,I1,r1,q1⟩=> ?_) hs rfl));obtain⟨j,rfl,q⟩:=q1;obtain⟨u,rfl,t,rfl⟩:=r1.one;refine ZD6 ?_;exact⟨.ref s1.heap.objs.size,_,I1.laid (o:=.rng 0 j) (t':=s1.toks + 1 + 1) (λb o e=>A5 _ e) (A8 _) ⟨_,_,_,B8 _ rfl⟩,rfl,q _ (I1.hok.fresh (A8 _))⟩
def db_5{ta:TA}(hg:Gl X "reversed")(hm:X.mg "reversed" =none)(hg2:Gl X "range")(hm2:X.mg "range" =none)(ha:PA X [a] ta)(hs:starEach [a] X.env= [(false,eval a X.env)]:=by rfl)
  (hs1:starEach [.Call (.Name "range" p2) [a] [] av] X.env=(false,eval (.Call (.Name "range" p2) [a] [] av) X.env)::starEach [] X.env:=by rfl) (hs2:starEach [.Call (.Name "range" p2) [a] [] av] X.env= [(false,eval (.Call (.Name "range" p2) [a] [] av) X.env)]:=by rfl):
  PI X tg (.Call (.Name "reversed" p) [.Call (.Name "range" p2) [a] [] av] [] pos) (iRvR ta):=by
 intro zd s σ H Q I h;refine Call_ (l_6 I hg hm PyProof.Rows.boot_reversed (D6 (Ax ((j_9 (dr_7 hg2 hm2 ha hs) p_4 hs1) pos zd s σ H _ I h) λus s1 ⟨vs,H1,I1,r1,q1⟩=> ?_) hs2 rfl));obtain⟨r,j,rfl,hr,h1,h2,q⟩:=q1;obtain⟨u,rfl,ru⟩:=r1.one;cases ru;obtain⟨t,u,v,ho⟩:=I1.hok r _ hr;refine ab_1 ho h1 h2 ?_;have st:IsRangeIter (s1.heap.push (by_9 j.toNat)) s1.heap.objs.size (((j.toNat:Int) - 1) + ((0:Nat):Int) * (-1)) ((j.toNat:Int) - ((0:Nat):Int)) (-1):=by
  have e1:((j.toNat:Int) - 1) + ((0:Nat):Int) * (-1)=(j.toNat:Int) - 1:=by simp
  have e2:(j.toNat:Int) - ((0:Nat):Int)=(j.toNat:Int):=by simp
  rw[e1,e2];exact B8 _ rfl
 refine(ak_2 (P:=X.prog) (w:=X.w) (K:=X.K) (tg:=tg) s1.heap.objs.size ((j.toNat:Int) - 1) (-1) j.toNat).self X.A 0 _ _ _ st ?_;refine⟨s1.heap.objs.size,[s1.heap.objs.size],_,_,H1,rfl,I1.kept (t':=s1.toks) λb o e=>A5 _ e,ak_2 _ _ _ _,st,λb hb=> ?_,q⟩;have e:b=s1.heap.objs.size:=by simpa using hb
 subst e;exact I1.fpOk (A8 _) (I1.hok.fresh (A8 _))
def rngR:List D->R (List D)
 | [.int j]=>if j.natAbs < 4611686018427387904 then .ok (v_8 ((j.toNat:Int) - 1) (-1) j.toNat) else .no
 |_=> .no
def db_6(hm:X.mg "reversed" =none)(hm2:X.mg "range" =none)(ha:AD X EX [a] fa)(hg:Gl X "reversed" :=by rfl)(hg2:Gl X "range" :=by rfl)(hs:starEach [a] X.env= [(false,eval a X.env)]:=by rfl)
  (hs1:starEach [.Call (.Name "range" p2) [a] [] av] X.env=(false,eval (.Call (.Name "range" p2) [a] [] av) X.env)::starEach [] X.env:=by rfl) (hs2:starEach [.Call (.Name "range" p2) [a] [] av] X.env= [(false,eval (.Call (.Name "range" p2) [a] [] av) X.env)]:=by rfl):
  ID X EX tg (.Call (.Name "reversed" p) [.Call (.Name "range" p2) [a] [] av] [] pos) (Aw rngR fa):=
 PI.imp (db_5 hg hm hg2 hm2 ha hs hs1 hs2) λ σ H Q ⟨G,δ,g0,s0,o⟩=>tDa.seqI g0 s0 o λds vs G' H' st r o'=>by
  cases r with
  |nil=>exact False.elim o'
  |cons h t=>
   cases t with
   |cons _ _=>cases h <;> exact False.elim o'
   |nil=>
    cases h with
    |int j=>
     by_cases hc:j.natAbs < 4611686018427387904
     ·rw[show rngR [.int j]=.ok (v_8 ((j.toNat:Int) - 1) (-1) j.toNat) from if_pos hc]at o';refine⟨j,rfl,λr hr=>⟨r,j,rfl,Bp,by omega,by omega,o' _ G' _ (Step.own st.gh hr _) λG2 H2 _ g k=>⟨λd e=> ?_,λe=> ?_⟩⟩⟩
      ·obtain⟨hi,rfl⟩:=aq_8 e;refine⟨hi,λx H' y=> ?_⟩;obtain⟨e1,e2⟩:=y;subst e1 e2;exact⟨G2,Step.refl g,.int _⟩
      ·rw[aq_9]at e;exact P9 e
     ·rw[show rngR [.int j]=.no from if_neg hc]at o';exact o'.elim
    |_=>exact False.elim o'
end
section
variable{X:Cx}{EX:Az}{pos:Pos}
def bu_5{iter tg:Expr}{scope:Scope}{N':List Str}{fi:FI}{fg:Et}{m:Nat}{lp:Pos}(hx0:∀e s,¬X.xe e s){B:Cx->Prop}(hk:scope.kind=.function)(hb:Ex scope.names X.env.scope.names X.N N'=true)
  (hm:N'.length=X.N.length + m)
  (hin:∀C s0 H0 fp pn,GC (j_4 X scope (Dg X.env.cells scope.names []) N' C s0 H0 fp pn) Ds tg fg)
  {zd:AE} {s:Shared} {σ:Sg} {δ:DE} (I:Inv X zd σ H s) {Z:Hp->Hp->Prop} (hZ:∀G2 H2,Z G2 H2->Same G2 H2/\HasS X.K G2 σ δ) (hB:∀C s0 H0 fp pn,Inv X zd σ H0 s0->B (j_4 X scope (Dg X.env.cells scope.names []) N' C s0 H0 fp pn))
  (hit:wpAny (model X.prog X.w) X.A (eval iter X.env) (λxv s₁=>wpAny (model X.prog X.w) X.A (pyIter xv) (λitv s₂=>∃(it:Addr) (fp:List Addr) (tn:Nat->Heap->Prop) (J:It) (H2:Hp) (ds:List D) (G2:Hp),itv=.ref it/\Inv X zd σ H2 s₂/\TurnZ X.prog X.w X.K tg J fp it tn B/\tn 0 s₂.heap/\(∀b∈fp,Ea X zd H2 b)/\fi δ=.ok ds/\Z G2 H2/\ItD X.K G2 J ds) X.xe s₁) X.xe s)
  {RR:Value->Addr->Result->Shared->Prop}
  (hds:∀ds,fi δ=.ok ds->ds.length<=16777216/\∀d∈ds,∃δ1,fg d (δ ++ List.replicate m none)=.ok δ1)
  (hRR:∀(Da C:Addr) (s1:Shared) (G2 H2 G' H':Hp) (vs:List V) (S:AS) (ds:List D),fi δ=.ok ds->Inv X zd σ H' s1->(∃m,s1.heap.Ns C m)->Ea X zd H' C->Z G2 H2->Step G2 H2 G' H'->H2 Da=none->H' Da=some (.lst vs)->G' Da=none->OwL X.K G' H' vs (List.replicate ds.length (.lst [])) S->(∀b,S b->H2 b=none/\G' b=none/\b≠Da/\H' b≠none)->RR (.ref Da) C (.ok .next) s1):
  wpAny (model X.prog X.w) X.A (eval iter X.env) (λx s₁=>wpAny (model X.prog X.w) X.A (pyIter x) (λit s₂=>wpAny (model X.prog X.w) X.A (newList []) (λzn s₃=>
   wpAny (model X.prog X.w) X.A (newFunctionEnv scope X.env.globals (Dg X.env.cells scope.names []) [] X.env.qual none .none (some X.env)) (λcenv s₄=>
    codeAny (model X.prog X.w) X.A (.compStart (.ListComp (.List [] lp) [⟨tg,iter,[],0⟩] scope pos) 0 it zn {cenv with scope:=relabel scope X.env}) (RR zn cenv.locals) s₄) X.xe s₃) X.xe s₂) X.xe s₁) X.xe s:=by
 have n:=y_1 I.ok hk hb;generalize hcle:Dg X.env.cells scope.names []=cl at n hin hB⊢
 
 refine D1 hit (λxv s₁ h₁=>D1 h₁ (λitv s₂ h₂=> ?_) λ_ _ e=>(hx0 _ _ e).elim) λ_ _ e=>(hx0 _ _ e).elim;obtain⟨it,fp,tn,J,H2,ds,G2,rfl,I2,T,st2,f2,e2,hz2,itd⟩:=h₂;obtain⟨sg2,h0⟩:=hZ G2 H2 hz2;obtain⟨hz,o⟩:=hds ds e2
 
 have hfD:H2 s₂.heap.objs.size=none:=I2.hok.fresh (A8 _);refine S5 (X0 n.cell (by intro y hy;simp at hy) (λh₁ hns₁ hsb₁=> ?_) n.kind);dsimp only at hns₁ hsb₁⊢;generalize hDa:s₂.heap.objs.size=Da at hfD;have hDn: @Eq Nat s₂.heap.objs.size Da:=hDa;have I3:Inv X zd σ (upd H2 Da (.lst [])) {s₂ with heap:=s₂.heap.push {cls:=.type "list",dict:=none,data:=.seq ([]:List Value).toArray}}:=by
  rw[<-hDa];exact I2.lnew (t':=s₂.toks) .nil (F7 _)
 generalize hH3:s₂.heap.push {cls:=.type "list",dict:=none,data:=.seq ([]:List Value).toArray}=hp3 at hns₁ hsb₁ I3⊢;have hC:hp3.objs.size=Da + 1:=by rw[<-hH3,K9,hDa]
 generalize hCe:hp3.objs.size=C at hns₁ hsb₁ hC;have hCn: @Eq Nat hp3.objs.size C:=hCe;have hC2: @Eq Nat C (Da + 1):=hC;have dq:∀b o,s₂.heap.get? b=some o->hp3.get? b=some o:=λb o e=>by rw[<-hH3];exact A5 _ e
 have up:∀b o,hp3.get? b=some o->h₁.get? b=some o:=λb o e=>hsb₁.extBut b o (B4 (show @LT.lt Nat _ b C by rw[<-hCn];exact A6 e)) (A5 _ e)
 
 have fpC:∀b∈fp,b < s₂.heap.objs.size:=λb hb=>by
  obtain⟨o,e,_⟩:=T.obj _ _ st2 b hb;exact A6 e
 have hcl:∀x c,cl.lookup x=some c->c < hp3.objs.size/\c∉fp/\(upd H2 Da (.lst [])) c=none:=λx c e=>by
  have e':=n.sub x c e;obtain⟨v,hv⟩:=I3.cell x c e';exact⟨hv.lt,λz=>(f2 c z).2.2.2.2.1 x c e' rfl,I3.freeC x c e'⟩
 let X':=j_4 X scope cl N' C {s₂ with heap:=hp3} (upd H2 Da (.lst [])) fp (X.pn ++ zd)
 have ok':X'.Ok:=by
  refine⟨I.ok.mod,n.kind,I.ok.glob,I.ok.blt,P9 hCe,λx y c h1 h2=>I.ok.inj x y c (n.sub x c h1) (n.sub y c h2),λx hx=>n.has x hx,λx c z=> ?_,I.ok.hd,I.ok.frames,.inl rfl,λb hb=>⟨?_,λx c e z=> ?_⟩,λb o e=> ?_, ?_,λb o e hb=> ?_,λb hb z=> ?_,I3.stack,I3.stkFree,I3.tab⟩
  ·exact absurd z A7
  ·exact B4 (B9 (fpC b hb) (show @LE.le Nat _ s₂.heap.objs.size C by omega))
  ·subst z;exact(hcl x c e).2.1 hb
  ·exact I3.bs b o e
  ·exact C7 I.ok.bsz I3.sz
  ·rcases(f2 b hb).2.2.2.1 with z|z
   ·exact I.ok.noex b o e z
   ·exact absurd (A6 (I.ok.bs b o e).1) (Nat.not_lt_of_le z)
  ·rcases C4.mp (I3.stkSub b z) with z|z
   ·exact(f2 b hb).2.1 z
   ·exact(f2 b hb).2.2.1 z
 have lenσ:σ.length=X.N.length:=I.len;have I4:Inv X' [] (σ ++ List.replicate m none) (upd H2 Da (.lst [])) {s₂ with heap:=h₁,toks:=s₂.toks + ([]:List (Str×Value)).length}:=by
  refine⟨ok',rfl,I2.bare,Un.kept up,⟨_,hns₁,λi x v e1 e2 e3=> ?_⟩,λx c e=> ?_, ?_,λx c e=>(hcl x c e).2.2,λp hp=> ?_,I3.hok.kept up, ?_⟩
  ·have hi:i < σ.length:=by
    by_cases hh:i < σ.length
    ·exact hh
    ·rw[D0 (),E8]at e2
     split at e2 <;> cases e2
   rw[B7 hi]at e2;obtain⟨n1,n2,⟨c,n3⟩,n4⟩:=n.old i x e1 () e3;obtain⟨mm,hnm,hl⟩:=I3.loc;obtain⟨u,r,l⟩:=hl i x v n1 e2 (.inr n2);refine⟨u,r,.inr ⟨n4,c,n3, ?_⟩⟩;have n3':=n.sub x c n3;rcases l with⟨k1,k2⟩|⟨k1,c',k2,k3⟩
   ·exfalso;have k1':X.env.scope.names.lookup x=some .local:=k1;rcases n2 with n2|n2
    ·rw[n2]at k1';cases k1'
    ·rw[n2]at k1';cases k1'
   ·rw[n3']at k2;cases k2;exact k3.keeps up
  ·obtain⟨v,hv⟩:=I3.cell x c (n.sub x c e);exact⟨v,hv.keeps up⟩
  ·show upd H2 Da (.lst []) C=none;exact I3.hok.fresh (by show hp3.objs.size<=C;omega)
  ·have hp':p∈X.pn ++ zd:=by
    have hp2:p∈(X.pn ++ zd) ++ []:=hp
    rwa[D7]at hp2
   obtain⟨z1,z2,z3,z4,z5⟩:=I3.pin p hp';refine⟨up _ _ z1,z2, ?_,λz=> ?_,z5⟩
   ·exact B4 (show @LT.lt Nat _ p.1 C by rw[<-hCn];exact A6 z1)
   ·rcases C4.mp (I3.stkSub p.1 z) with z|z
    ·exact z3 z
    ·exact z4 z
  ·rw[B5,G6,lenσ];exact hm.symm
 have hgc:=hin C {s₂ with heap:=hp3} (upd H2 Da (.lst [])) fp (X.pn ++ zd);have hS4:HasS X.K G2 (σ ++ List.replicate m none) (δ ++ List.replicate m none):=by
  refine⟨by rw[B5,B5,G6,G6,h0.len],λi d e=> ?_⟩
  by_cases hh:i < δ.length
  ·rw[B7 hh]at e;obtain⟨v,e1,r⟩:=h0.get i d e;exact⟨v,by rw[B7 (by rw[h0.len];exact hh)];exact e1,r⟩
  ·rw[D0 (),E8]at e
   split at e <;> cases e
 generalize hδ:δ ++ List.replicate m none=δ' at hS4 o;have stn:tn 0 h₁:=T.keep 0 _ _ st2 λb hb o e=>up b o (dq b o e);have fpn:∀b∈fp,(upd H2 Da (.lst [])) b=none:=λb hb=>by
  rw[Aq (B4 (show @LT.lt Nat _ b Da by rw[<-hDn];exact fpC b hb))];exact(f2 b hb).1
 have bp:∀{pl:AE} {H':Hp},pl= []->(∀b∈fp,H' b=none)->∀b∈fp,Ea X' pl H' b:=λ{pl H'} hpl hn b hb=>by
  subst hpl;refine⟨hn b hb, ?_,λz=> ?_,.inl hb,λx c e z=> ?_,λp hp z=> ?_⟩
  ·exact B4 (B9 (fpC b hb) (show @LE.le Nat _ s₂.heap.objs.size C by omega))
  ·rcases C4.mp (I3.stkSub b z) with z|z
   ·exact(f2 b hb).2.1 z
   ·exact(f2 b hb).2.2.1 z
  ·subst z;exact(hcl x c e).2.1 hb
  ·have hp':p∈X.pn ++ zd:=by
    have hp2:p∈(X.pn ++ zd) ++ []:=hp
    rwa[D7]at hp2
   exact(f2 b hb).2.2.2.2.2 p hp' z
 have loop:∀s4:Shared,Inv X' [] (σ ++ List.replicate m none) (upd H2 Da (.lst [])) s4->tn 0 s4.heap->codeAny (model X.prog X.w) X.A (.compLoop (.ListComp (.List [] lp) [⟨tg,iter,[],0⟩] scope pos) 0 (.ref it) (.ref Da) (compEnvC scope cl C X.env)) (RR (.ref Da) C) s4:=by
  intro s4 I4 tn4;refine aq_3 (λk s'=>∃i σ' H' G' vs S,k=ds.length - i/\i<=ds.length/\Inv X' [] σ' H' s'/\tn i s'.heap/\(∀b∈fp,H' b=none)/\HasS X.K G' σ' δ'/\Step G2 H2 G' H'/\Same G2 G'/\H' Da=some (.lst vs)/\G' Da=none/\
   OwL X.K G' H' vs (List.replicate i (.lst [])) S/\(∀b,S b->H2 b=none/\G' b=none/\b≠Da/\H' b≠none)) ?_ ds.length
   ⟨0,_,_,G2,[],λ_=>False,by simp,F7 _,I4,tn4,fpn,hS4,Step.own sg2 hfD _,Same.refl _,Bp,sg2.free hfD,.nil,λ_ z=>z.elim⟩
  rintro k s' ⟨i,σ',H',G',vs,S,rfl,hi,I',tni,fn',hS,st,sg,hD,gD,rl,hl⟩
  obtain⟨i1,i2⟩:=itd G' H' sg st.gh i
  by_cases hlt:i < ds.length
  ·obtain⟨d,e1,e2⟩:=ae_8 hlt;obtain⟨go,yl⟩:=i1 d e1;refine Ax (T.item X' rfl rfl rfl i [] s' σ' H' _ (hB _ _ _ _ _ I3) I' (bp rfl fn') tni go) λr s1 ⟨u,hr,h1⟩=> ?_;subst hr;refine Ax h1 λ_ s5 ⟨x,H5,I5,r5,y5,st5,fr5⟩=> ?_;obtain⟨G5,ae,hx5⟩:=yl x H5 y5;have I5':=I5.pinned (bp rfl fr5) (T.obj _ _ st5);obtain⟨δ1,ed1⟩:=o d (M6 e1);have hS5:HasS X.K G5 σ' δ':=hS.mono ae.gg;refine D1 (hgc _ s5 σ' H5 x u (λ σ6 H6=>H6=H5/\HasS X.K G5 σ6 δ1/\HasS X.K G5 σ6 δ') I5' r5 ⟨G5,δ',d,ae.gh,hS5,hx5, ?_⟩) (λ_ s6 ⟨σ6,H6,I6,eH,hS6,hS6'⟩=> ?_) λ_ _ z=>False.elim z
   ·rw[ed1];exact λ σ6 h6 h6'=>⟨rfl,h6,h6'⟩
   subst eH;refine wpAny_tests_nil ?_;rw[if_pos rfl]
   
   have gD7:G5 Da=none:=ae.nw Da gD (by rw[hD];simp);have hD7:H6 Da=some (.lst vs):=ae.hh _ _ hD;have bf:∀{σ9:Sg} {H9:Hp} {s9:Shared},Inv X' ([] ++ ah_5 fp s5.heap) σ9 H9 s9->tn (i + 1) s9.heap/\∀b∈fp,H9 b=none:=λ{σ9 H9 s9} I9=>
    ⟨T.keep _ _ _ st5 λb hb o e=>(I9.pin (b,o) (A9 _ (A9 _ (o_1 hb e)))).1,λb hb=>by
     obtain⟨o,e,d⟩:=T.obj _ _ st5 b hb;exact(I9.pin (b,o) (A9 _ (A9 _ (o_1 hb e)))).2.1⟩
   refine D1 ((l_7 (EX:=Ds) (X:=X') (pos:=lp) An) _ s6 σ6 H6 (λv H8=>∃S8 G8,Step G5 H6 G8 H8/\(∀b,S8 b->H6 b=none/\G8 b=none/\H8 b≠none)/\Ow X.K G8 H8 v (.lst []) S8) I6 ⟨G5,δ1,ae.gh,hS6,λv S8 G8 H8 st8 fr8 ow8=>⟨S8,G8,st8,fr8,ow8⟩⟩) (λu8 s8 ⟨v8,H8,I8,r8,S8,G8,stp8,fr8,ow8⟩=> ?_) λ_ _ z=>False.elim z;have gD8:G8 Da=none:=stp8.nw Da gD7 (by rw[hD7];simp);have hD8:H8 Da=some (.lst vs):=stp8.hh _ _ hD7;have hlv:vs.length=i:=by rw[rl.length,G6]
   refine D1 (q_8 (X:=X') _ s8 σ6 H8 (.ref Da) [v8] (.ref Da) [u8] (λ_ H9=>H9=upd H8 Da (.lst (vs ++ [v8]))) I8 rfl (.cons r8 .nil) ⟨Da,vs,v8,rfl,rfl,hD8,by rw[hlv,D2];omega,rfl⟩) (λ_ s9 ⟨_,H9,I9,_,e9⟩=> ?_) λ_ _ z=>False.elim z;subst e9;have stA:=st.trans (ae.trans stp8);have sD:∀b,S8 b->b≠Da:=λb z q=>by rw[q]at z;have:=(fr8 _ z).1;rw[hD7]at this;cases this
   have dz:∀b,S b->H6 b≠none:=λb z q=>by
    cases q2:H' b with
    |none=>exact(hl b z).2.2.2 q2
    |some o2=>rw[ae.hh _ _ q2]at q;cases q
   have jh:∀b,S b->H8 b≠none:=λb z q=>by
    cases q2:H6 b with
    |none=>exact dz b z q2
    |some o2=>rw[stp8.hh _ _ q2]at q;cases q
   refine⟨ds.length - (i + 1),by omega,i + 1,σ6,_,G8,vs ++ [v8],λb=>S b\/S8 b,rfl,hlt,I9.unpinned,(bf I9).1,(bf I9).2,hS6'.mono stp8.gg,⟨λb o z=> ?_,λb o z=> ?_,stA.gg,stA.nw⟩,sg.trans (ae.gg.trans stp8.gg),Bp,gD8, ?_,λb z=> ?_⟩
   ·rw[Aq (Co z hfD)];exact stA.hh b o z
   ·rw[Aq (Co z gD8)];exact stp8.gh b o z
   ·rw[List.replicate_succ'];refine OwL.append (S1:=S) (S2:=S8) (OwL.mono (ae.gg.trans stp8.gg) rl (λb o z q=>by rw[Aq (hl b z).2.2.1];exact stp8.hh _ _ (ae.hh _ _ q)) λ_ z=>z) (.cons (S1:=S8) (S2:=λ_=>False) (Ow.mono (Same.refl _) ow8 (λb o z q=>by rw[Aq (sD b z)];exact q) λ_ z=>z) .nil (λ_ _ z=>z) (λ_ z=>z) λ_ z=>z.elim) (λb z1 z2=>dz b z1 (fr8 b z2).1) (λ_ z=> .inl z) λ_ z=> .inr z
   ·rcases z with z|z
    ·obtain⟨z1,z2,z3,z4⟩:=hl b z;exact⟨z1,stp8.nw b (ae.nw b z2 z4) (dz b z),z3,by rw[Aq z3];exact jh b z⟩
    ·obtain⟨z1,z2,z3⟩:=fr8 b z;refine⟨?_,z2,sD b z,by rw[Aq (sD b z)];exact z3⟩;cases q:H2 b with
     |none=>rfl
     |some o2=>have:=(st.trans ae).hh _ _ q;rw[z1]at this;cases this
  ·have e:ds.length=i:=by omega
   refine Ax (T.done X' rfl rfl rfl i [] s' σ' H' _ (hB _ _ _ _ _ I3) I' (bp rfl fn') tni (i2 e)) λr s1 ⟨hr,I1⟩=> ?_;subst hr;obtain⟨mm,hnm,_⟩:=I1.loc;have de:Inv X zd σ H' s1:=I3.call' (s':=s1) (ch:=fp) I1.os I1.base I1.hok I1.bare λb hb=>by
    obtain⟨f0,f1',f2',f3,f4,f5⟩:=f2 b hb;exact⟨f3,f1',f4,f5⟩
   rw[<-e]at rl;exact hRR Da C s1 G2 H2 G' H' vs S ds e2 de ⟨mm,hnm⟩ (I3.fpOk (by show hp3.objs.size<=C;omega) I1.free) hz2 st hfD hD gD rl hl
 exact ZB5 (loop _ I4 stn) (T.self X.A 0 _ _ _ stn (loop _ I4 stn))
def p_6(m:Nat)(fi:FI)(fg:Et):FE:=λ δ=>((fi δ).bind λds=>if ds.length<=16777216/\(ds.all λd=>match fg d (δ ++ List.replicate m none) with| .ok _=>true|_=>false)=true then .ok (.tr (.lst (List.replicate ds.length (.lst [])))) else .no).calm
def ba_9{m:Nat}{fi:FI}{fg:Et}{δ:DE}{x:Xn}(h:p_6 m fi fg δ=.ex x):False:=R.calm_never h
def cf_6{m:Nat}{fi:FI}{fg:Et}{δ:DE}{w:W}(h:p_6 m fi fg δ=.ok w):∃ds,fi δ=.ok ds/\ds.length<=16777216/\(∀d∈ds,∃δ1,fg d (δ ++ List.replicate m none)=.ok δ1)/\w=.tr (.lst (List.replicate ds.length (.lst []))):=by
 unfold p_6 at h;cases e:fi δ with
 |ok ds=>
  rw[e]at h;simp only[R.bind_ok]at h
  split at h
  ·rename_i hc;cases h;refine⟨ds,rfl,hc.1,λd hd=> ?_,rfl⟩;have:=F2.mp hc.2 d hd;cases q:fg d (δ ++ List.replicate m none) with
   |ok δ1=>exact⟨δ1,rfl⟩
   |ex x=>rw[q]at this;cases this
   |no=>rw[q]at this;cases this
  ·cases h
 |ex x=>rw[e]at h;cases h
 |no=>rw[e]at h;cases h
def cp_7{iter tg:Expr}{scope:Scope}{N':List Str}{fi:FI}{fg:Et}{m i:Nat}{y:Str}{lp py aw:Pos}(hx0:∀e s,¬X.xe e s)(hc:X.calm=true)(hi:ID X Ds tg iter fi)(hk:scope.kind=.function)(hb:Ex scope.names X.env.scope.names X.N N'=true)(hm:N'.length=X.N.length + m)
  (hin:∀C s0 H0 fp pn,GC (j_4 X scope (Dg X.env.cells scope.names []) N' C s0 H0 fp pn) Ds tg fg)
  (hN:X.N.Nodup) (hy:X.N[i]? =some y) (hx:Loc X.env.scope y) (hf:X.fn y=true\/X.env.scope.names.lookup y=some .local)
  (hsw:swapsWith (.ListComp (.List [] lp) [⟨tg,iter,[],0⟩] scope pos) (some (.Name y py)) aw.line X.env=pure true)
  (hs:∀x,foldedSetIterable iter X.env x=pure x):PS X (.Assign [.Name y py] (.ListComp (.List [] lp) [⟨tg,iter,[],0⟩] scope pos) aw) (tAsg (tD X.K Ds (p_6 m fi fg)) (ax_5 i)):=by
 intro zd s σ H D I q;obtain⟨G,δ,g0,h0,o⟩:=q;have n:=y_1 I.ok hk hb;cases e:p_6 m fi fg δ with
 |ex x=>exact(ba_9 e).elim
 |no=>rw[e]at o;exact o.elim
 |ok w=>
  rw[e]at o;obtain⟨ds,e0,hz,ha,rfl⟩:=cf_6 e;rw[exec_Assign_Name_used _ _ _ _ hsw];refine A4 (O6 (A4 ?_));show wpAny _ X.A (do let _<-comprehension (.ListComp (.List [] lp) [⟨tg,iter,[],0⟩] scope pos) scope X.env _ (newList []) false (eval iter X.env) (some (assign (.Name y py) X.env))) _ _ s;refine A4 (D1 (T4 (use:=some (assign (.Name y py) X.env)) (Q:=λ_ s'=>SP X zd D .next s') rfl hs n.clos n.kind n.names
   (bu_5 (RR:=λzn C=>compPost (model X.prog X.w) X.A X.xe (some (assign (.Name y py) X.env)) (λ_ s'=>SP X zd D .next s') zn C) hx0 (B:=ak_1) hk hb hm hin I (Z:=Step G H) (λG2 H2 z=>⟨z.gh,h0.mono z.gg⟩) (λ_ _ _ _ _ _=>hc)
    (D1 ((PI.z hi) zd s σ H (λJ H2=>∃G2,Step G H G2 H2/\ItD X.K G2 J ds) I ⟨G,δ,g0,h0,by rw[e0];exact λJ G2 H2 st it=>⟨G2,st,it⟩⟩) (λxv s₁ h₁=>D1 h₁ (λitv s₂ h₂=>by
     obtain⟨it,fp,tn,J,H2,rfl,I2,T,st2,f2,G2,stp,itd⟩:=h₂;exact⟨it,fp,tn,J,H2,ds,G2,rfl,I2,T,st2,f2,e0,stp,itd⟩) λ_ _ e=>e) λ_ _ e=>e)
    (λds' e'=>by rw[e0]at e';cases e';exact⟨hz,ha⟩) λDa C s1 G2 H2 G' H' vs S ds' e' Io hm' fc z st h1 h2 h3 rl fr=> ?_)) (λ_ s' hq=>C5 (C5 hq)) λ_ _ e=>e)
  rw[e0]at e';cases e';obtain⟨mm,hnm⟩:=hm';obtain⟨c0,c1,c2,c3,c4,c5⟩:=fc;show wpAny _ X.A (assign (.Name y py) X.env (.ref Da)) _ _ _;refine Z2 (ah_4 Io hN hy hx (v:=.ref Da) rfl (λs2 I2 ⟨a,sb,ha⟩=> ?_) hf);have hCa:C≠a:=by
   rcases ha with rfl|ha
   ·exact c1
   ·exact λz=>c4 y a ha z.symm
  refine⟨mm,hnm.sameBut sb hCa,λh' sb'=>⟨_,H',I2.turned (t':=s2.toks) (λb ob hb e=>(sb'.2 b hb).trans e) c0 c1 c3 c4 c5, ?_⟩⟩;refine o (.ref Da) (λb=>b=Da\/S b) G' H' (z.trans st) (λa e=> ?_) (.lst h2 (.inl rfl) (λb q=>⟨.inr q,(fr b q).2.2.1⟩) rl);rcases e with rfl|e
  ·exact⟨z.hh.free h1,h3,by rw[h2];simp⟩
  ·obtain⟨f1,f2,f3,f4⟩:=fr a e;exact⟨z.hh.free f1,f2,f4⟩
def db_7(js:List Nat){iter tg:Expr}{scope:Scope}{N':List Str}{fi:FI}{fg:Et}{m i:Nat}{y:Str}{lp py aw:Pos}(hc:X.calm=true)(hi:ID X.nox Ds tg iter fi)(hk:scope.kind=.function)(hb:Ex scope.names X.env.scope.names X.N N'=true)(hm:N'.length=X.N.length + m)
  (hin:∀C s0 H0 fp pn,GC (j_4 X scope (Dg X.env.cells scope.names []) N' C s0 H0 fp pn) Ds tg fg)
  (hN:X.N.Nodup) (hy:X.N[i]? =some y:=by rfl) (hx:Loc X.env.scope y:=by trivial) (hf:X.fn y=true\/X.env.scope.names.lookup y=some .local:=by trivial)
  (hsw:swapsWith (.ListComp (.List [] lp) [⟨tg,iter,[],0⟩] scope pos) (some (.Name y py)) aw.line X.env=pure true:=by rfl)
  (hs:∀x,foldedSetIterable iter X.env x=pure x:=by intro _;rfl):SD X EX (.Assign [.Name y py] (.ListComp (.List [] lp) [⟨tg,iter,[],0⟩] scope pos) aw) (Aj i js (p_6 m fi fg)):=
 PS.imp (PS.nox (cp_7 (X:=X.nox) (λ_ _ z=>z) hc hi hk hb hm hin hN hy hx hf hsw hs)) λD σ H ⟨H0,G0,G,Δ,O,E,q⟩=>by
  refine aq_2 (EX:=Ds) (js:=js) ⟨H0,G0,G,Δ,O,E, ?_⟩;cases e:Aj i js (p_6 m fi fg) Δ with
  |ex x Δ'=>exact(bx_3 (λ_ _ z=>ba_9 z) e).elim
  |_=>rw[e]at q;exact q
end
section
variable{X:Cx}{EX:Az}{pos:Pos}
def bz_0(i:Nat)(fn f:FE):FS:=λ Δ=>match(Δ[i]?).bind Sl.tree with
 |some (t,lk)=>(match fn (Bf Δ) with
  | .ok wn=>(match wn.d with
   | .int k=>if 0<=k then(match t.kid k.toNat with
    |some ds=>if ds.length < 16777216 then(match f (Bf Δ) with
     | .ok w=> .nx (Δ.set i (Sl.mk lk (t.setKid k.toNat (ds ++ [w.d]))))
     |_=> .no) else .no
    |none=> .no) else .no
   |_=> .no)
  |_=> .no)
 |none=> .no
def db_8{i:Nat}{x:Str}{en e:Expr}{fn f:FE}{p1 p2 zh zf:Pos}(hn:ED X EX en fn)(he:ED X EX e f)(hN:X.N[i]? =some x:=by rfl)(hv:Vis X.env.scope x:=by trivial)(hd:AG x:=by decide)
  (hcd:(x ==("__classdict__" :Str))=false:=by decide) (hn1:bd_0 en:=by intro _ _;rfl)
  (hsw:swapsWith (.Call (.Attribute (.Subscript (.Name x p1) en p2) "append" zh) [e] [] zf) none pos.line X.env=pure false:=by rfl)
  (ag:attributeBase (.Subscript (.Name x p1) en p2) "append" X.env (eval (.Subscript (.Name x p1) en p2) X.env)=eval (.Subscript (.Name x p1) en p2) X.env:=by rfl)
  (ax:((backTo zf (starEach [e] X.env)).all (λx=> !x.1) && (backToKw zf (keywordEach [] X.env)).all (λx=>x.1.isSome)
   && decide ([e].length + ([]:List Keyword).length + (if([]:List Keyword).isEmpty then 0 else 1) < 30))=true:=by rfl)
  (af:(zh.endLine ==zf.line)=true:=by rfl) (hs:starEach [e] X.env=(false,eval e X.env)::starEach [] X.env:=by rfl) (aa:(backTo zf (starEach [] X.env)).any (·.1)=false:=by rfl):
  SD X EX (.Expr (.Call (.Attribute (.Subscript (.Name x p1) en p2) "append" zh) [e] [] zf) pos) (bz_0 i fn f):=
 PS.imp (z_8 (bj_8 Q9 Q4 Q5 q_8 (de_4 ix_q (l_5 hN hv hd hcd) hn hn1) (j_9 he p_4 hs) ag ax af hs aa) hsw) λD σ H ⟨H0,G0,G,Δ,O,E,q⟩=>by
  unfold bz_0 at q
  split at q
  ·rename_i t lk e0;obtain⟨s,e1,etr⟩:=U4.mp e0;obtain⟨v00,s1,_⟩:=E.ow i _ _ e1 (Sl.tree_own etr);cases en':fn (Bf Δ) with
   |ex x=>simp only[en']at q;exact q.elim
   |no=>simp only[en']at q;exact q.elim
   |ok wn=>
    simp only[en']at q;refine⟨v00,s1,G,Bf Δ,E.st.gh,E.gsh, ?_⟩;rw[en'];refine WP.intro λy G1 H1 st1 r1=> ?_;revert q r1;cases wn.d with
    |int k=>
     intro q r1;cases r1;have E1:=E.grow st1;obtain⟨v0,s1',t0⟩:=E1.ow i _ _ e1 (Sl.tree_own etr);rw[s1]at s1';cases s1';simp only at q
     split at q
     ·rename_i hk
      split at q
      ·rename_i ds ek
       split at q
       ·rename_i hz;obtain⟨a,vs,c,cs,rfl,hA,hc1,mc,hca,hcs,rc,_⟩:=t0.kid ek;have ik:((k.toNat:Nat):Int)=k:=Int.toNat_of_nonneg hk;have at':∀{Q:VK},Q (.ref c) H1->rIxQ X.K (.ref a) (.int k) H1 Q:=λ{Q} z=>by
         have:=rIxQ.at (K:=X.K) (Q:=Q) hA hc1 z;rw[ik]at this;exact this
        refine at' ⟨.inl ⟨rfl,_,SqL.of hcs⟩, ?_⟩;refine⟨G1,Bf Δ,E1.st.gh,E1.gsh, ?_⟩;cases e2:f (Bf Δ) with
        |ex x=>simp only[e2]at q;exact q.elim
        |no=>simp only[e2]at q;exact q.elim
        |ok w=>
         simp only[e2]at q;refine WP.intro λv G' H' st r=> ?_;have E2:=E1.grow st;obtain⟨v0',s1',t2⟩:=E2.ow i _ _ e1 (Sl.tree_own etr);rw[s1]at s1';cases s1';obtain⟨a',vs',c',cs',ea,hA',ej,mc',jq,ft,rc',fin⟩:=t2.kid ek;cases ea;have hvv:vs'=vs:=by
          rcases hA with z|z <;> rcases hA' with z'|z' <;> (rw[st.hh _ _ z]at z';cases z';try rfl)
         subst hvv;rw[hc1]at ej;cases ej;rw[st.hh _ _ hcs]at ft;cases ft;refine⟨c,cs,v,rfl,rfl,st.hh _ _ hcs,by rw[rc.length,D2];exact hz,q σ G' _ _ (E2.writeIn e1 etr s1 mc' (fin (λb o _ nb z=>by rw[Aq nb];exact z) Bp (rc'.append (.cons r .nil)))) (st1.gg.trans st.gg)⟩
       ·exact q.elim
      ·exact q.elim
     ·exact q.elim
    |_=>intro q _;exact q.elim
  ·exact q.elim
end
end L3
local macro_rules|`(#v[])=>`(L3.Ac)|`(#v[$n:num])=>`(L3.Aa (L3.Ab $n) L3.Ac)|`(#v[$x])=>`(L3.Aa $x L3.Ac)|`(#v[$n:num,$xs,*])=>`(L3.Aa (L3.Ab $n) #v[$xs,*])|`(#v[$x,$xs,*])=>`(L3.Aa $x #v[$xs,*])
namespace My
open PySem L2 L3
def bb_0:FS:=
  (Af (Cm [0,1] (Am (Ag ltD (Ab 1) (Ah Cs #v[0])))
   (Ap [0,1] (Ag Ct (Ab 0) (Ab 1)))
   Bi)
  (Ap [] (eC (.int 0))))
def h_9:List D->R W:=Al 2 bb_0
def bb_1:FS:=
  (Af (Aj 2 [0,1] (Ag Dp (Ag Dz (Ag Bq (Ab 0) (eC (.int 1))) (Ag Bq (eC (.int 48271)) (Ag Dz (eC (.int 118)) (Ab 1)))) (eC (.int 2147483629))))
  (Ap [1,2] (Ag Dp (Ag Bq (Ag Bq (Ag Dz (Ag Cw (Ab 2) (eC (.int 977))) (eC (.int 16807))) (Ag Dz (Ab 2) (Ag Bq (Ag Dz (Ab 1) (Ab 1)) (eC (.int 7))))) (Ab 1)) (eC (.int 2147483587)))))
def g_6:List D->R W:=Al 3 bb_1
def as_8:FS:=
  (Ap [0,1] (Bc 2 g_6 #v[Ag Dp (Bc 2 h_9 #v[0,1]) (eC (.int 2147483647)),Ag Bq (Ab 1) (eC (.int 101))]))
def h_1:List D->R W:=Al 2 as_8
def ak_5:FS:=
  (Ap [0] (Ag Bq (Ag Dz (Ag Bq (Ag Dz (Bc 2 g_6 #v[0,eC (.int 1)]) (eC (.int 2147483587))) (Bc 2 g_6 #v[0,eC (.int 2)])) (eC (.int 2147483587))) (Bc 2 g_6 #v[0,eC (.int 3)])))
def j_5:List D->R W:=Al 1 ak_5
def t_4:FE:=
  (Bc 2 h_9 #v[0,Ag Bq (Ab 1) (Ab 5)])
def t_5:FE:=
  (Bc 1 j_5 #v[Bc 2 g_6 #v[Bc 2 h_1 #v[0,Ag Bq (Ab 1) (Ag Dp (Ab 5) (Ah El #v[eC (.int 1),3]))],5]])
def y_7:FS:=
  (Af (Aj 3 [0,1] (Ah El #v[eC (.int 0),Ag subD (Ah Cs #v[0]) (Ab 1)]))
  (Af (Cm [0] (Am (Ag Ez (Ag Dp (Bc 2 h_9 #v[0,eC (.int 0)]) (eC (.int 2))) (eC (.int 0))))
   (Ap [0,1,2,3] (Bu 1 (Aw Dl #v[Ah minD #v[2,3]]) (gC 5) (λ_=> .ok true) t_4))
   Bi)
  (Af (Aj 4 [0,2,3] (Ah minD #v[2,Ah El #v[3,Ag Bq (eC (.int 1)) (Ag Dp (Bc 2 h_1 #v[0,eC (.int 0)]) (Ab 2))]]))
  (Ap [0,1,3,4] (Bu 1 (Aw Dl #v[4]) (gC 5) (λ_=> .ok true) t_5)))))
def m_3:List D->R W:=Al 5 y_7
def y_8:FS:=
  (Af (Aj 2 [2,5] (Ag Cw (Ab 2) (Ag Ct (Bn #v[eC (.int 12),eC (.int 39)]) (Ah ae_7 #v[Ag gtD (Ab 5) (eC (.int 0))]))))
  (Aj 3 [1,2,3] (Ag Bq (Ab 3) (Ag Ct (Ab 1) (Ag Dp (Ab 2) (eC (.int 39)))))))
def aa_4:FS:=
  (Af (Aj 1 [] (eC (.str "abcdefghijklmnopqrstuvwxyz0123456789-_ ")))
  (Af (Aj 2 [0] (Ag Cw (Ab 0) (eC (.int 3))))
  (Af (Cm [0] (Am (Ag Ez (Ag Dp (Ab 0) (eC (.int 3))) (eC (.int 0))))
   (Ap [2] (Ag Dp (Ab 2) (Ag powD (eC (.int 10)) (eC (.int 18)))))
   Bi)
  (Af (Cm [0] (Am (Ag Ez (Ag Dp (Ab 0) (eC (.int 3))) (eC (.int 2))))
   (Ap [2] (Ag Dp (Ab 2) (eC (.int 50))))
   Bi)
  (Af (Aj 3 [] (eC (.str "")))
  (Af (Aj 4 [2] (Ag Dp (Ab 2) (eC (.int 12))))
  (Af (Bw [4] (Aw Dl #v[4]) (gV 5) y_8)
  (By 3))))))))
def i_8:List D->R W:=Al 6 aa_4
def q_6:FS:=
  (Af (Aj 5 [4] (Bc 1 i_8 #v[4]))
  (Cm [3,5] (Am (Ag (inD true) (Ab 5) (Ab 3)))
   (sApp 3 (Ab 5))
   Bi))
def ad_6:FS:=
  (Af (Aj 3 [] (Bn Ac))
  (Af (Bw [0,1,2] (Bo (Bc 3 m_3 #v[0,1,2])) (gV 4) q_6)
  (Af (Cm [3] (Am (Ag Ez (Ab 3) (Bn Ac)))
   (Aj 3 [0] (Bn #v[Bc 1 i_8 #v[Ag Cw (Bc 2 h_9 #v[0,eC (.int 0)]) (eC (.int 2))]]))
   Bi)
  (By 3))))
def o_3:List D->R W:=Al 6 ad_6
def ak_6:FS:=
  (Af (Aj 2 [0] (Ag Ct (Bn #v[Ag Bq (eC (.int 1)) (Ag Dp (Ag Cw (Ab 0) (eC (.int 5))) (eC (.int 30))),eC (.int 200),eC (.int 200),eC (.int 100)]) (Ag Dp (Ab 0) (eC (.int 4)))))
  (Af (Aj 3 [0,1] (Ag Ct (Bn #v[Ag Bq (eC (.int 1)) (Ag Dp (Ag Cw (Ab 0) (eC (.int 120))) (eC (.int 8))),Ag Bq (eC (.int 1)) (Ag Dp (Ag Cw (Ab 0) (eC (.int 120))) (eC (.int 60))),Ah El #v[eC (.int 1),Ag Cw (Ab 1) (eC (.int 2))],Ah El #v[eC (.int 1),Ag Cw (Ab 1) (eC (.int 4))]]) (Ag Dp (Ag Cw (Ab 0) (eC (.int 4))) (eC (.int 4)))))
  (Ap [2,3] (eTup #v[3,2]))))
def o_9:List D->R W:=Al 4 ak_6
def ak_7:FS:=
  (Af (Aj 3 [] (eC (.int 2305843009213693951)))
  (Af (Aj 4 [1,3] (Ag Bq (eC (.int 1)) (Ag Dp (Ag Bq (Ag Dz (eC (.int 1103515245)) (Ab 1)) (eC (.int 12345))) (Ag subD (Ab 3) (eC (.int 1))))))
  (Af (Aj 5 [1,3] (Ag Dp (Ag Bq (Ag Dz (Ag Dz (eC (.int 69069)) (Ab 1)) (Ab 1)) (Ag Dz (eC (.int 7)) (Ab 1))) (Ab 3)))
  (Af (Aj 6 [0,3,4,5] (Ag Dp (Ag Bq (Ag Dz (Ab 4) (Ab 0)) (Ab 5)) (Ab 3)))
  (Ap [2,6] (Ag Dp (Ag Bq (Ab 6) (Ag Cw (Ab 6) (eC (.int 2147483648)))) (Ab 2)))))))
def d_5:List D->R W:=Al 7 ak_7
def t_6:FS:=
  (Aj 1 [1,2] (Ag Bq (Ag Bq (Ag Dz (Ab 1) (eC (.int 40))) (eMeth "str" ai_1 (eC (.str "abcdefghijklmnopqrstuvwxyz0123456789-_ ")) #v[2])) (eC (.int 1))))
def y_9:FS:=
  (Af (Cm [0] (Bh (eIs "int" (Ab 0)))
   (Ap [0] (Ag Dz (eC (.int 2)) (Ab 0)))
   Bi)
  (Af (Aj 1 [] (eC (.int 0)))
  (Af (Bw [0] (Bo (Ab 0)) (gV 2) t_6)
  (Ap [1] (Ag Bq (Ag Dz (eC (.int 2)) (Ab 1)) (eC (.int 1)))))))
def e_9:List D->R W:=Al 3 y_9
def g_3:FS:=
  (bz_0 2 (Bc 3 d_5 #v[Bc 1 e_9 #v[3],eC (.int 0),1]) (Bc 1 e_9 #v[3]))
def u_7:FS:=
  (Af (Aj 2 [1] (p_6 1 (Aw Dl #v[1]) (gC 4)))
  (Af (Bw [0] (Bo (Ab 0)) (gV 3) g_3)
  (By 2)))
def i_0:List D->R W:=Al 4 u_7
def f_6:FE:=
  (Ah Cs #v[3])
def l_3:FT:=
  (Am (Ag Ez (Ah Cs #v[Ag Ct (Ab 0) (Ab 3)]) (Ab 2)))
def g_7:FS:=
  (Aj 1 [0,1,2] (Ag Bq (Ab 1) (Bu 1 (Aw Dl #v[Ah Cs #v[0]]) (gC 3) l_3 (Ab 3))))
def ac_2:FS:=
  (Af (Aj 1 [] (Bn Ac))
  (Af (Bw [0] (Aw rngR #v[(Ag Bq (eC (.int 1)) (Ah Fk #v[(Bu 1 (Bo (Ab 0)) (gC 3) (λ_=> .ok true) f_6)]))]) (gV 2) g_7)
  (By 1)))
def h_2:List D->R W:=Al 3 ac_2
def k_2:FE:=
  (Bc 3 d_5 #v[5,Ag Bq (Ab 1) (eC (.int 1)),3])
def q_7:FT:=
  (Am (Ag (inK false) (Ab 5) (Ab 2)))
def as_9:FS:=
  (Af (Aj 4 [0,1,3] (Bu 1 (Bo (Ab 0)) (gC 5) (λ_=> .ok true) k_2))
  (Af (Cm [4] (Am (Ag ltD (aa_1 (Ab 4)) (Ah Cs #v[4])))
   (Ap [] (eC (.bl false)))
   Bi)
  (Ap [2,4] (Ag Ez (Bu 1 (Bo (Ab 4)) (gC 5) q_7 (Ab 5)) (Bn Ac)))))
def w_5:List D->R W:=Al 5 as_9
def k_7:FT:=
  (tAndF (Am (Ag ltD (Ab 7) (Ab 2))) (Cp (Bh (Bc 4 w_5 #v[Ag Ct (Ab 3) (Ab 6),7,4,Ah Cs #v[0]]))))
def t_7:FS:=
  (Aj 7 [7] (Ag Bq (Ab 7) (eC (.int 1))))
def k_8:FS:=
  (u_5 4 [] (Bc 3 d_5 #v[8,Ag Bq (Ab 7) (eC (.int 1)),Ah Cs #v[0]]) (eC (.bl true)))
def e_2:FS:=
  (Af (Aj 7 [] (eC (.int 0)))
  (Af (k_3 [0,2,3,4,6,7] k_7 t_7 3000)
  (Af (Cm [2,7] (Am (Ag Ez (Ab 7) (Ab 2)))
   (By 6)
   Bi)
  (Af (bl_2 5 (Ab 6) (Ab 7))
  (Bw [3,6] (Bo (Ag Ct (Ab 3) (Ab 6))) (gV 8) k_8)))))
def ak_8:FS:=
  (Af (Aj 3 [0,1] (Bc 2 i_0 #v[0,1]))
  (Af (Aj 4 [] u_4)
  (Af (Aj 5 [1] (eRep #v[eC (.int 0)] (Ab 1)))
  (Af (Bw [3] (Bo (Bc 1 h_2 #v[3])) (gV 6) e_2)
  (By 5)))))
def p_0:List D->R W:=Al 9 ak_8
def ak_9:FS:=
  (Ap [0] (eAnd (eIs "int" (Ab 0)) (eNot (eIs "bool" (Ab 0)))))
def m_4:List D->R W:=Al 1 ak_9
def bz_1:FS:=
  (Af (Cm [2] (Am (Ag Ez (Ab 2) (eC (.int 0))))
   (Ap [] (eC (.int 0)))
   Bi)
  (Af (Aj 3 [1] (Ag Bq (eC (.int 1)) (Ag Dp (Ag Bq (Ag Dz (eC (.int 1103515245)) (Ab 1)) (eC (.int 12345))) (Ag subD (eC (.int 2305843009213693951)) (eC (.int 1))))))
  (Af (Aj 4 [1] (Ag Dp (Ag Bq (Ag Dz (Ag Dz (eC (.int 69069)) (Ab 1)) (Ab 1)) (Ag Dz (eC (.int 7)) (Ab 1))) (eC (.int 2305843009213693951))))
  (Af (Aj 5 [0,3,4] (Ag Dp (Ag Bq (Ag Dz (Ab 3) (Ab 0)) (Ab 4)) (eC (.int 2305843009213693951))))
  (Ap [2,5] (Ag Dp (Ag Bq (Ab 5) (Ag Cw (Ab 5) (eC (.int 2147483648)))) (Ab 2)))))))
def aa_5:List D->R W:=Al 6 bz_1
def bb_2:FS:=
  (Ap [0,1,2] (Bc 3 aa_5 #v[0,Ag Bq (Ab 1) (eC (.int 1)),2]))
def o_4:List D->R W:=Al 3 bb_2
def l_4:FE:=
  (Ag (inD false) (Ab 1) (eC (.str "abcdefghijklmnopqrstuvwxyz0123456789-_ ")))
def ac_3:FS:=
  (Ap [0] (eAnd (Ag leD (Ah Cs #v[0]) (eC (.int 11))) (Ah allD #v[(Bu 1 (Bo (Ab 0)) (gC 1) (λ_=> .ok true) l_4)])))
def k_9:List D->R W:=Al 1 ac_3
def at_0:FS:=
  (Af (Cm [0] (Bh (eIs "bool" (Ab 0)))
   (Ap [] (eC (.bl false)))
   Bi)
  (Af (Cm [0] (Bh (eIs "int" (Ab 0)))
   (Ap [0] (bd_7 leD leD (eC (.int 0)) (Ab 0) (eC (.int 999999999999999999))))
   Bi)
  (Ap [0] (eAnd (eIs "str" (Ab 0)) (Bc 1 k_9 #v[0])))))
def r_4:List D->R W:=Al 1 at_0
def ai_9:FS:=
  (Aj 1 [1,2] (Ag Bq (Ag Bq (Ag Dz (eC (.int 40)) (Ab 1)) (eMeth "str" bl_0 (eC (.str "abcdefghijklmnopqrstuvwxyz0123456789-_ ")) #v[2])) (eC (.int 1))))
def bz_2:FS:=
  (Af (Aj 1 [] (eC (.int 0)))
  (Af (Bw [0] (Bo (Ab 0)) (gV 2) ai_9)
  (By 1)))
def af_8:List D->R W:=Al 3 bz_2
def bg_8:FS:=
  (Af (Cm [0] (Cp (Bh (Bc 1 r_4 #v[0])))
   (w_0 "NoKey" "at" [] (eC (.int 0)))
   Bi)
  (Af (Cm [0] (Bh (eIs "str" (Ab 0)))
   (Ap [0] (Ag Bq (Ag Dz (eC (.int 2)) (Bc 1 af_8 #v[0])) (eC (.int 1))))
   Bi)
  (Ap [0] (Ag Dz (eC (.int 2)) (Ab 0)))))
def s_6:List D->R W:=Al 1 bg_8
def p_8:FS:=
  (Ap [0,1] (cm_1 (Ep ["Buckets"] "by_bucket" (Ab 0)) (Ab 1) (eC (.int 0))))
def c_4:List D->R W:=Al 2 p_8
def al_0:FS:=
  (Ap [0,1] (Bc 3 aa_5 #v[0,eC (.int 0),1]))
def j_6:List D->R W:=Al 2 al_0
def u_8:FS:=
  (Ap [0,1] (Bc 2 j_6 #v[Bc 1 s_6 #v[1],Ep ["Buckets"] "many_buckets" (Ab 0)]))
def b_7:List D->R W:=Al 2 u_8
def p_9:FS:=
  (Ap [0,1] (Bc 3 o_4 #v[Bc 1 s_6 #v[1],Cz "number_in" 1 [("Buckets",c_4)] (Ab 0) #v[Cz "bucket" 1 [("Buckets",b_7)] (Ab 0) #v[1]],Ep ["Buckets"] "how_many" (Ab 0)]))
def d_0:List D->R W:=Al 2 p_9
def z_0:FS:=
  (Ap [0,1] (Ah minD #v[Cz "number_of" 1 [("Buckets",d_0)] (Ab 0) #v[1],Ag subD (Ep ["Buckets"] "how_many" (Ab 0)) (eC (.int 1))]))
def c_7:List D->R W:=Al 2 z_0
def n_5:FS:=
  (Cm [7,8] (Cd (Cp (Bh (Bc 1 m_4 #v[7]))) (Am (Ag Dj (Ab 7) (Ab 8))))
   (Ap [] (eC .non))
   Bi)
def at_1:FS:=
  (Af (Aj 4 [1] (Bc 1 e_9 #v[1]))
  (Af (Aj 5 [2,4] (Bc 3 d_5 #v[4,eC (.int 0),Ah Cs #v[2]]))
  (Af (Aj 6 [2,3,4,5] (Bc 3 d_5 #v[4,Ag Bq (Ag Ct (Ab 2) (Ab 5)) (eC (.int 1)),3]))
  (Af (Bw [0,1,5,6] (Aw az_5 #v[Bn #v[Cz "bucket" 1 [("Buckets",b_7)] (Ab 0) #v[1],Cz "room" 1 [("Buckets",c_7)] (Ab 0) #v[1]],Bn #v[5,6]]) (gV2 7 8) n_5)
  (By 6)))))
def o_5:List D->R W:=Al 9 at_1
def n_6:FS:=
  (Cm [2] (Cp (Bh (Bc 1 r_4 #v[2])))
   (w_0 "NoKey" "at" [1] (Ab 1))
   Bi)
def x_2:FS:=
  (Bw [0] (az_4 (Ab 0)) (gV2 1 2) n_6)
def f_7:List D->R W:=Al 3 x_2
def s_7:FE:=
  (Cz "room" 1 [("Buckets",c_7)] (Ab 0) #v[2])
def x_3:FS:=
  (Af (Ej [1] (Bc 1 f_7 #v[1]))
  (Ap [0,1] (Bu 1 (Bo (Ab 1)) (gC 2) (λ_=> .ok true) s_7)))
def b_2:List D->R W:=Al 2 x_3
def k_4:FE:=
  (Cz "number_in" 1 [("Buckets",c_4)] (Ab 0) #v[1])
def s_8:FS:=
  (Ap [0] (Bu 1 (Aw Dl #v[Ep ["Buckets"] "many_buckets" (Ab 0)]) (gC 1) (λ_=> .ok true) k_4))
def c_5:List D->R W:=Al 1 s_8
def z_1:FS:=
  (Ap [0] (Ep ["Buckets"] "how_many" (Ab 0)))
def f_4:List D->R W:=Al 1 z_1
def l_0:FT:=
  (Cp (Bh (Bc 1 m_4 #v[5])))
def al_1:FS:=
  (Af (Cm [0,1,2] (Cd (Am (Ag Dj (Cz "rooms" 1 [("Buckets",b_2)] (Ab 0) #v[Ah v_6 #v[1]]) (Ab 2))) (Am (Ag Dj (Cz "rooms" 1 [("Buckets",b_2)] (Ab 0) #v[k_6 (Ab 1)]) (k_6 (Ab 2)))))
   (Ap [] (eC (.bl false)))
   Bi)
  (Af (Aj 4 [0] (Cz "numbers" 0 [("Buckets",c_5)] (Ab 0) Ac))
  (Af (Cm [3,4] (Cd (Cp (Bh (eIs "list" (Ab 4)))) (Cd (Am (Ag Dj (Ab 4) (Ab 3))) (Am (Ag Dj (Bu 1 (Bo (Ab 4)) (gC 5) l_0 (Ab 5)) (Bn Ac)))))
   (Ap [] (eC (.bl false)))
   Bi)
  (Af (sApp 4 (eC (.int 0)))
  (Af (bn_9 (Cz "rooms" 1 [("Buckets",b_2)] (Ab 0) #v[Dw (Ab 1) oNone (Fv (eC (.int 1)))]) (eC (.int 0)))
  (Ap [0,1,3] (eAnd (Ag Ez (Cz "numbers" 0 [("Buckets",c_5)] (Ab 0) Ac) (Ab 3)) (eAnd (Ag Ez (Cz "rooms" 1 [("Buckets",b_2)] (Ab 0) #v[Bn Ac]) (Bn Ac)) (Ag Ez (Cz "many" 0 [("Buckets",f_4)] (Ab 0) Ac) (Ah Cs #v[1]))))))))))
def j_7:List D->R W:=Al 5 al_1
def i_6:FS:=
  (Af (Cm [1,3] (Am (Ag (inK false) (Ab 3) (Ab 1)))
   (w_0 "Twice" "at" [2] (Ab 2))
   Bi)
  (u_5 1 [] (Ab 3) (eC (.bl true))))
def ac_4:FS:=
  (Af (Aj 1 [] u_4)
  (Bw [0] (az_4 (Ab 0)) (gV2 2 3) i_6))
def l_1:List D->R W:=Al 4 ac_4
def al_2:FS:=
  (Af (Cm [0] (Cd (Am (Ag Ez (Ah Cs #v[0]) (eC (.int 0)))) (Am (Ag gtD (Ah Cs #v[0]) (eC (.int 200)))))
   (by_3 "NoKeys")
   Bi)
  (Af (Ej [0] (Bc 1 f_7 #v[0]))
  (Af (Ej [0] (Bc 1 l_1 #v[0]))
  (Ap [0] (Ah Cs #v[0])))))
def m_5:List D->R W:=Al 1 al_2
def c_8:FS:=
  (sSdb 2 (Bc 2 j_6 #v[3,1]) (Ab 3))
def r_5:FS:=
  (Af (Aj 2 [] u_4)
  (Af (Bw [0] (Bo (Ab 0)) (gV 3) c_8)
  (By 2)))
def g_4:List D->R W:=Al 4 r_5
def e_3:FS:=
  (Af (Aj 6 [1,2,5] (Bc 3 o_4 #v[5,1,2]))
  (Af (Cm [3,4,6] (Cd (Am (Ag (inK false) (Ab 6) (Ab 3))) (Am (Ag (inK false) (Ab 6) (Ab 4))))
   (Ap [] (eC (.bl false)))
   Bi)
  (u_5 4 [] (Ab 6) (eC (.bl true)))))
def al_3:FS:=
  (Af (Aj 4 [] u_4)
  (Af (Bw [0] (Bo (Ab 0)) (gV 5) e_3)
  (Ap [] (eC (.bl true)))))
def s_9:List D->R W:=Al 7 al_3
def d_7:FS:=
  (Cm [0,1,2,4] (Bh (Bc 4 s_9 #v[0,4,1,2]))
   (By 4)
   Bi)
def z_2:FS:=
  (Af (Bw [3] (Aw Dl #v[3]) (gV 4) d_7)
  (Ap [] (eC .non)))
def i_1:List D->R W:=Al 5 z_2
def b_5:FE:=
  (eTup #v[eNeg (Ah Cs #v[Ag Em (Ab 3) (Ab 9)]),9])
def f_0:FS:=
  (u_5 4 [] (Bc 3 o_4 #v[8,7,Ah Cs #v[0]]) (eC (.bl true)))
def b_8:FS:=
  (Af (bo_3 7 (bo_2 [4] (Bc 4 i_1 #v[Ag Em (Ab 3) (Ab 6),Ah Cs #v[0],4,2])))
  (Af (Cm [7] (Am (Ag (isND false) (Ab 7) (eC .non)))
   (w_0 "NoFit" "at" [6] (Ab 6))
   Bi)
  (Af (u_5 5 [7] (Ab 6) (Ab 7))
  (Bw [3,6] (Bo (Ag Em (Ab 3) (Ab 6))) (gV 8) f_0))))
def q_0:FS:=
  (Af (Aj 3 [0,1] (Bc 2 g_4 #v[0,1]))
  (Af (Aj 4 [] u_4)
  (Af (Aj 5 [] u_4)
  (Af (Bw [3] (Bo (y_6 b_5 (Ab 3))) (gV 6) b_8)
  (By 5)))))
def d_1:List D->R W:=Al 9 q_0
def t_8:FS:=
  (y_3 0 ["Buckets"] "how_many" [1] (Ab 1))
def c_9:List D->R (List Str×List D):=az_8 2 "Buckets" t_8
def e_0:FE:=
  (Bc 1 s_6 #v[4])
def r_6:FS:=
  (Af (ai_5 0 "Buckets" [1] c_9 (Bc 1 m_5 #v[1]))
  (Af (y_3 0 ["Buckets"] "many_buckets" [2] (Ab 2))
  (y_3 0 ["Buckets"] "by_bucket" [1,2,3] (Bc 3 d_1 #v[(Bu 1 (Bo (Ab 1)) (gC 4) (λ_=> .ok true) e_0),2,3]))))
def m_6:List D->R (List Str×List D):=az_8 4 "Buckets" r_6
def ao_6:FS:=
  (Aj 4 [3,9,10] (az_9 "Buckets" 3 m_6 #v[3,9,10]))
abbrev L13:List Str:=["NoFit","NoKey","Twice"]
def bz_3:FS:=
  (Aj 5 [6] (eAttr L13 "at" (Ab 6)))
def aa_6:FE:=
  (Bc 4 o_5 #v[4,11,2,Ah Cs #v[1]])
def ao_7:FS:=
  (Cm [0,1,2,4,8] (Am (Ag (isND false) (Bc 4 o_5 #v[4,Bc 1 i_8 #v[Bc 2 g_6 #v[Bc 2 h_1 #v[0,eC (.int 1)],8]],2,Ah Cs #v[1]]) (eC .non)))
   (Ap [] (eC (.bl false)))
   Bi)
def bg_9:FS:=
  (Aj 1 [0] (Bc 3 o_3 #v[0,eC (.int 2),eC (.int 40)]))
def bh_0:FS:=
  (sUnp (gP 9 10) [0,1] (Bc 2 o_9 #v[Bc 2 h_9 #v[0,eC (.int 1)],Ah Cs #v[1]]))
def af_9:FS:=
  (Aj 2 [1,9,10] (Bc 3 p_0 #v[1,9,10]))
def ag_0:FS:=
  (Aj 3 [1] (Ah v_6 #v[1]))
def ag_1:FS:=
  (Aj 4 [] (eC .non))
def ag_2:FS:=
  (Aj 5 [] (eC .non))
abbrev L46:List (Str×Bool):=[("NoFit",true),("NoKey",false),("NoKeys",false),("Twice",false)]
def ag_3:FS:=
  (bn_4 ao_6 [⟨some 6, L46,bz_3⟩])
def ag_4:FS:=
  (Cm [1,2,3,5] (Cd (Am (Ag Dj (Ab 3) (Ab 1))) (Cd (Am (Ag Dj (Ab 5) (Ag Ct (Bn #v[2,eC .non]) (Ah ae_7 #v[eIs "list" (Ab 2)])))) (Bh (eIs "bool" (Ab 5)))))
   (Ap [] (eC (.bl false)))
   Bi)
def ao_8:FS:=
  (Cm [4] (Am (Ag (isND false) (Ab 4) (eC .non)))
   (Ap [2] (eIs "int" (Ab 2)))
   Bi)
def at_2:FS:=
  (Aj 7 [1,2,4] (Bu 1 (Bo (Ab 1)) (gC 11) (λ_=> .ok true) aa_6))
def at_3:FS:=
  (Cm [1,2,4,7] (Cd (Am (Ag (inD false) (eC .non) (Ab 7))) (Cd (Am (Ag Dj (Ah ba_2 #v[7]) (eRng Dl #v[Ah Cs #v[1]]))) (Cp (Bh (Bc 4 j_7 #v[4,1,7,2])))))
   (Ap [] (eC (.bl false)))
   Bi)
def at_4:FS:=
  (Bw [] (Aw Dl #v[eC (.int 6)]) (gV 8) ao_7)
def bo_6:FS:=
  (Ap [1,2,4,7] (Bc 4 j_7 #v[4,1,7,2]))
def df_2:FS:=
  (Af bg_9
  (Af bh_0
  (Af af_9
  (Af ag_0
  (Af ag_1
  (Af ag_2
  (Af ag_3
  (Af ag_4
  (Af ao_8
  (Af at_2
  (Af at_3
  (Af at_4
  bo_6))))))))))))
def cp_8:List D->R W:=Al 11 df_2
end My
namespace L3
open PySem L2
def okD:Nat->D->Bool
 |_,.non=>true
 |_,.bl _=>true
 |_,.int _=>true
 |_,.str x=>x.cps.all (· < 0x110000)
 |n + 1,.lst ds=>ds.all (okD n)
 |n + 1,.tup ds=>ds.all (okD n)
 |_,_=>false
def cp_9:∀(n:Nat) (d:D),okD n d=true->(Dm d).canLay0=true/\(Dm d).depth<=n/\(Dm d).eqv (Dm d)=true:=by
 intro n
 induction n with
 |zero=>
  intro d h;cases d with
  |non=>exact⟨rfl,A8 _,rfl⟩
  |bl b=>exact⟨rfl,A8 _,by cases b <;> rfl⟩
  |int i=>exact⟨rfl,A8 _,by show(i ==i)=true;simp⟩
  |str x=>exact⟨h,A8 _,by show(x ==x)=true;simp⟩
  |_=>cases h
 |succ n ih=>
  have all:∀ds:List D,ds.all (okD n)=true->PyData.canLayAll0 (Es ds)=true/\PyData.depthAll (Es ds)<=n/\PyData.eqvAll (Es ds) (Es ds)=true:=by
   intro ds
   induction ds with
   |nil=>intro _;exact⟨rfl,F7 _,rfl⟩
   |cons d ds ih2=>
    intro h;rw[W7,C9]at h;obtain⟨a1,a2,a3⟩:=ih d h.1;obtain⟨b1,b2,b3⟩:=ih2 h.2;refine⟨?_, ?_, ?_⟩
    ·show(PyData.canLay0 (Dm d) && PyData.canLayAll0 (Es ds))=true;rw[a1,b1];rfl
    ·show max (PyData.depth (Dm d)) (PyData.depthAll (Es ds))<=n;exact Nat.max_le.mpr ⟨a2,b2⟩
    ·show(PyData.eqv (Dm d) (Dm d) && PyData.eqvAll (Es ds) (Es ds))=true;rw[a3,b3];rfl
  intro d h;cases d with
  |non=>exact⟨rfl,F7 _,rfl⟩
  |bl b=>exact⟨rfl,F7 _,by cases b <;> rfl⟩
  |int i=>exact⟨rfl,F7 _,by show(i ==i)=true;simp⟩
  |str x=>exact⟨h,F7 _,by show(x ==x)=true;simp⟩
  |lst ds=>
   obtain⟨b1,b2,b3⟩:=all ds h;exact⟨b1,Nat.succ_le_succ b2,b3⟩
  |tup ds=>
   obtain⟨b1,b2,b3⟩:=all ds h;exact⟨b1,Nat.succ_le_succ b2,b3⟩
  |_=>cases h
def bo_7{n:Nat}{d:D}(h:okD n d=true)(hn:n<=60):eqC d d=true/\Ew d d=true:=by
 obtain⟨a1,a2,a3⟩:=cp_9 n d h;refine⟨?_,a3⟩;unfold eqC;rw[a1,F5 (C7 a2 hn)];rfl
def cq_0{d:D}(n:Nat)(h:okD n d=true)(hn:n<=60:=by decide):Ez d d=.ok (.sh (.bl true)):=by
 obtain⟨h1,h2⟩:=bo_7 h hn;unfold Ez
 split
 ·simp
 ·rw[if_pos h1,h2]
def ag_5{d:D}(n:Nat)(h:okD n d=true)(hn:n<=60:=by decide):Dj d d=.ok (.sh (.bl false)):=by
 obtain⟨h1,h2⟩:=bo_7 h hn;unfold Dj
 split
 ·simp
 ·rw[if_pos h1,h2];rfl
def db_9(n:Nat)(i:Int):okD n (.int i)=true:=by cases n <;> rfl
def cq_1(n:Nat){α:Type}(f:α->Int)(l:List α):(l.map λa=>D.int (f a)).all (okD n)=true:=by
 rw[F2];intro d hd;obtain⟨a,_,rfl⟩:=F4.mp hd;exact db_9 n _
theorem bb_3{α:Type}(f:α->Int):∀l:List α,u_3 (l.map λa=>D.int (f a))=some (l.map f)
 | []=>rfl
 |a::l=>by
  show(u_3 (l.map λa=>D.int (f a))).map (f a:: ·)=_;rw[bb_3 f l];rfl
def df_3{n i:Nat}(h:i < n):ixN n (i:Int)=some i:=by
 unfold ixN;rw[if_pos (),if_pos ()];simp
def u_9{α:Type}{xs:List α}{i:Nat}{x:α}(h:xs[i]? =some x):atI xs (i:Int)=some x:=by
 unfold atI;rw[df_3 (B2.mp h).1];exact h
end L3
namespace My
open PySem L2 L3
def mixZ(c k:Int):Int:=((c + 1) * (48271 + 118 * k) % 2147483629 / 977 * 16807 + (c + 1) * (48271 + 118 * k) % 2147483629 * (k * k + 7) + k) % 2147483587
def aj_0(c k:Int)(h1: -1000<=k)(h2:k<=1000):g_6 [.int c,.int k]=.ok (.sh (.int (mixZ c k))):=by
 have hk: -18446744073709551616 < k * k + 7/\k * k + 7 < 18446744073709551616:=by
  have:k * k<=1000 * 1000:=by
   rcases ZE0 0 k with h|h
   ·exact Int.mul_le_mul h2 h2 h ⋯
   ·have:(-k) * (-k)<=1000 * 1000:=Int.mul_le_mul () () () ⋯
    rwa[Int.neg_mul_neg]at this
  have:0<=k * k:=by
   rcases ZE0 0 k with h|h
   ·exact Int.mul_nonneg h h
   ·have:=Int.mul_nonneg (a:= -k) (b:= -k) () ()
    rwa[Int.neg_mul_neg]at this
  omega
 have m1:Fp 118 k=true:=v_9 ⋯ ⋯;have m2:Fp (c + 1) (48271 + 118 * k)=true:=ai_3 () ();have m3:∀z:Int,Fp z 16807=true:=λz=>ai_3 ⋯ ⋯;have m4:Fp k k=true:=v_9 () ();have m5:∀z:Int,Fp z (k * k + 7)=true:=λz=>ai_3 hk.1 hk.2
 simp![g_6,bb_1,Ao,l_9 m1,l_9 m2,l_9 (m3 _),l_9 m4,l_9 (m5 _),i_4,t_1 (show(0:Int) < 977 by decide) ⋯,Fu (show(0:Int) < 2147483629 by decide),Fu (show(0:Int) < 2147483587 by decide)]
 rfl
def aj_1(ns:List Int)(k:Int)(h:0<=k):h_9 [.lst (ns.map .int),.int k]=.ok (.sh (.int (ns.getD k.toNat 0))):=by
 simp![h_9,bb_0,Ao,Ff,ba_0,A3]
 by_cases hk:k < (ns.length:Int)
 ·have e:atI (ns.map D.int) k=some (.int (ns.getD k.toNat 0)):=by
   apply cm_7 h;rw[B3];have:k.toNat < ns.length:=by omega
   simp[List.getD,this]
  simp![hk,O4,if_true,n_4 e,Ao]
 ·simp![hk,T3,Ao]
  have:ns.length<=k.toNat:=by omega
  simp[List.getD,this]
def bh_1(ns:List Int)(k:Int)(h:0<=k)(h2:k<=500):∃z,h_1 [.lst (ns.map .int),.int k]=.ok (.sh (.int z)):=by
 refine⟨mixZ (ns.getD k.toNat 0 % 2147483647) (k + 101), ?_⟩
 simp![h_1,as_8,Ao,aj_1 ns k h,Fu (show(0:Int) < 2147483647 by decide),i_4,aj_0 _ (k + 101) () ()]
def cq_2(c:Int):∃z,j_5 [.int c]=.ok (.sh (.int z)):=by
 have m:∀z:Int,Fp z 2147483587=true:=λz=>ai_3 ⋯ ⋯;refine⟨(mixZ c 1 * 2147483587 + mixZ c 2) * 2147483587 + mixZ c 3, ?_⟩
 simp![j_5,ak_5,Ao,aj_0 c 1 ⋯ ⋯,aj_0 c 2 ⋯ ⋯,aj_0 c 3 ⋯ ⋯,l_9 (m _),i_4]
def cq_3(ns:List Int)(s m:Int)(hn:ns.length<=63)(h0:0<=s)(h1:s<=60)(h2:1<=m)(h3:m<=200):
  ∃cs:List Int,(cs.length:Int)<=m/\m_3 [.lst (ns.map .int),.int s,.int m]=.ok (.ow (.lst (cs.map .int))):=by
 obtain⟨z0,hz0⟩:=bh_1 ns 0 ⋯ ⋯
 by_cases hp:ns.getD (0:Int).toNat 0 % 2=0
 ·obtain⟨cs,hl,hc⟩:=de_8 (fg:=gC 5) (p:=λ_=> .ok true) (f:=Bc 2 h_9 #v[0,Ag Bq (Ab 1) (Ab 5)])
   (δ:=[some (.lst (ns.map .int)),some (.int s),some (.int m),some (.int (max 0 ((ns.length:Int) - s))),none,none]) (min m (max 0 ((ns.length:Int) - s))).toNat 0 (λk hk=>
    ⟨[some (.lst (ns.map .int)),some (.int s),some (.int m),some (.int (max 0 ((ns.length:Int) - s))),none,some (.int (0 + (k:Int)))],_,rfl,rfl,by
     simp![Ao,i_4,aj_1 ns (s + (0 + (k:Int))) ()]
     rfl⟩)
  refine⟨cs,by rw[hl];omega, ?_⟩;have e1:=i_5 (m:=1) (fi:=Aw Dl #v[Ah minD #v[2,3]]) (fg:=gC 5) (p:=λ_=> .ok true) (f:=Bc 2 h_9 #v[0,Ag Bq (Ab 1) (Ab 5)])
   (δ:=[some (.lst (ns.map .int)),some (.int s),some (.int m),some (.int (max 0 ((ns.length:Int) - s))),none]) (ds:=Cf 0 (min m (max 0 ((ns.length:Int) - s))).toNat) (rs:=cs.map .int) (by
    simp![Ao,bt_1,s_5 (show -4611686018427387903<=min m (max 0 ((ns.length:Int) - s)) by omega) ()]) (by rw[k_1];omega) hc
  simp![m_3,y_7,t_4,t_5,Ao,Ff,A3,ar_7,bf_2,aj_1 ns 0 ⋯,Fu (show(0:Int) < 2 by decide),n_3,hp,e1]
 ·have hmm:=λk:Int=>R9 k (show m≠0 by omega);have hml:=λk:Int=>P1 k (show 0 < m by omega);have dh:∀k:Nat,∃z,h_1 [.lst (ns.map .int),.int (s + (0 + (k:Int)) % max 1 (max 0 ((ns.length:Int) - s)))]=.ok (.sh (.int z)):=λk=>by
   have b1:=R9 (0 + (k:Int)) (show max 1 (max 0 ((ns.length:Int) - s))≠0 by omega);have b2:=P1 (0 + (k:Int)) (show 0 < max 1 (max 0 ((ns.length:Int) - s)) by omega);exact bh_1 ns _ () ()
  have b0:=hmm z0;have b1:=hml z0;obtain⟨cs,hl,hc⟩:=de_8 (fg:=gC 5) (p:=λ_=> .ok true) (f:=Bc 1 j_5 #v[Bc 2 g_6 #v[Bc 2 h_1 #v[0,Ag Bq (Ab 1) (Ag Dp (Ab 5) (Ah El #v[eC (.int 1),3]))],5]])
   (δ:=[some (.lst (ns.map .int)),some (.int s),some (.int m),some (.int (max 0 ((ns.length:Int) - s))),some (.int (min m (max (max 0 ((ns.length:Int) - s)) (1 + z0 % m)))),none]) (min m (max (max 0 ((ns.length:Int) - s)) (1 + z0 % m))).toNat 0 (λk hk=>by
    obtain⟨zc,hzc⟩:=dh k;obtain⟨zg,hzg⟩:=cq_2 (mixZ zc (0 + (k:Int)));refine⟨[some (.lst (ns.map .int)),some (.int s),some (.int m),some (.int (max 0 ((ns.length:Int) - s))),some (.int (min m (max (max 0 ((ns.length:Int) - s)) (1 + z0 % m)))),some (.int (0 + (k:Int)))],zg,rfl,rfl, ?_⟩
    simp![Ao,i_4,bf_2,Fu (show 0 < max 1 (max 0 ((ns.length:Int) - s)) by omega),hzc,aj_0 zc (0 + (k:Int)) () (),hzg])
  refine⟨cs,by rw[hl];omega, ?_⟩;have e1:=i_5 (m:=1) (fi:=Aw Dl #v[4]) (fg:=gC 5) (p:=λ_=> .ok true) (f:=Bc 1 j_5 #v[Bc 2 g_6 #v[Bc 2 h_1 #v[0,Ag Bq (Ab 1) (Ag Dp (Ab 5) (Ah El #v[eC (.int 1),3]))],5]])
   (δ:=[some (.lst (ns.map .int)),some (.int s),some (.int m),some (.int (max 0 ((ns.length:Int) - s))),some (.int (min m (max (max 0 ((ns.length:Int) - s)) (1 + z0 % m))))]) (ds:=Cf 0 (min m (max (max 0 ((ns.length:Int) - s)) (1 + z0 % m))).toNat) (rs:=cs.map .int) (by
    simp![Ao,s_5 (show -4611686018427387903<=min m (max (max 0 ((ns.length:Int) - s)) (1 + z0 % m)) by omega) ()]) (by rw[k_1];omega) hc
  simp![m_3,y_7,t_4,t_5,Ao,Ff,A3,ar_7,bf_2,bt_1,i_4,aj_1 ns 0 ⋯,Fu (show(0:Int) < 2 by decide),Fu (show(0:Int) < m by omega),n_3,hp,hz0,e1]
def Bl{g h:FS}{Δ Δ':SE}(e:g Δ=.nx Δ'):Af g h Δ=h Δ':=by unfold Af;rw[e]
def Ci(l:List Nat):Str:=⟨l.toArray⟩
def p_1(l:List Nat):(Ci l).cps.toList=l:=by simp[Ci]
def ao_9(l:List Nat):(Ci l).length=l.length:=by rw[cy_6,p_1]
def dc_0(a b:List Nat):Ci a ++ Ci b=Ci (a ++ b):=cy_5 (by rw[cy_7,p_1,p_1,p_1])
def sgL:List Nat:=[97,98,99,100,101,102,103,104,105,106,107,108,109,110,111,112,113,114,115,116,117,118,119,120,121,122,48,49,50,51,52,53,54,55,56,57,45,95,32]
def dc_1:(Str.ofString "abcdefghijklmnopqrstuvwxyz0123456789-_ ").cps.toList=sgL:=by decide +kernel
def isKey(d:D):Prop:=(∃n:Int,d=.int n/\0<=n/\n<=999999999999999999)\/(∃l:List Nat,d=.str (Ci l)/\l.length<=11/\∀c∈l,c∈sgL)
def isKey.flat{d:D}(h:isKey d):Ay d=true:=by
 rcases h with⟨n,rfl,_⟩|⟨l,rfl,_⟩ <;> rfl
def dr_8(r:Int):∃c∈sgL,Ct (.str "abcdefghijklmnopqrstuvwxyz0123456789-_ ") (.int (r % 39))=.ok (.sh (.str (Ci [c]))):=by
 have h0:=R9 r (show(39:Int)≠0 by decide);have h1:=P1 r (show(0:Int) < 39 by decide);have hl:(r % 39).toNat < sgL.length:=by show(r % 39).toNat < 39;omega
 refine⟨sgL[(r % 39).toNat],W3 hl,cy_8 nofun ?_⟩;rw[dc_1];exact cm_7 h0 (B6 hl)
def bh_2(z:Int):∃d,isKey d/\i_8 [.int z]=.ok (.sh d):=by
 have d3:=t_1 (i:=z) (show(0:Int) < 3 by decide) ⋯;have m3:=Fu (i:=z) (show(0:Int) < 3 by decide);have p18:=dl_4 (cm_5 (i:=10) (j:=18) ⋯ ⋯ ⋯ ⋯);have e18:(10:Int) ^ (18:Int).toNat=1000000000000000000:=by decide
 rw[e18]at p18;have:z % 3=0\/z % 3=2\/z % 3=1:=by omega
 rcases this with h|h|h
 ·refine⟨.int (z / 3 % 1000000000000000000),.inl ⟨_,rfl,by omega,by omega⟩, ?_⟩
  simp![i_8,aa_4,Ao,d3,m3,n_3,h,p18,Fu (show(0:Int) < 1000000000000000000 by decide)]
 ·refine⟨.int (z / 3 % 50),.inl ⟨_,rfl,by omega,by omega⟩, ?_⟩;have n0:¬(2:Int)=0:=by decide
  simp![i_8,aa_4,Ao,d3,m3,n_3,h,n0,Fu (show(0:Int) < 50 by decide)]
 ·have n0:¬(1:Int)=0:=by decide
  have n2:¬(1:Int)=2:=by decide
  have b0:=R9 (z / 3) (show(12:Int)≠0 by decide);have b1:=P1 (z / 3) (show(0:Int) < 12 by decide);obtain⟨Δ',e,l,r,a5,rfl,hl,hc⟩:=ce_6 (gV 5) y_8 (λk Δ=>∃(l:List Nat) (r:Int) (a5:Sl),Δ= [.sh (.int z),.sh (.str "abcdefghijklmnopqrstuvwxyz0123456789-_ "),.sh (.int r),.sh (.str (Ci l)),.sh (.int (z / 3 % 12)),a5]/\l.length=k/\∀c∈l,c∈sgL)
   (n:=(z / 3 % 12).toNat) (lo:=0) (Δ:=[.sh (.int z),.sh (.str "abcdefghijklmnopqrstuvwxyz0123456789-_ "),.sh (.int (z / 3)),.sh (.str ""),.sh (.int (z / 3 % 12)),.no]) ⟨[],z / 3,.no,rfl,rfl,λc hc=>absurd hc (by simp)⟩ (λk Δ hk hI=>by
   obtain⟨l,r,a5,rfl,hl,hc⟩:=hI;obtain⟨q,q0,q1,eq⟩:∃q:Int,0 < q/\q < 100/\Ag Ct (Bn #v[eC (.int 12),eC (.int 39)]) (Ah ae_7 #v[Ag gtD (Ab 5) (eC (.int 0))]) [some (.int z),some (.str "abcdefghijklmnopqrstuvwxyz0123456789-_ "),some (.int r),some (.str (Ci l)),some (.int (z / 3 % 12)),some (.int (0 + (k:Int)))]=.ok (.sh (.int q)):=by
    by_cases hk0:(0:Int) < 0 + (k:Int)
    ·refine⟨39,by decide,by decide, ?_⟩
     simp![Ao,cm_4,hk0,ae_7]
     rfl
    ·refine⟨12,by decide,by decide, ?_⟩
     simp![Ao,cm_4,hk0,ae_7]
     rfl
   obtain⟨c,hcs,ec⟩:=dr_8 (r / q);have zk:(Ci l).length + (Ci [c]).length<=16777216:=by rw[ao_9,ao_9];simp;omega
   refine⟨_,rfl,[.sh (.int z),.sh (.str "abcdefghijklmnopqrstuvwxyz0123456789-_ "),.sh (.int (r / q)),.sh (.str (Ci (l ++ [c]))),.sh (.int (z / 3 % 12)),.sh (.int (0 + (k:Int)))],.inl ?_,_,_,_,rfl,by simp[hl], ?_⟩
   ·simp only[y_8];rw[Bl (Δ':=[.sh (.int z),.sh (.str "abcdefghijklmnopqrstuvwxyz0123456789-_ "),.sh (.int (r / q)),.sh (.str (Ci l)),.sh (.int (z / 3 % 12)),.sh (.int (0 + (k:Int)))])]
    ·simp![Ao,Fu (show(0:Int) < 39 by decide),ec,dl_3 zk,dc_0]
    ·have:=eq;unfold Aj;simp only[Bf,B1,M3,cm_9,List.set_cons_succ,List.set_cons_zero,gV]at this⊢;have e9:Ag Cw (Ab 2) (Ag Ct (Bn #v[eC (.int 12),eC (.int 39)]) (Ah ae_7 #v[Ag gtD (Ab 5) (eC (.int 0))])) [some (.int z),some (.str "abcdefghijklmnopqrstuvwxyz0123456789-_ "),some (.int r),some (.str (Ci l)),some (.int (z / 3 % 12)),some (.int (0 + (k:Int)))]=.ok (.sh (.int (r / q))):=by
      show((Ab 2 _).bind λa=>(Ag Ct _ _ _).bind λb=>Cw a.d b.d)=_;rw[this]
      simp![Ao,t_1 q0 (show q < 1361129467683753853853498429727072845824 by omega)]
     rw[e9]
   ·intro d hd;rcases J7.mp hd with hd|hd
    ·exact hc d hd
    ·have:d=c:=by simpa using hd
     rw[this];exact hcs)
  refine⟨.str (Ci l),.inr ⟨l,rfl,by omega,hc⟩, ?_⟩
  simp![i_8,aa_4,Ao,d3,m3,n_3,h,n0,n2,Fu (show(0:Int) < 12 by decide),Bw,s_5 (show -4611686018427387903<=z / 3 % 12 by omega) (),e]
def bz_4{a b:D}(ha:isKey a)(hb:isKey b):eqF a b=true↔a=b:=by
 rcases ha with⟨n,rfl,_⟩|⟨l,rfl,_⟩ <;> rcases hb with⟨m,rfl,_⟩|⟨k,rfl,_⟩
 ·show(n ==m)=true↔_;rw[L6];exact⟨λh=>by rw[h],λh=>by injection h⟩
 ·show false=true↔_;exact⟨λh=>(by cases h),λh=>(by cases h)⟩
 ·show false=true↔_;exact⟨λh=>(by cases h),λh=>(by cases h)⟩
 ·show(Ci l ==Ci k)=true↔_;rw[L6];exact⟨λh=>by rw[h],λh=>by injection h⟩
def mem_iff{d:D}{ks:List D}(hd:isKey d)(hk:∀k∈ks,isKey k):Cv d ks=true↔d∈ks:=by
 unfold Cv;rw[W6];constructor
 ·rintro ⟨y,hy,h⟩
  rw[<-(bz_4 (hk y hy) hd).mp h];exact hy
 ·intro h;exact⟨d,h,(bz_4 hd hd).mpr rfl⟩
def cq_4{ks:List D}(hk:∀k∈ks,isKey k):ks.all Ay=true:=F2.mpr λk h=>(hk k h).flat
def cq_5{d:D}{ks:List D}(hd:isKey d)(hk:∀k∈ks,isKey k):inD true d (.lst ks)=.ok (.sh (.bl (!Cv d ks))):=by
 have h:(Ay d && ks.all Ay)=true:=by rw[hd.flat,cq_4 hk];rfl
 rcases hd with⟨n,rfl,_⟩|⟨l,rfl,_⟩
 ·exact if_pos h
 ·exact if_pos h
def dc_2{d:D}(h:isKey d):PyData.canLay0 (Dm d)=true/\PyData.depth (Dm d)=0:=by
 rcases h with⟨n,rfl,_⟩|⟨l,rfl,_,hc⟩
 ·exact⟨rfl,rfl⟩
 ·refine⟨?_,rfl⟩;show(Ci l).cps.all (· < 0x110000)=true;rw[<-Array.all_toList,p_1,F2];intro c h;have:c∈sgL:=hc c h;have:∀c∈sgL,c < 0x110000:=by decide
  exact F5 (this c (hc c h))
theorem ag_6:∀{ks:List D},(∀k∈ks,isKey k)->PyData.canLayAll0 (Es ks)=true/\PyData.depthAll (Es ks)=0
 | [],_=>⟨rfl,rfl⟩
 |k::ks,h=>by
  obtain⟨a1,a2⟩:=dc_2 (h k K2);obtain⟨b1,b2⟩:=ag_6 λx hx=>h x (D3 _ hx);refine⟨?_, ?_⟩
  ·show(PyData.canLay0 (Dm k) && PyData.canLayAll0 (Es ks))=true;rw[a1,b1];rfl
  ·show max (PyData.depth (Dm k)) (PyData.depthAll (Es ks))=0;rw[a2,b2];rfl
def bo_8{ks js:List D}(hk:∀k∈ks,isKey k)(hj:∀k∈js,isKey k):eqC (.lst ks) (.lst js)=true:=by
 unfold eqC;rw[C9,C9];refine⟨⟨(ag_6 hk).1,(ag_6 hj).1⟩,F5 ?_⟩;show PyData.depthAll (Es ks) + 1<=60;rw[(ag_6 hk).2];decide
def dc_3{a b:D}(ha:isKey a)(hb:isKey b):PyData.eqv (Dm a) (Dm b)=true↔a=b:=by
 rcases ha with⟨n,rfl,_⟩|⟨l,rfl,_⟩ <;> rcases hb with⟨m,rfl,_⟩|⟨k,rfl,_⟩
 ·show(n ==m)=true↔_;rw[L6];exact⟨λh=>by rw[h],λh=>by injection h⟩
 ·show false=true↔_;exact⟨λh=>(by cases h),λh=>(by cases h)⟩
 ·show false=true↔_;exact⟨λh=>(by cases h),λh=>(by cases h)⟩
 ·show(Ci l ==Ci k)=true↔_;rw[L6];exact⟨λh=>by rw[h],λh=>by injection h⟩
theorem bo_9:∀{ks js:List D},(∀k∈ks,isKey k)->(∀k∈js,isKey k)->(PyData.eqvAll (Es ks) (Es js)=true↔ks=js)
 | [],[],_,_=>⟨λ_=>rfl,λ_=>rfl⟩
 | [],_::_,_,_=>⟨λh=>(by cases h),λh=>(by cases h)⟩
 |_::_,[],_,_=>⟨λh=>(by cases h),λh=>(by cases h)⟩
 |k::ks,j::js,hk,hj=>by
  show(PyData.eqv (Dm k) (Dm j) && PyData.eqvAll (Es ks) (Es js))=true↔_;rw[C9,dc_3 (hk k K2) (hj j K2),bo_9 (λx hx=>hk x (D3 _ hx)) (λx hx=>hj x (D3 _ hx))];exact⟨λ⟨a,b⟩=>by rw[a,b],λh=>by injection h with a b;exact⟨a,b⟩⟩
def dc_4(a b:List D):Ez (.lst a) (.lst b)=if eqC (.lst a) (.lst b)=true then .ok (.sh (.bl (Ew (.lst a) (.lst b)))) else .no:=rfl
def dc_5(a b:List D):Dj (.lst a) (.lst b)=if eqC (.lst a) (.lst b)=true then .ok (.sh (.bl (!Ew (.lst a) (.lst b)))) else .no:=rfl
def at_5{ks js:List D}(hk:∀k∈ks,isKey k)(hj:∀k∈js,isKey k):∃b:Bool,(b=true↔ks=js)/\Ez (.lst ks) (.lst js)=.ok (.sh (.bl b))/\Dj (.lst ks) (.lst js)=.ok (.sh (.bl (!b))):=by
 refine⟨Ew (.lst ks) (.lst js),bo_9 hk hj, ?_, ?_⟩
 ·rw[dc_4,if_pos (bo_8 hk hj)]
 ·rw[dc_5,if_pos (bo_8 hk hj)]
def dc_6(ns:List Int)(s m:Int)(hn:ns.length<=63)(h0:0<=s)(h1:s<=60)(h2:1<=m)(h3:m<=200):
  ∃ks:List D,ks≠ []/\(ks.length:Int)<=m/\(∀k∈ks,isKey k)/\ks.Nodup/\o_3 [.lst (ns.map .int),.int s,.int m]=.ok (.ow (.lst ks)):=by
 obtain⟨cs,hc,ec⟩:=cq_3 ns s m hn h0 h1 h2 h3;obtain⟨Δ',e,ks,a4,a5,rfl,hl,hk,hd⟩:=o_2 (gV 4) q_6 (λk Δ=>∃(ks:List D) (a4 a5:Sl),Δ= [.sh (.lst (ns.map .int)),.sh (.int s),.sh (.int m),.ow (.lst ks),a4,a5]/\ks.length<=k/\(∀k∈ks,isKey k)/\ks.Nodup)
  (ds:=cs.map .int) (Δ:=[.sh (.lst (ns.map .int)),.sh (.int s),.sh (.int m),.ow (.lst []),.no,.no]) ⟨[],.no,.no,rfl,A8 _,λk hk=>absurd hk (by simp),R3⟩ (λk d Δ hk hI=>by
  obtain⟨ks,a4,a5,rfl,hl,hks,hd⟩:=hI;rw[B3]at hk;cases q:cs[k]? with
  |none=>rw[q]at hk;cases hk
  |some c=>
   rw[q]at hk;cases hk;have hkl:k < cs.length:=(B2.mp q).1;obtain⟨d,hdk,ed⟩:=bh_2 c;have hl2:ks.length < 16777216:=by omega
   have hni:=cq_5 hdk hks;cases hm:Cv d ks with
   |true=>
    refine⟨_,rfl,[.sh (.lst (ns.map .int)),.sh (.int s),.sh (.int m),.ow (.lst ks),.sh (.int c),.sh d],.inl ?_,ks,_,_,rfl,by omega,hks,hd⟩;rw[hm]at hni
    simp![q_6,Ao,ed,hni]
   |false=>
    refine⟨_,rfl,[.sh (.lst (ns.map .int)),.sh (.int s),.sh (.int m),.ow (.lst (ks ++ [d])),.sh (.int c),.sh d],.inl ?_,ks ++ [d],_,_,rfl,by simp;omega, ?_, ?_⟩
    ·rw[hm]at hni
     simp![q_6,Ao,ed,hni,sApp,hl2]
    ·intro x hx;rcases J7.mp hx with hx|hx
     ·exact hks x hx
     ·have:x=d:=by simpa using hx
      rw[this];exact hdk
    ·rw[V3];refine⟨hd,by simp,λa ha b hb=> ?_⟩;have:b=d:=by simpa using hb
     subst this
     rintro rfl
     rw[(mem_iff hdk hks).mpr ha]at hm;cases hm)
 rw[A3]at hl;obtain⟨b,hb,eb,_⟩:=at_5 hk (js:=[]) (λk hk=>absurd hk (by simp))
 by_cases hz:ks= []
 ·obtain⟨d,hdk,ed⟩:=bh_2 (ns.getD (0:Int).toNat 0 / 2);refine⟨[d],by simp,by simp;omega,λx hx=> ?_,by simp, ?_⟩
  ·have:x=d:=by simpa using hx
   rw[this];exact hdk
  ·have:b=true:=hb.mpr hz;subst this
   simp![o_3,ad_6,Ao,Bw,ec,e,eb,aj_1 ns 0 ⋯,t_1 (show(0:Int) < 2 by decide) ⋯,ed]
 ·refine⟨ks,hz,by omega,hk,hd, ?_⟩;have:b=false:=by
   cases b with
   |true=>exact absurd (hb.mp rfl) hz
   |false=>rfl
  subst this
  simp![o_3,ad_6,Ao,Bw,ec,e,eb]
def sgI(c:Nat):Nat:=sgL.idxOf c
def cq_6:∀c∈sgL,Builtin.Str.occurrences "abcdefghijklmnopqrstuvwxyz0123456789-_ " ⟨#[c]⟩ 0 (Str.length "abcdefghijklmnopqrstuvwxyz0123456789-_ ") 1= [sgI c]:=by decide +kernel
def w_6(l:List Nat):Int:=l.foldl (λa c=>40 * a + (sgI c:Int) + 1) 0
def al_4(l:List Nat)(k c:Nat)(h:l[k]? =some c):w_6 (l.take (k + 1))=40 * w_6 (l.take k) + (sgI c:Int) + 1:=by
 unfold w_6;rw[Z6,h,List.foldl_append];rfl
def As:D->Int
 | .int n=>2 * n
 | .str x=>2 * w_6 x.cps.toList + 1
 |_=>0
def cq_7:∀c∈sgL,Txt.find "abcdefghijklmnopqrstuvwxyz0123456789-_ " ⟨#[c]⟩=((sgI c:Nat):Int):=by decide +kernel
def dc_7{c:Nat}(h:c∈sgL):bl_0 (.str "abcdefghijklmnopqrstuvwxyz0123456789-_ ") [.str ⟨#[c]⟩]=.ok (.sh (.int (sgI c:Int))):=by
 show R.ok (W.sh (D.int (Txt.find "abcdefghijklmnopqrstuvwxyz0123456789-_ " ⟨#[c]⟩)))=_;rw[cq_7 c h]
def cq_8{c:Nat}(h:c∈sgL):ai_1 (.str "abcdefghijklmnopqrstuvwxyz0123456789-_ ") [.str ⟨#[c]⟩]=.ok (.sh (.int (sgI c:Int))):=by
 show(match Builtin.Str.occurrences "abcdefghijklmnopqrstuvwxyz0123456789-_ " ⟨#[c]⟩ 0 (Str.length "abcdefghijklmnopqrstuvwxyz0123456789-_ ") 1 with
  |i::_=>R.ok (W.sh (D.int (i:Nat)))
  | []=>R.no)=_
 rw[cq_6 c h]
def dr_9{c:Nat}(h:c∈sgL):inD false (.str ⟨#[c]⟩) (.str "abcdefghijklmnopqrstuvwxyz0123456789-_ ")=.ok (.sh (.bl true)):=by
 show R.ok (W.sh (D.bl (!(Builtin.Str.occurrences "abcdefghijklmnopqrstuvwxyz0123456789-_ " ⟨#[c]⟩ 0 (Str.length "abcdefghijklmnopqrstuvwxyz0123456789-_ ") 1).isEmpty)))=_;rw[cq_6 c h];rfl
def p_2(l:List Nat):s_3 (Ci l)=l.map λc=> .str ⟨#[c]⟩:=by unfold s_3;rw[p_1]
def cq_9(l:List Nat)(hl:l.length<=11)(hc:∀c∈l,c∈sgL):af_8 [.str (Ci l)]=.ok (.sh (.int (w_6 l))):=by
 obtain⟨Δ',e,a2,rfl⟩:=o_2 (gV 2) ai_9 (λk Δ=>∃a2,Δ= [.sh (.str (Ci l)),.sh (.int (w_6 (l.take k))),a2]) (ds:=s_3 (Ci l)) (Δ:=[.sh (.str (Ci l)),.sh (.int 0),.no]) ⟨.no,rfl⟩ (λk d Δ hk hI=>by
  obtain⟨a2,rfl⟩:=hI;rw[p_2,B3]at hk;cases q:l[k]? with
  |none=>rw[q]at hk;cases hk
  |some c=>
   rw[q]at hk;cases hk;refine⟨_,rfl,[.sh (.str (Ci l)),.sh (.int (w_6 (l.take (k + 1)))),.sh (.str ⟨#[c]⟩)],.inl ?_,_,rfl⟩;rw[al_4 l k c q]
   simp![ai_9,Ao,l_9 (v_9 (show(-18446744073709551616:Int) < 40 by decide) ⋯),O7,dc_7 (hc c (M6 q)),i_4])
 rw[p_2,A3,List.take_length]at e
 simp![af_8,bz_2,Ao,Bw,p_2,e]
def bb_4{d:D}(h:isKey d):r_4 [d]=.ok (.sh (.bl true)):=by
 rcases h with⟨n,rfl,h0,h1⟩|⟨l,rfl,hl,hc⟩
 ·simp![r_4,at_0,Ao,bd_7,de_7,h0,h1]
 ·have hx:(Ci l).length<=16777216:=by rw[ao_9];omega
  have ec:=r_3 (fg:=gC 1) (f:=l_4) (δ:=[some (.str (Ci l)),none]) (λ_=> .bl true) (s_3 (Ci l)) (λd hd=>by
   rw[p_2]at hd;obtain⟨c,hcl,rfl⟩:=F4.mp hd;exact⟨_,.sh (.bl true),rfl,by simp![l_4,Ao,dr_9 (hc c hcl)],rfl⟩)
  have ec':=i_5 (m:=1) (fi:=Bo (Ab 0)) (fg:=gC 1) (p:=λ_=> .ok true) (f:=l_4) (δ:=[some (.str (Ci l))]) (by simp![Ao]) (by rw[p_2,A3];omega) ec;have ha:allD [.lst ((s_3 (Ci l)).map λ_=>D.bl true)]=.ok (.sh (.bl true)):=by
   have hb:∀l:List D,ai_0 (l.map λ_=>D.bl true)=some (l.map λ_=>true):=by
    intro l
    induction l with
    |nil=>rfl
    |cons a l ih=>show(ai_0 (l.map λ_=>D.bl true)).map (true:: ·)=_;rw[ih];rfl
   unfold allD;simp only[hb]
   congr 3
   rw[F2];intro b hb';obtain⟨_,_,rfl⟩:=F4.mp hb';rfl
  have ir:((Ci l).length:Int)<=11:=by rw[ao_9];omega
  have et:k_9 [.str (Ci l)]=.ok (.sh (.bl true)):=by
   simp![k_9,ac_3,Ao,cm_6 hx,de_7,ir,ec',ha]
  simp![r_4,at_0,Ao,et]
def at_6{d:D}(h:isKey d):s_6 [d]=.ok (.sh (.int (As d))):=by
 have hk:=bb_4 h;have m2:=λj:Int=>l_9 (v_9 (j:=j) (show(-18446744073709551616:Int) < 2 by decide) ⋯);rcases h with⟨n,rfl,h0,h1⟩|⟨l,rfl,hl,hc⟩
 ·simp![s_6,bg_8,Ao,hk,m2,As]
 ·simp![s_6,bg_8,Ao,hk,cq_9 l hl hc,m2,i_4,As,p_1]
def ag_7{d:D}(h:isKey d):e_9 [d]=.ok (.sh (.int (As d))):=by
 have m2:=λj:Int=>l_9 (v_9 (j:=j) (show(-18446744073709551616:Int) < 2 by decide) ⋯);rcases h with⟨n,rfl,h0,h1⟩|⟨l,rfl,hl,hc⟩
 ·simp![e_9,y_9,Ao,m2,As]
 ·obtain⟨Δ',e,a2,rfl⟩:=o_2 (gV 2) t_6 (λk Δ=>∃a2,Δ= [.sh (.str (Ci l)),.sh (.int (w_6 (l.take k))),a2]) (ds:=s_3 (Ci l)) (Δ:=[.sh (.str (Ci l)),.sh (.int 0),.no]) ⟨.no,rfl⟩ (λk d Δ hk hI=>by
   obtain⟨a2,rfl⟩:=hI;rw[p_2,B3]at hk;cases q:l[k]? with
   |none=>rw[q]at hk;cases hk
   |some c=>
    rw[q]at hk;cases hk;refine⟨_,rfl,[.sh (.str (Ci l)),.sh (.int (w_6 (l.take (k + 1)))),.sh (.str ⟨#[c]⟩)],.inl ?_,_,rfl⟩;rw[al_4 l k c q,Int.mul_comm 40]
    simp![t_6,Ao,l_9 (ai_3 (show(-18446744073709551616:Int) < 40 by decide) ⋯),O7,cq_8 (hc c (M6 q)),i_4])
  rw[p_2,A3,List.take_length]at e
  simp![e_9,y_9,Ao,Bw,p_2,e,m2,i_4,As,p_1]
def ad_7(n s z:Int):Int:=
 (((1 + (1103515245 * s + 12345) % (2305843009213693951 - 1)) * n + (69069 * s * s + 7 * s) % 2305843009213693951) % 2305843009213693951 + ((1 + (1103515245 * s + 12345) % (2305843009213693951 - 1)) * n + (69069 * s * s + 7 * s) % 2305843009213693951) % 2305843009213693951 / 2147483648) % z
def r_7(n s z:Int)(h1: -18446744073709551616 < s)(h2:s < 18446744073709551616)(hz:0 < z):aa_5 [.int n,.int s,.int z]=.ok (.sh (.int (ad_7 n s z)))/\d_5 [.int n,.int s,.int z]=.ok (.sh (.int (ad_7 n s z))):=by
 have n0:¬z=0:=by omega
 have f0:=R9 (1103515245 * s + 12345) (show(2305843009213693951 - 1:Int)≠0 by decide);have f1:=P1 (1103515245 * s + 12345) (show(0:Int) < 2305843009213693951 - 1 by decide);have a1:=l_9 (v_9 (i:=1103515245) (j:=s) ⋯ ⋯);have a2:=l_9 (v_9 (i:=69069) (j:=s) ⋯ ⋯);have a3:=l_9 (ai_3 (i:=69069 * s) (j:=s) h1 h2);have a4:=l_9 (v_9 (i:=7) (j:=s) ⋯ ⋯);have a5:=l_9 (v_9 (i:=1 + (1103515245 * s + 12345) % (2305843009213693951 - 1)) (j:=n) () ());have c1:=λi:Int=>Fu (i:=i) (show(0:Int) < 2305843009213693951 - 1 by decide);have c2:=λi:Int=>Fu (i:=i) (show(0:Int) < 2305843009213693951 by decide);have c3:=λi:Int=>Fu (i:=i) hz;have c4:=λi:Int=>t_1 (i:=i) (show(0:Int) < 2147483648 by decide) ⋯;refine⟨?_, ?_⟩
 ·simp![aa_5,bz_1,Ao,n_3,n0,ar_7,i_4,a1,a2,a3,a4,c1,c2,a5,c4,c3]
  rfl
 ·simp![d_5,ak_7,Ao,ar_7,i_4,a1,a2,a3,a4,c1,c2,a5,c4,c3]
  rfl
end My
namespace L3
open PySem L2
end L3
namespace My
open PySem L2 L3
def kOf:D->Ak
 | .int i=> .inl i
 | .str x=> .inr x
 |_=> .inl 0
def cr_0{d:D}(h:isKey d):Dn d=some (kOf d):=by
 rcases h with⟨n,rfl,_⟩|⟨l,rfl,_⟩ <;> rfl
def bz_5{a b:D}(ha:isKey a)(hb:isKey b)(e:kOf a=kOf b):a=b:=by
 rcases ha with⟨n,rfl,_⟩|⟨l,rfl,_⟩ <;> rcases hb with⟨m,rfl,_⟩|⟨k,rfl,_⟩
 ·injection e with e;rw[e]
 ·cases e
 ·cases e
 ·injection e with e;rw[e]
def bz_6{ks:List D}(hk:∀k∈ks,isKey k):f_7 [.lst ks]=.ok (.sh .non):=by
 obtain⟨Δ',e,a1,a2,rfl⟩:=o_2 (gV2 1 2) n_6 (λk Δ=>∃a1 a2,Δ= [.sh (.lst ks),a1,a2]) (ds:=s_4 0 ks) (Δ:=[.sh (.lst ks),.no,.no]) ⟨_,_,rfl⟩ (λk d Δ hd hI=>by
  obtain⟨a1,a2,rfl⟩:=hI;obtain⟨d',e1,rfl⟩:=u_2 hd;refine⟨_,rfl,_,.inl ?_,.sh (.int ((0 + k:Nat):Int)),.sh d',rfl⟩
  simp![n_6,Ao,bb_4 (hk d' (M6 e1))])
 simp![f_7,x_2,Ao,Bw,az_4,bt_0,e]
def q_1(ks:List D):List (Ak×D):=ks.map λd=>(kOf d,.bl true)
def bp_0{ks:List D}{d:D}(hk:∀k∈ks,isKey k)(hd:isKey d):Ee (q_1 ks) (kOf d)=true↔d∈ks:=by
 unfold Ee Ck q_1;rw[Z4,List.find?_isSome];constructor
 ·rintro ⟨p,hp,e⟩
  obtain⟨x,hx,rfl⟩:=F4.mp hp;have:kOf x=kOf d:=by simpa using e
  rw[<-bz_5 (hk x hx) hd this];exact hx
 ·intro h;exact⟨(kOf d,.bl true),F4.mpr ⟨d,h,rfl⟩,by simp⟩
def bp_1{ks:List D}{d:D}(hk:∀k∈ks,isKey k)(hd:isKey d)(n:d∉ks):Eh (q_1 ks) (kOf d) (.bl true)=q_1 (ks ++ [d]):=by
 unfold Eh;have h:((q_1 ks).any λkv=>decide (kv.1=kOf d))=false:=by
  cases q:(q_1 ks).any λkv=>decide (kv.1=kOf d) with
  |false=>rfl
  |true=>
   exfalso;obtain⟨p,hp,e⟩:=W6.mp q;obtain⟨x,hx,rfl⟩:=F4.mp hp;have:kOf x=kOf d:=by simpa using e
   have:=bz_5 (hk x hx) hd this;subst this;exact n hx
 rw[h];unfold q_1;rw[F1];rfl
def bp_2{ks:List D}{l:List D}{d:D}{k:Nat}(hl:∀x∈l,isKey x)(hd:isKey d)(n:d∉l)(hn:l.length < 16777216):
  i_6 [.sh (.lst ks),.ow (.dic (q_1 l)),.sh (.int (k:Int)),.sh d]=.nx [.sh (.lst ks),.ow (.dic (q_1 (l ++ [d]))),.sh (.int (k:Int)),.sh d]:=by
 have h:Ee (q_1 l) (kOf d)=false:=by
  cases q:Ee (q_1 l) (kOf d) with
  |false=>rfl
  |true=>exact absurd ((bp_0 hl hd).mp q) n
 have hs:(q_1 l).length < 16777216:=by unfold q_1;rw[A3];exact hn
 simp![i_6,Ao,inK,cr_0 hd,h,u_5,hs,bp_1 hl hd n]
def cf_7{ks:List D}(hk:∀k∈ks,isKey k)(nd:ks.Nodup)(hl:ks.length < 16777216):l_1 [.lst ks]=.ok (.sh .non):=by
 obtain⟨Δ',e,a2,a3,rfl⟩:=o_2 (gV2 2 3) i_6 (λk Δ=>∃a2 a3,Δ= [.sh (.lst ks),.ow (.dic (q_1 (ks.take k))),a2,a3]) (ds:=s_4 0 ks) (Δ:=[.sh (.lst ks),.ow (.dic []),.no,.no]) ⟨_,_,rfl⟩ (λk d Δ hd hI=>by
  obtain⟨a2,a3,rfl⟩:=hI;obtain⟨d',e1,rfl⟩:=u_2 hd;have hlt:k < ks.length:=(B2.mp e1).1;have nin:d'∉ks.take k:=λhm=>by
   obtain⟨j,hj,e⟩:=List.getElem_of_mem hm;rw[S9]at hj;rw[List.getElem_take]at e;have:=P2.mp nd j k () hlt ();rw[e]at this;rw[B6 hlt]at e1;injection e1 with e1
   exact this e1.symm
  refine⟨_,rfl,_,.inl (bp_2 (k:=0 + k) (λx hx=>hk x (List.mem_of_mem_take hx)) (hk d' (M6 e1)) nin (by rw[S9];omega)),.sh (.int ((0 + k:Nat):Int)),.sh d', ?_⟩;rw[Z6,e1];rfl)
 have e':Bx (gV2 2 3) i_6 (s_4 0 ks) [.sh (.lst ks),.ow (.dic []),.no,.no]=_:=e
 simp![l_1,ac_4,Ao,u_4,Bw,az_4,bt_0,e']
def dc_8{ks:List D}(hk:∀k∈ks,isKey k)(nd:ks.Nodup)(h1:1<=ks.length)(h2:ks.length<=200):m_5 [.lst ks]=.ok (.sh (.int (ks.length:Int))):=by
 have c1:¬(ks.length:Int)=0:=by omega
 have c2:¬(200:Int) < (ks.length:Int):=by omega
 simp![m_5,al_2,Ao,Ff,n_3,c1,cm_4,c2,bz_6 hk,cf_7 hk nd ()]
def aj_2(n s z:Int)(hz:0 < z):0<=ad_7 n s z/\ad_7 n s z < z:=⟨R9 _ (),P1 _ hz⟩
def Fo{fg:FG}{g:FS}{d:D}{ds:List D}{Δ Δ1 Δ2:SE}(h1:fg d Δ=.ok Δ1)(h2:g Δ1=.nx Δ2):Bx fg g (d::ds) Δ=Bx fg g ds Δ2:=by
 rw[Bx];simp only[h1,h2]
def cr_1{fg:FG}{g:FS}{d:D}{ds:List D}{Δ Δ1:SE}{w:W}(h1:fg d Δ=.ok Δ1)(h2:g Δ1=.rt w):Bx fg g (d::ds) Δ=.rt w:=by
 rw[Bx];simp only[h1,h2]
def ds_0{fg:FG}{g:FS}{d:D}{ds:List D}{Δ Δ1 Δ2:SE}{x:Xn}(h1:fg d Δ=.ok Δ1)(h2:g Δ1=.ex x Δ2):Bx fg g (d::ds) Δ=.ex x Δ2:=by
 rw[Bx];simp only[h1,h2]
def Bj(n:Nat)(s x:Int):Int:=ad_7 x (s + 1) (n:Int)
def z_3{n:Nat}(s x:Int)(h1:1<=n):0<=Bj n s x/\Bj n s x < (n:Int):=aj_2 _ _ _ ()
def Bg(T:List Int):List (Ak×D):=q_1 (T.map .int)
def Rms(n:Nat)(T:List Int):Prop:=∀r∈T,0<=r/\r < (n:Int)
def ap_0{r:Int}(h:0<=r)(h2:r < 1000000):isKey (.int r):=.inl ⟨r,rfl,h,by omega⟩
def Rms.keys{n:Nat}{T:List Int}(h:Rms n T)(hn:n<=1000):∀k∈T.map D.int,isKey k:=λk hk=>by
 obtain⟨r,hr,rfl⟩:=F4.mp hk;have:=h r hr;exact ap_0 this.1 ()
def mem_mapI{r:Int}{T:List Int}:D.int r∈T.map D.int↔r∈T:=⟨λh=>by obtain⟨x,hx,e⟩:=F4.mp h;cases e;exact hx,λh=>List.mem_map_of_mem h⟩
def aj_3{n:Nat}{T:List Int}{r:Int}(h:Rms n T)(hn:n<=1000)(hr:0<=r/\r < (n:Int)):Ee (Bg T) (.inl r)=decide (r∈T):=by
 have:=bp_0 (h.keys hn) (ap_0 hr.1 ());rw[mem_mapI]at this;rw[P4,V2];exact this
def aj_4{n:Nat}{T:List Int}{r:Int}(h:Rms n T)(hn:n<=1000)(hr:0<=r/\r < (n:Int))(no:r∉T):Eh (Bg T) (.inl r) (.bl true)=Bg (T ++ [r]):=by
 have:=bp_1 (h.keys hn) (ap_0 hr.1 ()) (λz=>no (mem_mapI.mp z));unfold Bg;rw[F1];exact this
def aj_5(T:List Int):(Bg T).length=T.length:=by unfold Bg q_1;rw[A3,A3]
def ag_8(kvs:List (Ak×D))(r:Int):inK false (.int r) (.dic kvs)=.ok (.sh (.bl (Ee kvs (.inl r)))):=rfl
def Rms.snoc{n:Nat}{T:List Int}{r:Int}(h:Rms n T)(hr:0<=r/\r < (n:Int)):Rms n (T ++ [r]):=λx hx=>by
 rcases J7.mp hx with hx|hx
 ·exact h x hx
 ·rw[K7.mp hx];exact hr
def Df(T rs:List Int):Bool:=decide (rs.Nodup/\∀r∈rs,r∉T)
def ad_9(n:Nat)(s x:Int)(s0:0<=s)(s1:s<=1000)(h1:1<=n):o_4 [.int x,.int s,.int (n:Int)]=.ok (.sh (.int (Bj n s x))):=by
 simp![o_4,bb_2,Ao,i_4,(r_7 x (s + 1) (n:Int) () () ()).1,Bj]
section
variable{n:Nat}{T:List Int}{s:Int}{L:D}
theorem bp_3(h1:1<=n)(hn:n<=1000)(hT:Rms n T)(s0:0<=s)(s1:s<=1000):∀(X O:List Int) (a5 a6:Sl),Rms n O->O.length + X.length < 100000->
  (((X.map (Bj n s)).Nodup/\(∀r∈X.map (Bj n s),r∉T/\r∉O))/\∃O' b5 b6,Bx (gV 5) e_3 (X.map .int) [.sh L,.sh (.int s),.sh (.int (n:Int)),.sh (.dic (Bg T)),.ow (.dic (Bg O)),a5,a6]=.nx [.sh L,.sh (.int s),.sh (.int (n:Int)),.sh (.dic (Bg T)),.ow (.dic (Bg O')),b5,b6])\/
  (¬((X.map (Bj n s)).Nodup/\(∀r∈X.map (Bj n s),r∉T/\r∉O))/\Bx (gV 5) e_3 (X.map .int) [.sh L,.sh (.int s),.sh (.int (n:Int)),.sh (.dic (Bg T)),.ow (.dic (Bg O)),a5,a6]=.rt (.sh (.bl false)))
 | [],O,a5,a6,_,_=> .inl ⟨⟨R3,λr hr=>by simp at hr⟩,O,a5,a6,rfl⟩
 |x::X,O,a5,a6,hO,hl=>by
  have hr:=z_3 s x h1;have e1:=ad_9 n s x s0 s1 h1;have hT':=aj_3 hT hn hr;have hO':=aj_3 hO hn hr;simp only[C6]at hl;have hfg:gV 5 (.int x) [.sh L,.sh (.int s),.sh (.int (n:Int)),.sh (.dic (Bg T)),.ow (.dic (Bg O)),a5,a6]=.ok [.sh L,.sh (.int s),.sh (.int (n:Int)),.sh (.dic (Bg T)),.ow (.dic (Bg O)),.sh (.int x),a6]:=rfl
  by_cases c:Bj n s x∈T\/Bj n s x∈O
  ·refine .inr ⟨λz=> ?_, ?_⟩
   ·have:=z.2 (Bj n s x) (by simp);rcases c with c|c
    ·exact this.1 c
    ·exact this.2 c
   ·refine cr_1 hfg ?_;rcases c with c|c
    ·simp![e_3,Ao,e1,ag_8,hT',c,O4]
    ·by_cases c2:Bj n s x∈T
     ·simp![e_3,Ao,e1,ag_8,hT',c2,O4]
     ·simp![e_3,Ao,e1,ag_8,hT',hO',c,c2,O4,T3]
  ·have c1:Bj n s x∉T:=λz=>c (.inl z);have c2:Bj n s x∉O:=λz=>c (.inr z);have hz:(Bg O).length < 16777216:=by rw[aj_5];omega
   have hb:e_3 [.sh L,.sh (.int s),.sh (.int (n:Int)),.sh (.dic (Bg T)),.ow (.dic (Bg O)),.sh (.int x),a6]=.nx [.sh L,.sh (.int s),.sh (.int (n:Int)),.sh (.dic (Bg T)),.ow (.dic (Bg (O ++ [Bj n s x]))),.sh (.int x),.sh (.int (Bj n s x))]:=by
    simp![e_3,Ao,e1,ag_8,hT',hO',c1,c2,T3]
    simp![u_5,Ao,Dn,hz,aj_4 hO hn hr c2,if_true]
   have nd:((x::X).map (Bj n s)).Nodup/\(∀r∈(x::X).map (Bj n s),r∉T/\r∉O)↔(X.map (Bj n s)).Nodup/\(∀r∈X.map (Bj n s),r∉T/\r∉O ++ [Bj n s x]):=by
    rw[B1,J8];constructor
    ·rintro ⟨⟨z1,z2⟩,z3⟩
     refine⟨z2,λr hr=>⟨(z3 r (.tail _ hr)).1,λq=> ?_⟩⟩;rcases J7.mp q with q|q
     ·exact(z3 r (.tail _ hr)).2 q
     ·rw[K7.mp q]at hr;exact z1 hr
    ·rintro ⟨z2,z3⟩
     refine⟨⟨λq=>(z3 _ q).2 (by simp),z2⟩,λr hr=> ?_⟩;rcases C4.mp hr with rfl|hr
     ·exact⟨c1,c2⟩
     ·exact⟨(z3 r hr).1,λq=>(z3 r hr).2 (by simp[q])⟩
   rw[nd,B1 (f:=D.int),Fo hfg hb];exact bp_3 h1 hn hT s0 s1 X (O ++ [Bj n s x]) _ _ (hO.snoc hr) (by rw[B5,L8];omega)
def bh_3(h1:1<=n)(hn:n<=1000)(hT:Rms n T)(s0:0<=s)(s1:s<=1000)(X:List Int)(hX:X.length<=1000):s_9 [.lst (X.map .int),.int s,.int (n:Int),.dic (Bg T)]=.ok (.sh (.bl (Df T (X.map (Bj n s))))):=by
 have q1:Aj 4 [] u_4 (Av 7 [.lst (X.map .int),.int s,.int (n:Int),.dic (Bg T)])=.nx [.sh (.lst (X.map .int)),.sh (.int s),.sh (.int (n:Int)),.sh (.dic (Bg T)),.ow (.dic (Bg [])),.no,.no]:=rfl;have hf:∀Δ',Bx (gV 5) e_3 (X.map .int) [.sh (.lst (X.map .int)),.sh (.int s),.sh (.int (n:Int)),.sh (.dic (Bg T)),.ow (.dic (Bg [])),.no,.no]=Δ'->Bw [0] (Bo (Ab 0)) (gV 5) e_3 [.sh (.lst (X.map .int)),.sh (.int s),.sh (.int (n:Int)),.sh (.dic (Bg T)),.ow (.dic (Bg [])),.no,.no]=Δ':=λ Δ' e=>by
  rw[<-e];simp![Bw,Ao]
 refine q_4 ?_;unfold al_3;rw[Bl q1];rcases bp_3 (L:=.lst (X.map .int)) h1 hn hT s0 s1 X [] .no .no (λ_ h=>by simp at h) (by simp;omega) with⟨z,O',b5,b6,e⟩|⟨z,e⟩
 ·have:Df T (X.map (Bj n s))=true:=F5 ⟨z.1,λr hr=>(z.2 r hr).1⟩;rw[this,Bl (hf _ e)];rfl
 ·have:Df T (X.map (Bj n s))=false:=F8 λy=>z ⟨y.1,λr hr=>⟨y.2 r hr,by simp⟩⟩;rw[this];unfold Af;rw[hf _ e]
end
def bh_4(l:List Int):u_3 (l.map .int)=some l:=by
 have e:=bb_3 (λi:Int=>i) l
 rwa[ZE1]at e
def cr_2{l:List Int}(h:l.length<=4000):ao_1 (.lst (l.map .int))=.ok (.sh (.int (met l).length)):=by
 unfold ao_1;simp only[bh_4,if_pos h]
theorem bp_4:∀(l zn:List Int),(l.foldl PyProof.Rows.step_dedup zn).length<=zn.length + l.length/\((l.foldl PyProof.Rows.step_dedup zn).length=zn.length + l.length↔l.Nodup/\∀x∈l,x∉zn)
 | [],zn=>⟨A8 _,λ_=>⟨R3,λx hx=>by simp at hx⟩,λ_=>rfl⟩
 |x::l,zn=>by
  rw[ZC6];obtain⟨i1,i2⟩:=bp_4 l (PyProof.Rows.step_dedup zn x)
  by_cases c:zn.any (· ==x)=true
  ·have e:PyProof.Rows.step_dedup zn x=zn:=by unfold PyProof.Rows.step_dedup;rw[if_pos c]
   have hx:x∈zn:=by
    obtain⟨y,hy,e2⟩:=W6.mp c;rw[<-eq_of_beq e2];exact hy
   rw[e]at i1 i2⊢;simp only[C6];exact⟨by omega,λz=>by omega,λz=>absurd hx (z.2 x (by simp))⟩
  ·have e:PyProof.Rows.step_dedup zn x=zn ++ [x]:=by unfold PyProof.Rows.step_dedup;rw[if_neg c]
   have hx:x∉zn:=λhx=>c (W6.mpr ⟨x,hx,by simp⟩);rw[e]at i1 i2⊢;simp only[B5,C6,P6]at i1 i2⊢;refine⟨by omega,λz=> ?_,λz=> ?_⟩
   ·obtain⟨j1,j2⟩:=i2.mp ();refine⟨J8.mpr ⟨λhm=>j2 x hm (by simp),j1⟩,λy hy=> ?_⟩;rcases C4.mp hy with rfl|hy
    ·exact hx
    ·exact λhm=>j2 y hy (by simp[hm])
   ·have:=i2.mpr ⟨(J8.mp z.1).2,λy hy q=>by
     rcases J7.mp q with q|q
     ·exact z.2 y (by simp[hy]) q
     ·rw[K7.mp q]at hy;exact(J8.mp z.1).1 hy⟩
    omega
def dc_9(l:List Int):(met l).length<=l.length/\((met l).length=l.length↔l.Nodup):=by
 unfold met PyProof.Rows.firstMet;have e:(List.range l.length).map (λi=>l.getD i 0)=l:=by
  refine N2 λi=> ?_;rw[B3]
  by_cases hi:i < l.length
  ·rw[E4 hi,B6 hi];simp[List.getD,hi]
  ·rw[D5 (by simp;omega),D5 ()];rfl
 rw[e];obtain⟨a,b⟩:=bp_4 l [];simp only[P6,O5]at a b;exact⟨a,b.trans ⟨λz=>z.1,λz=>⟨z,λ_ _=>by simp⟩⟩⟩
section
variable{n:Nat}{T:List Int}{s:Int}
def bp_5(h1:1<=n)(hn:n<=1000)(hT:Rms n T)(s0:0<=s)(s1:s<=1000)(X:List Int)(hX:X.length<=1000):w_5 [.lst (X.map .int),.int s,.dic (Bg T),.int (n:Int)]=.ok (.sh (.bl (Df T (X.map (Bj n s))))):=by
 have hc:=r_3 (fg:=gC 5) (f:=k_2) (δ:=[some (.lst (X.map .int)),some (.int s),some (.dic (Bg T)),some (.int (n:Int)),none,none]) (λd=>match d with| .int x=>D.int (Bj n s x)|d=>d) (X.map .int) (λd hd=>by
  obtain⟨x,hx,rfl⟩:=F4.mp hd;refine⟨[some (.lst (X.map .int)),some (.int s),some (.dic (Bg T)),some (.int (n:Int)),none,some (.int x)],.sh (.int (Bj n s x)),rfl, ?_,rfl⟩
  simp![k_2,Ao,i_4,(r_7 x (s + 1) (n:Int) () () ()).2,Bj])
 have hm:(X.map D.int).map (λd=>match d with| .int x=>D.int (Bj n s x)|d=>d)=(X.map (Bj n s)).map .int:=by rw[J6,J6];rfl
 rw[hm]at hc;have ec:=i_5 (m:=1) (fi:=Bo (Ab 0)) (fg:=gC 5) (p:=λ_=> .ok true) (f:=k_2) (δ:=[some (.lst (X.map .int)),some (.int s),some (.dic (Bg T)),some (.int (n:Int)),none]) (ds:=X.map .int) (by simp![Ao]) (by rw[A3];omega) hc;have hR:Rms n (X.map (Bj n s)):=λr hr=>by
  obtain⟨x,_,rfl⟩:=F4.mp hr;exact z_3 s x h1
 have hRl:(X.map (Bj n s)).length<=1000:=by rw[A3];exact hX
 generalize X.map (Bj n s)=rs at *
 have q1:Aj 4 [0,1,3] (Bu 1 (Bo (Ab 0)) (gC 5) (λ_=> .ok true) k_2) (Av 5 [.lst (X.map .int),.int s,.dic (Bg T),.int (n:Int)])=.nx [.sh (.lst (X.map .int)),.sh (.int s),.sh (.dic (Bg T)),.sh (.int (n:Int)),.ow (.lst (rs.map .int))]:=by
  unfold Aj;show(match Bu 1 (Bo (Ab 0)) (gC 5) (λ_=> .ok true) k_2 [some (.lst (X.map .int)),some (.int s),some (.dic (Bg T)),some (.int (n:Int)),none] with| .ok (.sh d)=>_| .ok (.ow d)=>_| .ok (.tr t)=>_| .ex x=>_| .no=>_)=_;rw[ec];rfl
 obtain⟨m1,m2⟩:=dc_9 rs;have ls:=cr_2 (l:=rs) ();refine q_4 ?_;unfold as_9;rw[Bl q1]
 by_cases nd:rs.Nodup
 ·have c:¬(((met rs).length:Int) < (rs.length:Int)):=by have:=m2.mpr nd;omega
  have q2:Cm [4] (Am (Ag ltD (aa_1 (Ab 4)) (Ah Cs #v[4]))) (Ap [] (eC (.bl false))) Bi [.sh (.lst (X.map .int)),.sh (.int s),.sh (.dic (Bg T)),.sh (.int (n:Int)),.ow (.lst (rs.map .int))]=.nx [.sh (.lst (X.map .int)),.sh (.int s),.sh (.dic (Bg T)),.sh (.int (n:Int)),.ow (.lst (rs.map .int))]:=by
   simp![Ao,aa_1,ls,Ff,A3,ba_0,c,T3]
  rw[Bl q2];have hc2:=u_6 (fg:=gC 5) (p:=q_7) (f:=Ab 5) (δ:=[some (.lst (X.map .int)),some (.int s),some (.dic (Bg T)),some (.int (n:Int)),some (.lst (rs.map .int)),none]) (λd=>match d with| .int r=>decide (r∈T)|_=>false) (λd=>d) (rs.map .int) (λd hd=>by
   obtain⟨r,hr,rfl⟩:=F4.mp hd;refine⟨[some (.lst (X.map .int)),some (.int s),some (.dic (Bg T)),some (.int (n:Int)),some (.lst (rs.map .int)),some (.int r)],rfl, ?_,λ_=>⟨_,rfl,rfl⟩⟩
   simp![q_7,Ao,ag_8,aj_3 hT hn (hR r hr)])
  rw[ZE1,List.filter_map]at hc2;have ec2:=i_5 (m:=1) (fi:=Bo (Ab 4)) (fg:=gC 5) (p:=q_7) (f:=Ab 5) (δ:=[some (.lst (X.map .int)),some (.int s),some (.dic (Bg T)),some (.int (n:Int)),some (.lst (rs.map .int))]) (ds:=rs.map .int) (by simp![Ao]) (by rw[A3];omega) hc2;have kf:∀k∈(rs.filter ((λd=>match d with| .int r=>decide (r∈T)|_=>false) ∘ D.int)).map D.int,isKey k:=λk hk=>by
   obtain⟨r,hr,rfl⟩:=F4.mp hk;have:=hR r (M0.mp hr).1;exact ap_0 this.1 ()
  obtain⟨b,hb,eb,_⟩:=at_5 kf (js:=[]) (λ_ h=>by simp at h);have hv:Au [.sh (.lst (X.map .int)),.sh (.int s),.sh (.dic (Bg T)),.sh (.int (n:Int)),.ow (.lst (rs.map .int))]= [some (.lst (X.map .int)),some (.int s),some (.dic (Bg T)),some (.int (n:Int)),some (.lst (rs.map .int))]:=rfl;have fin:Df T rs=b:=by
   unfold Df;rw[P4,V2,hb,List.map_eq_nil_iff,ZC2];constructor
   ·intro z r hr q;exact z.2 r hr (D4 q)
   ·intro z;exact⟨nd,λr hr q=>z r hr (F5 q)⟩
  rw[fin];unfold Ap;rw[hv]
  simp![Ao,ec2,eb]
 ·have c:((met rs).length:Int) < (rs.length:Int):=by
   have:(met rs).length≠rs.length:=λz=>nd (m2.mp z);omega
  have:Df T rs=false:=F8 λz=>nd z.1;rw[this];have q2:Cm [4] (Am (Ag ltD (aa_1 (Ab 4)) (Ah Cs #v[4]))) (Ap [] (eC (.bl false))) Bi [.sh (.lst (X.map .int)),.sh (.int s),.sh (.dic (Bg T)),.sh (.int (n:Int)),.ow (.lst (rs.map .int))]=.rt (.sh (.bl false)):=by
   simp![Ao,aa_1,ls,Ff,A3,ba_0,c,O4]
  unfold Af;rw[q2]
end
def j_8(n io:Nat)(T X:List Int):Option Nat:=(List.range io).find? λ(s:Nat)=>Df T (X.map (Bj n (s:Int)))
def numD:Option Nat->D
 |some s=> .int (s:Int)
 |none=> .non
def cf_9{p:Nat->Bool}{n:Nat}(h:(List.range n).find? p=none):∀s,s < n->p s=false:=λs hs=>by
 have:=List.find?_eq_none.mp h s (K0.mpr hs);simpa using this
def aa_7{p:Nat->Bool}{n s:Nat}(h:(List.range n).find? p=some s):s < n/\p s=true/\∀t,t < s->p t=false:=by
 have h1:=List.find?_some h;have h2:=K0.mp (List.mem_of_find?_eq_some h);refine⟨h2,h1,λt ht=> ?_⟩;obtain⟨_,as,bs,e,ha⟩:=List.find?_eq_some_iff_append.mp h;have hl:as.length=s:=by
  have q:(List.range n)[as.length]? =some s:=by rw[e];simp
  have hlt:as.length < n:=by
   have:=K5 List.length e;simp at this;omega
  rw[E4 hlt]at q;exact K4 q
 have hta:t∈as:=by
  have q:(List.range n)[t]? =some t:=E4 ();rw[e,B7 ()]at q;exact M6 q
 have:=ha t hta;simpa using this
section
variable{n io:Nat}{T X:List Int}
theorem at_7(h1:1<=n)(hn:n<=1000)(hT:Rms n T)(hX:X.length<=1000):∀(ts:List Nat) (a4:Sl),(∀t∈ts,t<=1000)->match ts.find? (λ(s:Nat)=>Df T (X.map (Bj n (s:Int)))) with
  |some s=>Bx (gV 4) d_7 (ts.map λ(t:Nat)=>D.int (t:Int)) [.sh (.lst (X.map .int)),.sh (.int (n:Int)),.sh (.dic (Bg T)),.sh (.int (io:Int)),a4]=.rt (.sh (.int (s:Int)))
  |none=>∃b4,Bx (gV 4) d_7 (ts.map λ(t:Nat)=>D.int (t:Int)) [.sh (.lst (X.map .int)),.sh (.int (n:Int)),.sh (.dic (Bg T)),.sh (.int (io:Int)),a4]=.nx [.sh (.lst (X.map .int)),.sh (.int (n:Int)),.sh (.dic (Bg T)),.sh (.int (io:Int)),b4]
 | [],a4,_=>⟨a4,rfl⟩
 |t::ts,a4,ht=>by
  have e:=bh_3 h1 hn hT (s:=(t:Int)) () (by have:=ht t (by simp);omega) X hX;have hfg:gV 4 (.int (t:Int)) [.sh (.lst (X.map .int)),.sh (.int (n:Int)),.sh (.dic (Bg T)),.sh (.int (io:Int)),a4]=.ok [.sh (.lst (X.map .int)),.sh (.int (n:Int)),.sh (.dic (Bg T)),.sh (.int (io:Int)),.sh (.int (t:Int))]:=rfl;rw[N6];cases c:Df T (X.map (Bj n (t:Int))) with
  |true=>
   refine cr_1 hfg ?_
   simp![d_7,Ao,e,c]
  |false=>
   have hb:d_7 [.sh (.lst (X.map .int)),.sh (.int (n:Int)),.sh (.dic (Bg T)),.sh (.int (io:Int)),.sh (.int (t:Int))]=.nx [.sh (.lst (X.map .int)),.sh (.int (n:Int)),.sh (.dic (Bg T)),.sh (.int (io:Int)),.sh (.int (t:Int))]:=by
    simp![d_7,Ao,e,c]
   rw[B1,Fo hfg hb];exact at_7 h1 hn hT hX ts _ λq hq=>ht q (by simp[hq])
def cr_3(h1:1<=n)(hn:n<=1000)(hm:io<=1000)(hT:Rms n T)(hX:X.length<=1000):i_1 [.lst (X.map .int),.int (n:Int),.dic (Bg T),.int (io:Int)]=.ok (.sh (numD (j_8 n io T X))):=by
 have hz:Cf 0 io=(List.range io).map λ(t:Nat)=>D.int (t:Int):=by
  unfold Cf;refine E7 λk _=> ?_;rw[Y1]
 have hl:=at_7 (io:=io) h1 hn hT hX (List.range io) .no λt ht=>by have:=K0.mp ht;omega
 rw[<-hz]at hl;have hf:∀r,Bx (gV 4) d_7 (Cf 0 io) [.sh (.lst (X.map .int)),.sh (.int (n:Int)),.sh (.dic (Bg T)),.sh (.int (io:Int)),.no]=r->Bw [3] (Aw Dl #v[3]) (gV 4) d_7 (Av 5 [.lst (X.map .int),.int (n:Int),.dic (Bg T),.int (io:Int)])=r:=λr e=>by
  show Bw [3] (Aw Dl #v[3]) (gV 4) d_7 [.sh (.lst (X.map .int)),.sh (.int (n:Int)),.sh (.dic (Bg T)),.sh (.int (io:Int)),.no]=r;rw[<-e]
  simp![Bw,Ao,s_5 (show(-4611686018427387903:Int)<=(io:Int) by omega) (),K8]
 refine q_4 ?_;unfold z_2;unfold j_8;cases e:(List.range io).find? (λ(s:Nat)=>Df T (X.map (Bj n (s:Int)))) with
 |none=>
  rw[e]at hl;obtain⟨b4,e1⟩:=hl;rw[Bl (hf _ e1)];rfl
 |some s=>
  rw[e]at hl;unfold Af;rw[hf _ hl];rfl
end
def bk(B:Nat)(x:Int):Nat:=(ad_7 x 0 (B:Int)).toNat
def bz_7{B:Nat}(x:Int)(h:1<=B):bk B x < B:=by
 have:=aj_2 x 0 (B:Int) ();unfold bk;omega
def bu_7{B:Nat}(x:Int)(h:1<=B):ad_7 x 0 (B:Int)=((bk B x:Nat):Int):=by
 have:=aj_2 x 0 (B:Int) ();unfold bk;omega
def Bb(B:Nat)(L:List Int)(b:Nat):List Int:=L.filter λx=>decide (bk B x=b)
def v_0(B:Nat)(L:List Int)(x:Int)(b:Nat):Bb B (L ++ [x]) b=if b=bk B x then Bb B L b ++ [x] else Bb B L b:=by
 unfold Bb;rw[List.filter_append]
 by_cases h:b=bk B x
 ·rw[if_pos h,List.filter_cons,if_pos (F5 h.symm)];rfl
 ·rw[if_neg h,List.filter_cons,if_neg (by simpa using λz=>h z.symm)];simp
def bh_5(B:Nat)(L:List Int)(b:Nat):(Bb B L b).length<=L.length:=W0 _ _
section
variable{α:Type}
def q_9(x:Ak)(v:α)(l:List (Ak×α))(k:Ak):Ck ((x,v)::l) k=if x=k then some v else Ck l k:=by
 unfold Ck;rw[N6]
 by_cases h:x=k
 ·rw[if_pos h,F5 h];rfl
 ·rw[if_neg h,F8 h]
def cr_4(l r:List (Ak×α))(k:Ak):Ck (l ++ r) k=(Ck l k).or (Ck r k):=by
 induction l with
 |nil=>rfl
 |cons q l ih=>
  obtain⟨x,v⟩:=q;rw[Q8,q_9,q_9,ih]
  split <;> rfl
end
def shI(l:List Int):List Tn:=l.map λx=> .sh (.int x)
def gkT(g:Nat->List Int)(os:List Nat):List (Ak×Tn):=os.map λ(b:Nat)=>(Sum.inl (b:Int),Tn.lst (shI (g b)))
def inl_ne{a b:Nat}:(Sum.inl (a:Int):Ak)=.inl (b:Int)↔a=b:=⟨λz=>by injection z with z;omega,λz=>by rw[z]⟩
theorem cr_5(f:Nat->Tn)(b:Nat):∀os:List Nat,Ck (os.map λ(b:Nat)=>((Sum.inl (b:Int):Ak),f b)) (.inl (b:Int))=if b∈os then some (f b) else none
 | []=>rfl
 |o::os=>by
  rw[B1,q_9,cr_5 f b os]
  by_cases h:o=b
  ·subst h;rw[if_pos rfl,if_pos (by simp)]
  ·rw[if_neg (λz=>h (inl_ne.mp z))]
   by_cases h2:b∈os
   ·rw[if_pos h2,if_pos (by simp[h2])]
   ·rw[if_neg h2,if_neg (λz=>(C4.mp z).elim (λz=>h z.symm) h2)]
theorem cr_6(f:Nat->Tn)(b:Nat)(v:Tn):∀os:List Nat,os.Nodup->Do (os.map λ(b:Nat)=>((Sum.inl (b:Int):Ak),f b)) (.inl (b:Int)) v=os.map λ(q:Nat)=>((Sum.inl (q:Int):Ak),if q=b then v else f q)
 | [],_=>rfl
 |o::os,nd=>by
  rw[B1,Do,B1];obtain⟨n1,n2⟩:=J8.mp nd
  by_cases h:o=b
  ·subst h;rw[if_pos rfl,if_pos rfl];refine K5 _ (E7 λq hq=> ?_);rw[if_neg (λz:q=o=>n1 (by rw[<-z];exact hq))]
  ·rw[if_neg (λz=>h (inl_ne.mp z)),if_neg h,cr_6 f b v os n2]
theorem bz_8{α:Type}(v:α)(k:Ak)(v0:α):∀l:List (Ak×α),Ck l k=none->Do (l ++ [(k,v0)]) k v=l ++ [(k,v)]
 | [],_=>by rw[P5,Do,if_pos rfl];rfl
 |(x,w)::l,h=>by
  rw[q_9]at h;rw[Q8,Do]
  by_cases e:x=k
  ·rw[if_pos e]at h;cases h
  ·rw[if_neg e]at h⊢;rw[bz_8 v k v0 l h];rfl
structure GK(B:Nat)(L:List Int)(os:List Nat)(zm:List (Ak×Tn)):Prop where
 eq:zm=gkT (Bb B L) os
 nd:os.Nodup
 mem:∀b,b∈os↔Bb B L b≠ []
def GK.lt{B:Nat}{L:List Int}{os:List Nat}{zm:List (Ak×Tn)}(h:GK B L os zm)(hB:1<=B):∀b∈os,b < B:=λb hb=>by
 obtain⟨x,hx⟩:=List.exists_mem_of_ne_nil _ ((h.mem b).mp hb);have:=D4 (M0.mp hx).2;rw[<-this];exact bz_7 x hB
def ag_9{B:Nat}(x:Int)(h:1<=B):j_6 [.int x,.int (B:Int)]=.ok (.sh (.int ((bk B x:Nat):Int))):=by
 simp![j_6,al_0,Ao,(r_7 x 0 (B:Int) ⋯ ⋯ ()).1,bu_7 x h]
def bz_9{B:Nat}{L:List Int}{os:List Nat}{zm:List (Ak×Tn)}(h:GK B L os zm)(hB:1<=B)(x:Int)(hl:L.length<=1000)(hos:os.length<=1000){Ld:D}:∃os' au,c_8 [.sh Ld,.sh (.int (B:Int)),.tr (.dic zm),.sh (.int x)]=.nx [.sh Ld,.sh (.int (B:Int)),.tr (.dic au),.sh (.int x)]/\GK B (L ++ [x]) os' au/\os'.length<=os.length + 1:=by
 have hv:Ck zm (.inl ((bk B x:Nat):Int))=if bk B x∈os then some (.lst (shI (Bb B L (bk B x)))) else none:=by rw[h.eq];exact cr_5 _ _ os
 have hlk:zm.length=os.length:=by rw[h.eq];exact A3 _
 have gl:=bh_5 B L (bk B x);have e:=ag_9 x hB;have go:∀cg,sdK zm (.inl ((bk B x:Nat):Int))=cg->∀ts,Ck cg (.inl ((bk B x:Nat):Int))=some (.lst ts)->ts.length < 16777216->c_8 [.sh Ld,.sh (.int (B:Int)),.tr (.dic zm),.sh (.int x)]=.nx [.sh Ld,.sh (.int (B:Int)),.tr (.dic (Do cg (.inl ((bk B x:Nat):Int)) (.lst (ts ++ [.sh (.int x)])))),.sh (.int x)]:=λcg e2 ts e3 e4=>by
  have ht:(([.sh Ld,.sh (.int (B:Int)),.tr (.dic zm),.sh (.int x)]:SE)[2]?).bind Sl.tree=some (.dic zm,false):=rfl;have f1:Bc 2 j_6 #v[3,1] (Au [.sh Ld,.sh (.int (B:Int)),.tr (.dic zm),.sh (.int x)])=.ok (.sh (.int ((bk B x:Nat):Int))):=by simp![Ao,e]
  unfold c_8 sSdb;rw[ht];simp only[f1,W.d_sh,Dn,e2,e3];rw[if_pos (),if_pos e4];rfl
 by_cases hb:bk B x∈os
 ·rw[if_pos hb]at hv;have hs:sdK zm (.inl ((bk B x:Nat):Int))=zm:=by unfold sdK;rw[hv]
  refine⟨os,_,go zm hs _ hv (by unfold shI;rw[A3];omega),⟨?_,h.nd,λb=> ?_⟩,by omega⟩
  ·rw[h.eq];unfold gkT;rw[cr_6 _ _ _ os h.nd];refine E7 λq _=> ?_;rw[v_0]
   by_cases z:q=bk B x
   ·rw[if_pos z,if_pos z,z];unfold shI;rw[F1];rfl
   ·rw[if_neg z,if_neg z]
  ·rw[v_0]
   by_cases z:b=bk B x
   ·rw[if_pos z,z];exact⟨λ_=>by simp,λ_=>hb⟩
   ·rw[if_neg z];exact h.mem b
 ·rw[if_neg hb]at hv;have hg:Bb B L (bk B x)= []:=by
   by_cases z:Bb B L (bk B x)= []
   ·exact z
   ·exact absurd ((h.mem _).mpr z) hb
  have hs:sdK zm (.inl ((bk B x:Nat):Int))=zm ++ [(.inl ((bk B x:Nat):Int),.lst [])]:=by unfold sdK;rw[hv]
  have hv2:Ck (zm ++ [(.inl ((bk B x:Nat):Int),Tn.lst [])]) (.inl ((bk B x:Nat):Int))=some (.lst []):=by
   rw[cr_4,hv,q_9,if_pos rfl];rfl
  refine⟨os ++ [bk B x],_,go _ hs [] hv2 ⋯,⟨?_, ?_,λb=> ?_⟩,by simp⟩
  ·rw[bz_8 _ _ _ _ hv,h.eq];unfold gkT;rw[F1];have e1:os.map (λ(b:Nat)=>((Sum.inl (b:Int):Ak),Tn.lst (shI (Bb B L b))))=os.map λ(b:Nat)=>(Sum.inl (b:Int),Tn.lst (shI (Bb B (L ++ [x]) b))):=E7 λq hq=>by
    rw[v_0,if_neg (λz:q=bk B x=>hb (by rw[<-z];exact hq))]
   rw[e1];refine K5 _ ?_;rw[B1,v_0,if_pos rfl,hg];rfl
  ·exact V3.mpr ⟨h.nd,by simp,λa ha b hb2=>by rw[K7.mp hb2];exact λz=>hb (by rw[<-z];exact ha)⟩
  ·rw[v_0,J7,K7]
   by_cases z:b=bk B x
   ·rw[if_pos z];exact⟨λ_=>by simp,λ_=> .inr z⟩
   ·rw[if_neg z];exact⟨λy=>y.elim (h.mem b).mp λy=>absurd y z,λy=> .inl ((h.mem b).mpr y)⟩
theorem ca_0{B:Nat}(hB:1<=B){Ld:D}:∀(X L:List Int) (os:List Nat) (zm:List (Ak×Tn)) (a3:Sl),GK B L os zm->L.length + X.length<=1000->os.length<=L.length->∃os' au b3,Bx (gV 3) c_8 (X.map .int) [.sh Ld,.sh (.int (B:Int)),.tr (.dic zm),a3]=.nx [.sh Ld,.sh (.int (B:Int)),.tr (.dic au),b3]/\GK B (L ++ X) os' au/\os'.length<=(L ++ X).length
 | [],L,os,zm,a3,h,_,ho=>⟨os,zm,a3,rfl,by rw[D7];exact h,by rw[D7];exact ho⟩
 |x::X,L,os,zm,a3,h,hl,ho=>by
  simp only[C6]at hl;obtain⟨os1,ck,e1,h1,l1⟩:=bz_9 h hB x () () (Ld:=Ld);obtain⟨os',au,b3,e2,h2,l2⟩:=ca_0 hB (Ld:=Ld) X (L ++ [x]) os1 ck (.sh (.int x)) h1 (by simp;omega) (by simp;omega);rw[M9]at h2 l2;refine⟨os',au,b3, ?_,h2,l2⟩;rw[B1,Fo (Δ1:=[.sh Ld,.sh (.int (B:Int)),.tr (.dic zm),.sh (.int x)]) rfl e1];exact e2
def bh_6{B:Nat}(hB:1<=B)(L:List Int)(hl:L.length<=1000):∃os zm w,g_4 [.lst (L.map .int),.int (B:Int)]=.ok w/\GK B L os zm/\os.length<=L.length/\(L≠ []->w=.tr (.dic zm)):=by
 cases L with
 |nil=>exact⟨[],[],_,rfl,⟨rfl,R3,λb=>by simp[Bb]⟩,A8 _,λz=>absurd rfl z⟩
 |cons x X=>
  have q1:Aj 2 [] u_4 (Av 4 [.lst ((x::X).map .int),.int (B:Int)])=.nx [.sh (.lst ((x::X).map .int)),.sh (.int (B:Int)),.ow (.dic []),.no]:=rfl;have g0:GK B [] [] []:=⟨rfl,R3,λb=>by simp[Bb]⟩;obtain⟨os1,ck,e1,h1,l1⟩:=bz_9 g0 hB x (by simp) (by simp) (Ld:=.lst ((x::X).map .int));have e1':c_8 [.sh (.lst ((x::X).map .int)),.sh (.int (B:Int)),.ow (.dic []),.sh (.int x)]=.nx [.sh (.lst ((x::X).map .int)),.sh (.int (B:Int)),.tr (.dic ck),.sh (.int x)]:=e1;simp only[C6]at hl;obtain⟨os',au,b3,e2,h2,l2⟩:=ca_0 hB (Ld:=.lst ((x::X).map .int)) X [x] os1 ck (.sh (.int x)) h1 (by simp;omega) (by simpa using l1);refine⟨os',au,.tr (.dic au), ?_,h2,l2,λ_=>rfl⟩;refine q_4 ?_;unfold r_5;have hf:Bw [0] (Bo (Ab 0)) (gV 3) c_8 [.sh (.lst ((x::X).map .int)),.sh (.int (B:Int)),.ow (.dic []),.no]=.nx [.sh (.lst ((x::X).map .int)),.sh (.int (B:Int)),.tr (.dic au),b3]:=by
   have:Bx (gV 3) c_8 ((x::X).map .int) [.sh (.lst ((x::X).map .int)),.sh (.int (B:Int)),.ow (.dic []),.no]=.nx [.sh (.lst ((x::X).map .int)),.sh (.int (B:Int)),.tr (.dic au),b3]:=by
    rw[B1,Fo (Δ1:=[.sh (.lst ((x::X).map .int)),.sh (.int (B:Int)),.ow (.dic []),.sh (.int x)]) rfl e1'];exact e2
   rw[<-this]
   simp![Bw,Ao]
  rw[Bl q1,Bl hf];rfl
def De(g:Nat->List Int)(B:Nat):List Tn:=(List.range B).map λb=> .lst (shI (g b))
def Cn(g:Nat->List Int)(B:Nat):List D:=(List.range B).map λb=> .lst ((g b).map .int)
theorem ca_1:∀l:List Int,unT (shI l)=some (l.map .int)
 | []=>rfl
 |x::l=>by
  show(unT (shI l)).map (D.int x:: ·)=_;rw[ca_1 l];rfl
theorem bu_8:∀l:List Int,Tn.ds (shI l)=l.map .int
 | []=>rfl
 |x::l=>by
  show(Tn.sh (.int x)).d::Tn.ds (shI l)=_;rw[bu_8 l];rfl
theorem df_4(g:Nat->List Int):∀l:List Nat,Tn.ds (l.map λb=>Tn.lst (shI (g b)))=l.map λb=>D.lst ((g b).map .int)
 | []=>rfl
 |b::l=>by
  rw[B1,B1,Tn.ds,df_4 g l,Tn.d,bu_8]
def so_d(g:Nat->List Int)(B:Nat):(Tn.lst (De g B)).d=.lst (Cn g B):=by
 rw[Tn.d];exact K5 _ (df_4 g _)
def bb_5{α:Type}(f:Nat->α)(v:α)(B n:Nat):((List.range B).map f).set n v=(List.range B).map λb=>if b=n then v else f b:=by
 refine N2 λi=> ?_;rw[List.getElem?_set,B3,B3]
 by_cases h:n=i
 ·subst h;rw[if_pos rfl]
  by_cases hi:n < B
  ·rw[if_pos (by simpa using hi),E4 hi];simp
  ·rw[if_neg (by simpa using hi),D5 (by simp;omega)];rfl
 ·rw[if_neg h]
  by_cases hi:i < B
  ·rw[E4 hi];simp only[L4];rw[if_neg (λz:i=n=>h z.symm)]
  ·rw[D5 (by simp;omega)];rfl
def dd_0{B:Nat}{L:List Int}{d:D}(hB:1<=B)(hd:isKey d)(hl:L.length<=1000){Kd:D}:g_3 [.sh Kd,.sh (.int (B:Int)),.tr (.lst (De (Bb B L) B)),.sh d]=.nx [.sh Kd,.sh (.int (B:Int)),.tr (.lst (De (Bb B (L ++ [As d])) B)),.sh d]:=by
 have e:=ag_7 hd;have hb:=bz_7 (As d) hB;have gl:=bh_5 B L (bk B (As d));have f1:Bc 3 d_5 #v[Bc 1 e_9 #v[3],eC (.int 0),1] (Bf [.sh Kd,.sh (.int (B:Int)),.tr (.lst (De (Bb B L) B)),.sh d])=.ok (.sh (.int ((bk B (As d):Nat):Int))):=by
  have m:=(r_7 (As d) 0 (B:Int) ⋯ ⋯ ()).2;rw[bu_7 _ hB]at m;show((((e_9 [d]).bind λw=>R.ok [w.d,.int 0,.int (B:Int)])).bind λds=>if ds.length=3 then d_5 ds else .no)=_;rw[e];exact m
 have f2:Bc 1 e_9 #v[3] (Bf [.sh Kd,.sh (.int (B:Int)),.tr (.lst (De (Bb B L) B)),.sh d])=.ok (.sh (.int (As d))):=e;have hk:(Tn.lst (De (Bb B L) B)).kid (bk B (As d))=some ((Bb B L (bk B (As d))).map .int):=by
  show((De (Bb B L) B)[bk B (As d)]?).bind Tn.flat=_;unfold De;rw[B3,E4 hb];exact ca_1 _
 have ht:(([.sh Kd,.sh (.int (B:Int)),.tr (.lst (De (Bb B L) B)),.sh d]:SE)[2]?).bind Sl.tree=some (.lst (De (Bb B L) B),false):=rfl;unfold g_3 bz_0;rw[ht];simp only[f1,W.d_sh,f2];rw[if_pos (),K8,hk];simp only;rw[if_pos (by rw[A3];omega)];have hs:(Tn.lst (De (Bb B L) B)).setKid (bk B (As d)) ((Bb B L (bk B (As d))).map .int ++ [.int (As d)])=.lst (De (Bb B (L ++ [As d])) B):=by
  show Tn.lst ((De (Bb B L) B).set (bk B (As d)) (Tn.of (.lst ((Bb B L (bk B (As d))).map .int ++ [.int (As d)]))))=_;unfold De;rw[bb_5];refine K5 _ (E7 λb _=> ?_);rw[v_0]
  by_cases z:b=bk B (As d)
  ·rw[if_pos z,if_pos z,z];show Tn.lst (((Bb B L (bk B (As d))).map D.int ++ [D.int (As d)]).map Tn.sh)=_;unfold shI;rw[F1,F1,J6];rfl
  ·rw[if_neg z,if_neg z]
 rw[hs];rfl
theorem ca_2{B:Nat}(hB:1<=B){Kd:D}:∀(ks:List D) (L:List Int) (a3:Sl),(∀k∈ks,isKey k)->L.length + ks.length<=1000->∃b3,Bx (gV 3) g_3 ks [.sh Kd,.sh (.int (B:Int)),.tr (.lst (De (Bb B L) B)),a3]=.nx [.sh Kd,.sh (.int (B:Int)),.tr (.lst (De (Bb B (L ++ ks.map As)) B)),b3]
 | [],L,a3,_,_=>⟨a3,by rw[M3,D7];rfl⟩
 |d::ks,L,a3,hk,hl=>by
  simp only[C6]at hl;obtain⟨b3,e⟩:=ca_2 hB (Kd:=Kd) ks (L ++ [As d]) (.sh d) (λk h=>hk k (by simp[h])) (by simp;omega);refine⟨b3, ?_⟩;rw[Fo (Δ1:=[.sh Kd,.sh (.int (B:Int)),.tr (.lst (De (Bb B L) B)),.sh d]) rfl (dd_0 hB (hk d (by simp)) ()),e,M9];rfl
def k_1(n:Nat):(Cf 0 n).length=n:=by unfold Cf;rw[A3,K1]
def aw_6{B:Nat}(hB:1<=B)(hB2:B<=1000){ks:List D}(hk:∀k∈ks,isKey k)(hl:ks.length<=1000):i_0 [.lst ks,.int (B:Int)]=.ok (.tr (.lst (De (Bb B (ks.map As)) B))):=by
 have hr:Aw Dl #v[1] [some (.lst ks),some (.int (B:Int)),none,none]=.ok (Cf 0 B):=by
  simp![Ao,s_5 (show(-4611686018427387903:Int)<=(B:Int) by omega) (),K8]
 have q1:Aj 2 [1] (p_6 1 (Aw Dl #v[1]) (gC 4)) (Av 4 [.lst ks,.int (B:Int)])=.nx [.sh (.lst ks),.sh (.int (B:Int)),.tr (.lst (De (Bb B []) B)),.no]:=by
  have ec:p_6 1 (Aw Dl #v[1]) (gC 4) [some (.lst ks),some (.int (B:Int)),none,none]=.ok (.tr (.lst (De (Bb B []) B))):=by
   unfold p_6;rw[hr];simp only[R.bind_ok,k_1];rw[if_pos ⟨by omega,F2.mpr λ_ _=>rfl⟩];refine K5 (λt=>R.ok (W.tr (Tn.lst t))) ?_;unfold De;refine N2 λi=> ?_;rw[B3,E8]
   by_cases hi:i < B
   ·rw[if_pos hi,E4 hi];rfl
   ·rw[if_neg hi,D5 (by simp;omega)];rfl
  unfold Aj;show(match p_6 1 (Aw Dl #v[1]) (gC 4) [some (.lst ks),some (.int (B:Int)),none,none] with| .ok (.sh d)=>_| .ok (.ow d)=>_| .ok (.tr t)=>_| .ex x=>_| .no=>_)=_;rw[ec];rfl
 obtain⟨b3,e⟩:=ca_2 hB (Kd:=.lst ks) ks [] .no hk (by simp;omega);refine q_4 ?_;unfold u_7;have hf:Bw [0] (Bo (Ab 0)) (gV 3) g_3 [.sh (.lst ks),.sh (.int (B:Int)),.tr (.lst (De (Bb B []) B)),.no]=.nx [.sh (.lst ks),.sh (.int (B:Int)),.tr (.lst (De (Bb B (ks.map As)) B)),b3]:=by
  rw[P5]at e;rw[<-e];rfl
 rw[Bl q1,Bl hf];rfl
def szs(g:Nat->List Int)(B z:Nat):List Nat:=(List.range B).filter λb=>decide ((g b).length=z)
def Bs(g:Nat->List Int)(B mx:Nat):Nat->List Nat
 |0=> []
 |k + 1=>Bs g B mx k ++ szs g B (mx - k)
def Dh(l:List Nat):List D:=l.map λ(b:Nat)=>D.int (b:Int)
theorem at_8(g:Nat->List Int)(B mx:Nat):∀k,(Bs g B mx k).length<=k * B
 |0=>by simp[Bs]
 |k + 1=>by
  have h1:=at_8 g B mx k;have h2:(szs g B (mx - k)).length<=B:=by unfold szs;exact C7 (W0 _ _) (by simp)
  rw[Bs,B5,Nat.succ_mul];omega
def bp_6(l:List Nat):(Dh l).length=l.length:=A3 _
def cr_7(a b:List Nat):Dh (a ++ b)=Dh a ++ Dh b:=F1
def cg_0{g:Nat->List Int}{B mx k:Nat}(hB2:B<=1000)(hk:k<=mx)(hx:mx<=1000):g_7 [.sh (.lst (Cn g B)),.ow (.lst (Dh (Bs g B mx k))),.sh (.int ((mx:Int) - (k:Int)))]=.nx [.sh (.lst (Cn g B)),.ow (.lst (Dh (Bs g B mx (k + 1)))),.sh (.int ((mx:Int) - (k:Int)))]:=by
 have hsl:(Cn g B).length=B:=by unfold Cn;rw[A3,K1]
 have hr:∀a:Option D,Aw Dl #v[Ah Cs #v[0]] [some (.lst (Cn g B)),a,some (.int ((mx:Int) - (k:Int)))]=.ok (Cf 0 B):=λa=>by
  simp![Ao,Ff,hsl,s_5 (show(-4611686018427387903:Int)<=(B:Int) by omega) (),K8]
 have hz:Cf 0 B=(List.range B).map λ(t:Nat)=>D.int (t:Int):=by
  unfold Cf;exact E7 λk _=>by rw[Y1]
 have ec:∀a:Option D,Bu 1 (Aw Dl #v[Ah Cs #v[0]]) (gC 3) l_3 (Ab 3) [some (.lst (Cn g B)),a,some (.int ((mx:Int) - (k:Int)))]=.ok (.ow (.lst (Dh (szs g B (mx - k))))):=λa=>by
  have hc:=u_6 (fg:=gC 3) (p:=l_3) (f:=Ab 3) (δ:=[some (.lst (Cn g B)),a,some (.int ((mx:Int) - (k:Int))),none]) (λd=>match d with| .int b=>decide ((g b.toNat).length=mx - k)|_=>false) (λd=>d) (Cf 0 B) (λd hd=>by
   rw[hz]at hd;obtain⟨b,hb,rfl⟩:=F4.mp hd;have hb:=K0.mp hb;refine⟨[some (.lst (Cn g B)),a,some (.int ((mx:Int) - (k:Int))),some (.int (b:Int))],rfl, ?_,λ_=>⟨_,rfl,rfl⟩⟩;have ix:Ct (.lst (Cn g B)) (.int (b:Int))=.ok (.sh (.lst ((g b).map .int))):=n_4 (u_9 (by unfold Cn;rw[B3,E4 hb];rfl));have ed:decide (((g b).length:Int)=(mx:Int) - (k:Int))=decide ((g b).length=mx - k):=ZA8.mpr ()
   simp![l_3,Ao,ix,Ff,A3,n_3,ed,K8])
  rw[ZE1,hz,List.filter_map]at hc;have hm:((List.range B).filter ((λd=>match d with| .int b=>decide ((g b.toNat).length=mx - k)|_=>false) ∘ λ(t:Nat)=>D.int (t:Int)))=szs g B (mx - k):=by
   unfold szs;refine List.filter_congr λb _=> ?_;show decide ((g ((b:Int)).toNat).length=mx - k)=_;rw[K8]
  rw[hm,<-hz]at hc;exact i_5 (m:=1) (hr a) (by rw[k_1];omega) hc
 have hz2:(Dh (Bs g B mx k)).length + (Dh (szs g B (mx - k))).length<=16777216:=by
  have h1:=at_8 g B mx k;have h2:(szs g B (mx - k)).length<=B:=by unfold szs;exact C7 (W0 _ _) (by simp)
  have h3:k * B<=1000 * 1000:=Nat.mul_le_mul () hB2;rw[bp_6,bp_6];omega
 simp![g_7,Ao,ec,Bq,hz2,Bs,cr_7,Ay,D8]
def bu_9{g:Nat->List Int}{B:Nat}(hB:1<=B)(hB2:B<=1000)(hg:∀b,(g b).length<=1000):∃mx:Nat,mx<=1000/\(∀b,b < B->(g b).length<=mx)/\h_2 [.lst (Cn g B)]=.ok (.ow (.lst (Dh (Bs g B mx (mx + 1))))):=by
 have hsl:(Cn g B).length=B:=by unfold Cn;rw[A3,K1]
 
 have hc:=r_3 (fg:=gC 3) (f:=f_6) (δ:=[some (.lst (Cn g B)),none,none,none]) (λd=>match d with| .lst l=>D.int (l.length:Int)|d=>d) (Cn g B) (λd hd=>by
  obtain⟨b,hb,rfl⟩:=F4.mp hd;refine⟨[some (.lst (Cn g B)),none,none,some (.lst ((g b).map .int))],.sh (.int (((g b).map D.int).length:Int)),rfl, ?_,rfl⟩
  simp![f_6,Ao,Ff])
 have hm:(Cn g B).map (λd=>match d with| .lst l=>D.int (l.length:Int)|d=>d)=((List.range B).map λb=>((g b).length:Int)).map .int:=by
  unfold Cn;rw[J6,J6];exact E7 λb _=>by simp
 rw[hm]at hc;obtain⟨z,zs,ez⟩:∃z zs,(List.range B).map (λb=>((g b).length:Int))=z::zs:=by
  cases e:(List.range B).map (λb=>((g b).length:Int)) with
  |nil=>have:=K5 List.length e;simp at this;omega
  |cons z zs=>exact⟨z,zs,rfl⟩
 have bj:∀b,b < B->((g b).length:Int)<=Ec z zs:=λb hb=>by
  have:((g b).length:Int)∈z::zs:=by rw[<-ez];exact F4.mpr ⟨b,K0.mpr hb,rfl⟩
  obtain⟨h1,h2⟩:=ao_4 zs z;rcases C4.mp this with e|e
  ·rw[e];exact h1
  ·exact h2 _ e
 have hin:∃b,Ec z zs=((g b).length:Int):=by
  have:=ar_9 zs z;rw[<-ez]at this;obtain⟨b,_,e⟩:=F4.mp this;exact⟨b,e.symm⟩
 obtain⟨b0,hb0⟩:=hin;refine⟨(g b0).length,hg b0,λb hb=>by have:=bj b hb;omega, ?_⟩;have hx:(g b0).length<=1000:=hg b0;generalize (g b0).length=mx at hb0 hx⊢;rw[ez]at hc;have ml:Fk [.lst ((z::zs).map .int)]=.ok (.sh (.int (mx:Int))):=by
  rw[<-hb0];simp only[Fk,bh_4]
 have ec:=i_5 (m:=1) (fi:=Bo (Ab 0)) (fg:=gC 3) (p:=λ_=> .ok true) (f:=f_6) (δ:=[some (.lst (Cn g B)),none,none]) (ds:=Cn g B) (by simp![Ao]) (by rw[hsl];omega) hc;have q1:Aj 1 [] (Bn Ac) (Av 3 [.lst (Cn g B)])=.nx [.sh (.lst (Cn g B)),.ow (.lst (Dh (Bs g B mx 0))),.no]:=rfl;have hr:rngR [.int (1 + (mx:Int))]=.ok (v_8 (((1 + (mx:Int)).toNat:Int) - 1) (-1) (1 + (mx:Int)).toNat):=if_pos ();have ht:(1 + (mx:Int)).toNat=mx + 1:=by omega
 rw[ht]at hr;have hi:Aw rngR #v[(Ag Bq (eC (.int 1)) (Ah Fk #v[(Bu 1 (Bo (Ab 0)) (gC 3) (λ_=> .ok true) f_6)]))] [some (.lst (Cn g B)),none,none]=.ok (v_8 (((mx + 1:Nat):Int) - 1) (-1) (mx + 1)):=by
  have ml':Fk [.lst (.int z::zs.map .int)]=.ok (.sh (.int (mx:Int))):=ml
  simp![Ao,ec,ml',i_4,hr]
 obtain⟨Δ',e1,a2,rfl⟩:=o_2 (gV 2) g_7 (λk Δ=>∃a2,Δ= [.sh (.lst (Cn g B)),.ow (.lst (Dh (Bs g B mx k))),a2]) (ds:=v_8 (((mx + 1:Nat):Int) - 1) (-1) (mx + 1)) (Δ:=[.sh (.lst (Cn g B)),.ow (.lst (Dh (Bs g B mx 0))),.no]) ⟨_,rfl⟩
  (λk d Δ hd hI=>by
   obtain⟨a2,rfl⟩:=hI;obtain⟨hk,rfl⟩:=aq_8 hd;have e:((mx + 1:Nat):Int) - 1 + (k:Int) * (-1)=(mx:Int) - (k:Int):=by omega
   rw[e];exact⟨_,rfl,_,.inl (cg_0 hB2 () hx),_,rfl⟩)
 rw[aq_9]at e1;have hf:Bw [0] (Aw rngR #v[(Ag Bq (eC (.int 1)) (Ah Fk #v[(Bu 1 (Bo (Ab 0)) (gC 3) (λ_=> .ok true) f_6)]))]) (gV 2) g_7 [.sh (.lst (Cn g B)),.ow (.lst (Dh (Bs g B mx 0))),.no]=.nx [.sh (.lst (Cn g B)),.ow (.lst (Dh (Bs g B mx (mx + 1)))),a2]:=by
  unfold Bw;show(match Aw rngR #v[(Ag Bq (eC (.int 1)) (Ah Fk #v[(Bu 1 (Bo (Ab 0)) (gC 3) (λ_=> .ok true) f_6)]))] [some (.lst (Cn g B)),none,none] with| .ok ds=>Bx (gV 2) g_7 ds [.sh (.lst (Cn g B)),.ow (.lst (Dh (Bs g B mx 0))),.no]| .ex x=>Fl.ex x [.sh (.lst (Cn g B)),.ow (.lst (Dh (Bs g B mx 0))),.no]| .no=>_)=_;rw[hi];exact e1
 refine q_4 ?_;unfold ac_2;rw[Bl q1,Bl hf];rfl
def Ek(g:Nat->List Int)(b:Nat):Int:= -((g b).length:Int) * 4611686018427387904 + (b:Int)
def Ce(g:Nat->List Int)(os:List Nat):List (Ak×D):=os.map λ(b:Nat)=>(Sum.inl (b:Int),D.lst ((g b).map .int))
theorem df_5(g:Nat->List Int):∀os:List Nat,Tn.ks (gkT g os)=Ce g os
 | []=>rfl
 |b::os=>by
  show(Sum.inl (b:Int),(Tn.lst (shI (g b))).d)::Tn.ks (gkT g os)=_;rw[df_5 g os,Tn.d,bu_8];rfl
def gk_d(g:Nat->List Int)(os:List Nat):(Tn.dic (gkT g os)).d=.dic (Ce g os):=by
 rw[Tn.d,df_5]
theorem bv_0(f:Nat->D)(b:Nat):∀os:List Nat,Ck (os.map λ(b:Nat)=>((Sum.inl (b:Int):Ak),f b)) (.inl (b:Int))=if b∈os then some (f b) else none
 | []=>rfl
 |o::os=>by
  rw[B1,q_9,bv_0 f b os]
  by_cases h:o=b
  ·subst h;rw[if_pos rfl,if_pos (by simp)]
  ·rw[if_neg (λz=>h (inl_ne.mp z))]
   by_cases h2:b∈os
   ·rw[if_pos h2,if_pos (by simp[h2])]
   ·rw[if_neg h2,if_neg (λz=>(C4.mp z).elim (λz=>h z.symm) h2)]
def ca_3{g:Nat->List Int}{os:List Nat}{b:Nat}(h:b∈os):Em (.dic (Ce g os)) (.int (b:Int))=.ok (.sh (.lst ((g b).map .int))):=by
 have:=bv_0 (λb=>D.lst ((g b).map .int)) b os;rw[if_pos h]at this;unfold Em;simp only[Dn];unfold Ce;rw[this]
theorem al_5{α:Type}:∀l:List α,Paired Eq l l
 | []=> .nil
 |_::l=> .cons rfl (al_5 l)
theorem bb_6{α:Type}:∀{a b:List α},Paired Eq a b->a=b
 |_,_,.nil=>rfl
 |_,_,.cons e t=>by rw[e,bb_6 t]
section
variable{g:Nat->List Int}{B mx:Nat}
def mem_szs{b z:Nat}:b∈szs g B z↔b < B/\(g b).length=z:=by
 unfold szs;rw[M0,K0,V2]
theorem w_7{b:Nat}:∀k,b∈Bs g B mx k↔b < B/\∃j,j < k/\(g b).length=mx - j
 |0=>by simp[Bs]
 |k + 1=>by
  rw[Bs,J7,w_7 k,mem_szs];constructor
  ·rintro (⟨h,j,h1,h2⟩|⟨h,h2⟩)
   ·exact⟨h,j,by omega,h2⟩
   ·exact⟨h,k,by omega,h2⟩
  ·rintro ⟨h,j,h1,h2⟩
   by_cases e:j=k
   ·exact .inr ⟨h,by rw[h2,e]⟩
   ·exact .inl ⟨h,j,by omega,h2⟩
theorem ae_0(hB:B<=1000):∀k,k<=mx + 1->(Bs g B mx k).Pairwise λa b=>Ek g a < Ek g b
 |0,_=>List.Pairwise.nil
 |k + 1,hk=>by
  rw[Bs];refine List.pairwise_append.mpr ⟨ae_0 hB k (), ?_,λa ha b hb=> ?_⟩
  ·unfold szs;have h1:(List.range B).Pairwise λa b=>a < b:=List.pairwise_lt_range;have h2:((List.range B).filter λb=>decide ((g b).length=mx - k)).Pairwise λa b=>a < b:=h1.filter _;refine h2.imp_of_mem λ{a b} ha hb h=> ?_;have ea:=D4 (M0.mp ha).2;have eb:=D4 (M0.mp hb).2;unfold Ek;omega
  ·obtain⟨a1,j,a2,a3⟩:=(w_7 k).mp ha;obtain⟨b1,b2⟩:=mem_szs.mp hb;unfold Ek;omega
def r_0(hB:B<=1000){k:Nat}(hk:k<=mx + 1):(Bs g B mx k).Nodup:=(ae_0 hB k hk).imp λ{a b} h e=>by rw[e]at h;omega
def bp_7{os:List Nat}(hB:B<=1000)(nd:os.Nodup)(lt:∀b∈os,b < B)(mem:∀b,b∈os↔g b≠ [])(hx:∀b,b < B->(g b).length<=mx):(Bs g B mx mx).Perm os:=by
 refine(List.perm_ext_iff_of_nodup (r_0 hB ()) nd).mpr λb=> ?_;rw[w_7,mem];constructor
 ·rintro ⟨h,j,h1,h2⟩ e
  rw[e,P6]at h2;omega
 ·intro h;have hb:=lt b ((mem b).mpr h);have hp:=List.length_pos_iff.mpr h;have:=hx b hb;exact⟨hb,mx - (g b).length,by omega,by omega⟩
theorem au_0{F:AF}{f:Nat->Int}:∀{os:List Nat},(∀b∈os,F [.int (b:Int)]=.ok (.sh (.int (f b))))->w_2 F (os.map λ(b:Nat)=>D.int (b:Int))=.ok (os.map λ(b:Nat)=>(f b,D.int (b:Int)))
 | [],_=>rfl
 |b::os,h=>by
  rw[B1,w_2,h b (by simp),R.bind_ok,W.d_sh];simp only;rw[au_0 λq hq=>h q (by simp[hq])];rfl
def cr_8{fb:FE}{δ:DE}{d:D}{x y:Int}(h:fb (δ ++ [some d])=.ok (.sh (.tup [.int x,.int y])))(h0:0<=y/\y < 4611686018427387904):x_1 fb δ [d]=.ok (.sh (.int (x * 4611686018427387904 + y))):=by
 unfold x_1;dsimp only;rw[h];exact if_pos h0
def cr_9{os:List Nat}(hB:B<=1000)(lt:∀b∈os,b < B){a0 a1 a2 a4 a5 a6 a7 a8:Option D}:∀b∈os,x_1 b_5 [a0,a1,a2,some (.dic (Ce g os)),a4,a5,a6,a7,a8] [.int (b:Int)]=.ok (.sh (.int (Ek g b))):=λb hb=>by
 have e:b_5 ([a0,a1,a2,some (.dic (Ce g os)),a4,a5,a6,a7,a8] ++ [some (.int (b:Int))])=.ok (.sh (.tup [.int (-((g b).length:Int)),.int (b:Int)])):=by
  have h1:=ca_3 (g:=g) hb;show b_5 [a0,a1,a2,some (.dic (Ce g os)),a4,a5,a6,a7,a8,some (.int (b:Int))]=_
  simp![b_5,Ao,h1,Ff,A3,eNeg,negD]
 have hb1:=lt b hb;exact cr_8 e ()
def cs_0{os:List Nat}(pm:(Bs g B mx mx).Perm os)(so:(Bs g B mx mx).Pairwise λa b=>Ek g a < Ek g b):((os.map λ(b:Nat)=>(Ek g b,D.int (b:Int))).map (·.1)).Nodup/\Fq (os.map λ(b:Nat)=>(Ek g b,D.int (b:Int)))=(Bs g B mx mx).map λ(b:Nat)=>(Ek g b,D.int (b:Int)):=by
 generalize Ek g=kf at so⊢;have ndk:((os.map λ(b:Nat)=>(kf b,D.int (b:Int))).map (·.1)).Nodup:=by
  rw[J6];refine(pm.map (kf)).nodup_iff.mp ?_;exact V4.mpr (so.imp λ{a b} h=>by omega)
 have e2:Fq (os.map λ(b:Nat)=>(kf b,D.int (b:Int)))=(Bs g B mx mx).map λ(b:Nat)=>(kf b,D.int (b:Int)):=
  (bb_6 (y_5 (R:=Eq) (λp q e=>by rw[e]) (al_5 (os.map λ(b:Nat)=>(kf b,D.int (b:Int)))) (pm.map _) (ad_5 _) ndk (V4.mpr (so.imp λ{a b} h=>by show kf a<=kf b;omega)) (w_3 _))).symm
 exact⟨ndk,e2⟩
def cs_1{os:List Nat}(hB:B<=1000)(nd:os.Nodup)(lt:∀b∈os,b < B)(mem:∀b,b∈os↔g b≠ [])(hx:∀b,b < B->(g b).length<=mx)(hl:os.length < 64){a0 a1 a2 a4 a5 a6 a7 a8:Option D}:y_6 b_5 (Ab 3) [a0,a1,a2,some (.dic (Ce g os)),a4,a5,a6,a7,a8]=.ok (.ow (.lst (Dh (Bs g B mx mx)))):=by
 have hk:=cr_9 (g:=g) (a0:=a0) (a1:=a1) (a2:=a2) (a4:=a4) (a5:=a5) (a6:=a6) (a7:=a7) (a8:=a8) hB lt;have pm:=bp_7 hB nd lt mem hx;have so:=ae_0 (g:=g) (B:=B) (mx:=mx) hB mx ();obtain⟨ndk,e2⟩:=cs_0 pm so;have e1:(Ce g os).map (λp=>kD p.1)=os.map λ(b:Nat)=>D.int (b:Int):=by
  unfold Ce;rw[J6];rfl
 have ev:Ab 3 [a0,a1,a2,some (.dic (Ce g os)),a4,a5,a6,a7,a8]=.ok (.sh (.dic (Ce g os))):=Eq.refl _;generalize hF:x_1 b_5 [a0,a1,a2,some (.dic (Ce g os)),a4,a5,a6,a7,a8]=F at hk;unfold y_6;rw[ev];simp only[R.bind_ok,W.d_sh,hF];unfold ba_6;rw[e1,au_0 hk];simp only;rw[if_pos ⟨by rw[A3];exact hl,ndk⟩,e2,J6];rfl
end
def n_7(n io:Nat)(g:Nat->List Int):List Nat->List Int->(Nat->Nat)->Nat ⊕ (List Int×(Nat->Nat))
 | [],T,M=> .inr (T,M)
 |b::r,T,M=>match j_8 n io T (g b) with
  |none=> .inl b
  |some s=>n_7 n io g r (T ++ (g b).map (Bj n (s:Int))) λq=>if q=b then s else M q
section
variable{n io:Nat}{g:Nat->List Int}
def cs_2(a:List Nat):∀(T:List Int) (M:Nat->Nat) (b:List Nat),n_7 n io g (a ++ b) T M=match n_7 n io g a T M with
  | .inl q=> .inl q
  | .inr p=>n_7 n io g b p.1 p.2:=by
 induction a with
 |nil=>intro T M b;rfl
 |cons x a ih=>
  intro T M b;rw[Q8,n_7,n_7];cases j_8 n io T (g x) with
  |none=>rfl
  |some s=>exact ih _ _ b
def cg_1(hm:1<=io)(T:List Int):j_8 n io T []=some 0:=by
 obtain⟨k,rfl⟩:∃k,io=k + 1:=⟨io - 1,by omega⟩;unfold j_8;rw[List.range_succ_eq_map,N6];have:Df T (([]:List Int).map (Bj n ((0:Nat):Int)))=true:=F5 ⟨R3,λr hr=>by simp at hr⟩;rw[this]
theorem bp_8(hm:1<=io):∀(l:List Nat) (T:List Int) (M:Nat->Nat),(∀b∈l,g b= []/\M b=0)->n_7 n io g l T M=.inr (T,M)
 | [],_,_,_=>rfl
 |b::l,T,M,h=>by
  obtain⟨h1,h2⟩:=h b (by simp);rw[n_7,h1,cg_1 hm];simp only[M3,D7];have:(λq=>if q=b then 0 else M q)=M:=funext λq=>by
   by_cases e:q=b
   ·rw[if_pos e,e,h2]
   ·rw[if_neg e]
  rw[this];exact bp_8 hm l T M λq hq=>h q (by simp[hq])
structure Dealt(n io:Nat)(g:Nat->List Int)(l:List Nat)(T:List Int)(M:Nat->Nat)(T':List Int)(M':Nat->Nat):Prop where
 out:∀q,q∉l->M' q=M q
 bd:∀q∈l,M' q < io
 eq:T'=T ++ l.flatMap λb=>(g b).map (Bj n (M' b:Int))
 nd:T.Nodup->T'.Nodup
theorem bh_7:∀(l:List Nat) (T:List Int) (M:Nat->Nat) (T':List Int) (M':Nat->Nat),l.Nodup->n_7 n io g l T M=.inr (T',M')->Dealt n io g l T M T' M'
 | [],T,M,T',M',_,e=>by
  cases e;exact⟨λ_ _=>rfl,λq hq=>by simp at hq,by simp,λh=>h⟩
 |b::l,T,M,T',M',nd,e=>by
  rw[n_7]at e;obtain⟨n1,n2⟩:=J8.mp nd;cases h:j_8 n io T (g b) with
  |none=>rw[h]at e;cases e
  |some s=>
   rw[h]at e;obtain⟨s1,s2,_⟩:=aa_7 h;have s2:=D4 s2;have d:=bh_7 l _ _ T' M' n2 e;have mb:M' b=s:=by rw[d.out b n1,if_pos rfl]
   refine⟨λq hq=> ?_,λq hq=> ?_, ?_,λhT=>d.nd ?_⟩
   ·rw[d.out q (λz=>hq (by simp[z])),if_neg (λz=>hq (by simp[z]))]
   ·rcases C4.mp hq with rfl|hq
    ·rw[mb];exact s1
    ·exact d.bd q hq
   ·rw[d.eq,List.flatMap_cons,M9,mb]
   ·exact V3.mpr ⟨hT,s2.1,λa ha c hc z=>s2.2 c hc (z▸ha)⟩
end
def Cb(P:List Nat)(M:Nat->Nat):List (Ak×D):=P.map λ(b:Nat)=>(Sum.inl (b:Int),D.int (M b:Int))
def dm_5{P:List Nat}{M:Nat->Nat}{b s:Nat}(h:b∉P):Eh (Cb P M) (.inl (b:Int)) (.int (s:Int))=Cb (P ++ [b]) λq=>if q=b then s else M q:=by
 have e1:((Cb P M).any λkv=>decide (kv.1=Sum.inl (b:Int)))=false:=by
  rw[Z3];intro kv hkv z;obtain⟨q,hq,rfl⟩:=F4.mp hkv;exact h (by rw[<-inl_ne.mp (D4 z)];exact hq)
 unfold Eh;rw[e1,if_neg A7];unfold Cb;rw[F1,List.map_singleton];simp only[if_true];refine K5 (· ++ _) (E7 λq hq=> ?_);rw[if_neg (λz:q=b=>h (z▸hq))]
def dm_6(P:List Nat)(M:Nat->Nat):(Cb P M).length=P.length:=A3 _
theorem bb_7{α:Type}(f:α->Ak×D):∀l:List α,Tn.lendsK (l.map λa=>((f a).1,Tn.sh (f a).2))=true
 | []=>by simp only[M3,Tn.lendsK]
 |a::l=>by simp only[B1,Tn.lendsK,Tn.lends,bb_7 f l,Bool.and_self]
def cg_2(kds:List (Ak×D)):(Tn.of (.dic kds)).lends=true:=by
 show Tn.lends (.dic (kds.map λp=>(p.1,.sh p.2)))=true;simp only[Tn.lends];exact bb_7 (λp:Ak×D=>p) kds
def Fw(b:Nat):Xn:=⟨"NoFit",["at"],[.int (b:Int)]⟩
section
variable{n io:Nat}{g:Nat->List Int}
def Rms.app{T R:List Int}(h:Rms n T)(hR:Rms n R):Rms n (T ++ R):=λx hx=>(J7.mp hx).elim (h x) (hR x)
def Rms.rm(h1:1<=n)(s:Int)(X:List Int):Rms n (X.map (Bj n s)):=λr hr=>by
 obtain⟨x,_,rfl⟩:=F4.mp hr;exact z_3 s x h1
theorem au_1{body:FS}{st:List Int->Sl->SE}{s:Nat}(h1:1<=n)(hn:n<=1000)
  (hg:∀T a x,gV 8 (.int x) (st T a)=.ok (st T (.sh (.int x))))
  (hb:∀T x,Rms n T->Bj n (s:Int) x∉T->T.length < 100000->body (st T (.sh (.int x)))=.nx (st (T ++ [Bj n (s:Int) x]) (.sh (.int x)))):∀(X T:List Int) (a:Sl),Rms n T->(X.map (Bj n (s:Int))).Nodup->(∀r∈X.map (Bj n (s:Int)),r∉T)->T.length + X.length < 100000->∃a',Bx (gV 8) body (X.map .int) (st T a)=.nx (st (T ++ X.map (Bj n (s:Int))) a')
 | [],T,a,_,_,_,_=>⟨a,by rw[M3,M3,D7];rfl⟩
 |x::X,T,a,hT,nd,no,hl=>by
  rw[B1]at nd no;obtain⟨n1,n2⟩:=J8.mp nd;rw[C6]at hl;obtain⟨a',e⟩:=au_1 h1 hn hg hb X (T ++ [Bj n (s:Int) x]) (.sh (.int x)) (hT.snoc (z_3 _ _ h1)) n2 (λr hr q=>by
   rcases J7.mp q with q|q
   ·exact no r (by simp only[C4];exact .inr hr) q
   ·rw[K7.mp q]at hr;exact n1 hr) (by rw[B5,L8];omega)
  refine⟨a', ?_⟩;rw[B1,Fo (hg T a x) (hb T x hT (no _ (by simp)) ()),e,M9,B1];rfl
def Db(L:List Int)(Bd:D)(io:Nat)(kd:List (Ak×D))(T:List Int)(N:List (Ak×D))(a6 a7 a8:Sl):SE:=[.sh (.lst (L.map .int)),.sh Bd,.sh (.int (io:Int)),.sh (.dic kd),.ow (.dic (Bg T)),.ow (.dic N),a6,a7,a8]
def cs_3{L:List Int}{Bd:D}{kd N:List (Ak×D)}{a6:Sl}{s:Nat}(h1:1<=L.length)(hL:L.length<=1000)(hs:s<=1000)(T:List Int)(x:Int)(hT:Rms L.length T)(no:Bj L.length (s:Int) x∉T)(hl:T.length < 100000):
  f_0 (Db L Bd io kd T N a6 (.sh (.int (s:Int))) (.sh (.int x)))=.nx (Db L Bd io kd (T ++ [Bj L.length (s:Int) x]) N a6 (.sh (.int (s:Int))) (.sh (.int x))):=by
 have e1:=ad_9 L.length (s:Int) x () () h1;have hz:(Bg T).length < 16777216:=by rw[aj_5];omega
 have hp:=aj_4 hT hL (z_3 (s:Int) x h1) no
 simp![f_0,Db,u_5,Ao,Ff,A3,e1,Dn,hz,hp,if_true]
theorem bb_8{L:List Int}{B:Nat}{os:List Nat}(h1:1<=L.length)(hL:L.length<=1000)(hm:io<=1000)(hg:∀b,(g b).length<=1000){Bd:D}:∀(l P:List Nat) (T:List Int) (M:Nat->Nat) (a6 a7 a8:Sl),(∀b∈l,b∈os)->(P ++ l).Nodup->Rms L.length T->T.length + 1001 * l.length < 90000->P.length + l.length<=1000->
  match n_7 L.length io g l T M with
  | .inl q=>∃Δ',Bx (gV 6) b_8 (Dh l) (Db L Bd io (Ce g os) T (Cb P M) a6 a7 a8)=.ex (Fw q) Δ'
  | .inr p=>∃b6 b7 b8,Bx (gV 6) b_8 (Dh l) (Db L Bd io (Ce g os) T (Cb P M) a6 a7 a8)=.nx (Db L Bd io (Ce g os) p.1 (Cb (P ++ l) p.2) b6 b7 b8)
 | [],P,T,M,a6,a7,a8,_,_,_,_,_=>⟨a6,a7,a8,by rw[D7];rfl⟩
 |b::l,P,T,M,a6,a7,a8,hos,nd,hT,hl,hP=>by
  have hfg:gV 6 (.int (b:Int)) (Db L Bd io (Ce g os) T (Cb P M) a6 a7 a8)=.ok (Db L Bd io (Ce g os) T (Cb P M) (.sh (.int (b:Int))) a7 a8):=rfl;have fj:=ca_3 (g:=g) (hos b (by simp));have hle:=cr_3 (X:=g b) h1 hL hm hT (hg b);have hno:b∉P:=λz=>(V3.mp nd).2.2 b z b (by simp) rfl;rw[C6]at hl hP;have q1:bo_3 7 (bo_2 [4] (Bc 4 i_1 #v[Ag Em (Ab 3) (Ab 6),Ah Cs #v[0],4,2])) (Db L Bd io (Ce g os) T (Cb P M) (.sh (.int (b:Int))) a7 a8)=.nx (Db L Bd io (Ce g os) T (Cb P M) (.sh (.int (b:Int))) (.sh (numD (j_8 L.length io T (g b)))) a8):=by
   have hv:Fj [4] (Db L Bd io (Ce g os) T (Cb P M) (.sh (.int (b:Int))) a7 a8)= [some (.lst (L.map .int)),some Bd,some (.int (io:Int)),some (.dic (Ce g os)),some (.dic (Bg T)),none,some (.int (b:Int)),a7.pub,a8.pub]:=rfl;have hld:y_4 [4] (Db L Bd io (Ce g os) T (Cb P M) (.sh (.int (b:Int))) a7 a8)=true:=by
    show((Tn.of (.dic (Bg T))).lends && true)=true;rw[cg_2];rfl
   have he:Bc 4 i_1 #v[Ag Em (Ab 3) (Ab 6),Ah Cs #v[0],4,2] [some (.lst (L.map .int)),some Bd,some (.int (io:Int)),some (.dic (Ce g os)),some (.dic (Bg T)),none,some (.int (b:Int)),a7.pub,a8.pub]=.ok (.sh (numD (j_8 L.length io T (g b)))):=by
    simp![Ao,fj,Ff,A3,hle]
   have hpl:bt_9 (.sh (numD (j_8 L.length io T (g b))))=true:=by
    cases j_8 L.length io T (g b) <;> rfl
   unfold bo_3 bo_2;rw[hld,if_pos rfl,hv,he];simp only[hpl,if_true];rfl
  rw[n_7];cases e:j_8 L.length io T (g b) with
  |none=>
   rw[e]at q1;refine⟨_,ds_0 hfg (Δ2:=Db L Bd io (Ce g os) T (Cb P M) (.sh (.int (b:Int))) (.sh .non) a8) ?_⟩;unfold b_8;rw[Bl q1]
   simp![Db,numD,Ao,w_0,Fw]
  |some s=>
   rw[e]at q1;obtain⟨s1,s2,_⟩:=aa_7 e;have s2:=D4 s2;have q2:Cm [7] (Am (Ag (isND false) (Ab 7) (eC .non))) (w_0 "NoFit" "at" [6] (Ab 6)) Bi (Db L Bd io (Ce g os) T (Cb P M) (.sh (.int (b:Int))) (.sh (.int (s:Int))) a8)=.nx (Db L Bd io (Ce g os) T (Cb P M) (.sh (.int (b:Int))) (.sh (.int (s:Int))) a8):=by
    simp![Db,Ao]
   have hz:(Cb P M).length < 16777216:=by rw[dm_6];omega
   have q3:u_5 5 [7] (Ab 6) (Ab 7) (Db L Bd io (Ce g os) T (Cb P M) (.sh (.int (b:Int))) (.sh (.int (s:Int))) a8)=.nx (Db L Bd io (Ce g os) T (Cb (P ++ [b]) λq=>if q=b then s else M q) (.sh (.int (b:Int))) (.sh (.int (s:Int))) a8):=by
    simp![Db,u_5,Ao,Dn,hz,if_true,dm_5 hno]
   obtain⟨c8,e4⟩:=au_1 (st:=λT a=>Db L Bd io (Ce g os) T (Cb (P ++ [b]) λq=>if q=b then s else M q) (.sh (.int (b:Int))) (.sh (.int (s:Int))) a) (body:=f_0) (s:=s) h1 hL (λ_ _ _=>rfl) (λT x hT no hl=>cs_3 h1 hL () T x hT no hl) (g b) T a8 hT s2.1 s2.2 (by have:=hg b;omega);have q4:Bw [3,6] (Bo (Ag Em (Ab 3) (Ab 6))) (gV 8) f_0 (Db L Bd io (Ce g os) T (Cb (P ++ [b]) λq=>if q=b then s else M q) (.sh (.int (b:Int))) (.sh (.int (s:Int))) a8)=.nx (Db L Bd io (Ce g os) (T ++ (g b).map (Bj L.length (s:Int))) (Cb (P ++ [b]) λq=>if q=b then s else M q) (.sh (.int (b:Int))) (.sh (.int (s:Int))) c8):=by
    have hi:Bo (Ag Em (Ab 3) (Ab 6)) (Bf (Db L Bd io (Ce g os) T (Cb (P ++ [b]) λq=>if q=b then s else M q) (.sh (.int (b:Int))) (.sh (.int (s:Int))) a8))=.ok ((g b).map .int):=by
     simp![Db,Ao,fj]
    unfold Bw;rw[hi];exact e4
   have hb:b_8 (Db L Bd io (Ce g os) T (Cb P M) (.sh (.int (b:Int))) a7 a8)=.nx (Db L Bd io (Ce g os) (T ++ (g b).map (Bj L.length (s:Int))) (Cb (P ++ [b]) λq=>if q=b then s else M q) (.sh (.int (b:Int))) (.sh (.int (s:Int))) c8):=by
    unfold b_8;rw[Bl q1,numD,Bl q2,Bl q3,q4]
   have ih:=bb_8 (os:=os) (B:=B) h1 hL hm hg (Bd:=Bd) l (P ++ [b]) (T ++ (g b).map (Bj L.length (s:Int))) (λq=>if q=b then s else M q) (.sh (.int (b:Int))) (.sh (.int (s:Int))) c8 (λq hq=>hos q (by simp[hq])) (by rw[M9];exact nd) (hT.app (Rms.rm h1 _ _)) (by rw[B5,A3];have:=hg b;omega) (by rw[B5,L8];omega);rw[M9,List.singleton_append]at ih;show match n_7 L.length io g l (T ++ (g b).map (Bj L.length (s:Int))) (λq=>if q=b then s else M q) with| .inl q=>_| .inr p=>_
   have ec:Bx (gV 6) b_8 (Dh (b::l)) (Db L Bd io (Ce g os) T (Cb P M) a6 a7 a8)=Bx (gV 6) b_8 (Dh l) (Db L Bd io (Ce g os) (T ++ (g b).map (Bj L.length (s:Int))) (Cb (P ++ [b]) λq=>if q=b then s else M q) (.sh (.int (b:Int))) (.sh (.int (s:Int))) c8):=Fo hfg hb;rw[ec];exact ih
end
def Cy(B:Nat)(M:Nat->Nat):List D:=(List.range B).map λ(b:Nat)=>D.int (M b:Int)
def Cl(ks:List D)(B io:Nat)(g:Nat->List Int)(T:List Int)(M:Nat->Nat)(a6 a7 a8:Sl):SE:=[.sh (.lst ks),.sh (.int (B:Int)),.sh (.int (io:Int)),.sh (.lst (Cn g B)),.ow (.dic (Bg T)),.ow (.lst (Cy B M)),a6,a7,a8]
section
variable{B io:Nat}{g:Nat->List Int}{ks:List D}
def cs_4{b:Nat}(hb:b < B):Ct (.lst (Cn g B)) (.int (b:Int))=.ok (.sh (.lst ((g b).map .int))):=n_4 (u_9 (by unfold Cn;rw[B3,E4 hb];rfl))
theorem al_6{b:Nat}(hb:b < B)(h1:1<=ks.length)(hn:ks.length<=1000)(hm:io<=1000){T:List Int}(hT:Rms ks.length T){M:Nat->Nat}(hg:(g b).length<=1000){a8:Sl}:∀(k s:Nat),s + k=io->(∀t,t < s->Df T ((g b).map (Bj ks.length (t:Int)))=false)->∀m:Nat,k < m->
  k_3 [0,2,3,4,6,7] k_7 t_7 m (Cl ks B io g T M (.sh (.int (b:Int))) (.sh (.int (s:Int))) a8)=.nx (Cl ks B io g T M (.sh (.int (b:Int))) (.sh (.int (((j_8 ks.length io T (g b)).getD io:Nat):Int))) a8)
 |0,s,hs,hno,m,hk=>by
  obtain⟨m,rfl⟩:∃j,m=j + 1:=⟨m - 1,by omega⟩;have:s=io:=by omega
  subst this;have e:j_8 ks.length s T (g b)=none:=List.find?_eq_none.mpr λt ht=>by rw[hno t (K0.mp ht)];exact A7
  rw[e];refine ba_1 ?_;have c:¬((s:Int) < (s:Int)):=by omega
  simp![k_7,Cl,Ao,ba_0,c,T3]
 |k + 1,s,hs,hno,m,hk=>by
  obtain⟨m,rfl⟩:∃j,m=j + 1:=⟨m - 1,by omega⟩;have c:(s:Int) < (io:Int):=by omega
  have hfe:=bp_5 h1 hn hT (s:=(s:Int)) () () (g b) hg;cases hf:Df T ((g b).map (Bj ks.length (s:Int))) with
  |true=>
   have e:j_8 ks.length io T (g b)=some s:=by
    cases q:j_8 ks.length io T (g b) with
    |none=>rw[cf_9 q s ()]at hf;cases hf
    |some t=>
     obtain⟨a1,a2,a3⟩:=aa_7 q;rcases S6 s t with z|z|z
     ·rw[a3 s z]at hf;cases hf
     ·rw[z]
     ·rw[hno t z]at a2;cases a2
   rw[e];refine ba_1 ?_
   simp![k_7,Cl,Ao,ba_0,c,O4,cs_4 hb,Ff,hfe,hf]
  |false=>
   have jk:∀t,t < s + 1->Df T ((g b).map (Bj ks.length (t:Int)))=false:=λt ht=>by
    rcases Nat.lt_succ_iff_lt_or_eq.mp ht with z|z
    ·exact hno t z
    ·subst z;exact hf
   rw[cm_8 (Δ':=Cl ks B io g T M (.sh (.int (b:Int))) (.sh (.int ((s + 1:Nat):Int))) a8) ?_ ?_]
   ·exact al_6 hb h1 hn hm hT hg k (s + 1) () jk m ()
   ·simp![k_7,Cl,Ao,ba_0,c,O4,cs_4 hb,Ff,hfe,hf]
   ·simp![t_7,Cl,Ao,i_4]
    rfl
def dd_1{s b:Nat}{M:Nat->Nat}(h1:1<=ks.length)(hn:ks.length<=1000)(hs:s<=1000)(T:List Int)(x:Int)(hT:Rms ks.length T)(no:Bj ks.length (s:Int) x∉T)(hl:T.length < 100000):
  k_8 (Cl ks B io g T M (.sh (.int (b:Int))) (.sh (.int (s:Int))) (.sh (.int x)))=.nx (Cl ks B io g (T ++ [Bj ks.length (s:Int) x]) M (.sh (.int (b:Int))) (.sh (.int (s:Int))) (.sh (.int x))):=by
 have e1:d_5 [.int x,.int ((s:Int) + 1),.int (ks.length:Int)]=.ok (.sh (.int (Bj ks.length (s:Int) x))):=(r_7 x ((s:Int) + 1) (ks.length:Int) () () ()).2;have hz:(Bg T).length < 16777216:=by rw[aj_5];omega
 have hp:=aj_4 hT hn (z_3 (s:Int) x h1) no
 simp![k_8,Cl,u_5,Ao,Ff,i_4,e1,Dn,hz,hp,if_true]
def bh_8(M:Nat->Nat):(Cy B M).length=B:=by unfold Cy;rw[A3,K1]
theorem bp_9(h1:1<=ks.length)(hn:ks.length<=1000)(hm:io<=1000)(hg:∀b,(g b).length<=1000):∀(l:List Nat) (T:List Int) (M:Nat->Nat) (a6 a7 a8:Sl),(∀b∈l,b < B)->Rms ks.length T->T.length + 1001 * l.length < 99000->
  match n_7 ks.length io g l T M with
  | .inl q=>Bx (gV 6) e_2 (Dh l) (Cl ks B io g T M a6 a7 a8)=.rt (.sh (.int (q:Int)))
  | .inr p=>∃b6 b7 b8,Bx (gV 6) e_2 (Dh l) (Cl ks B io g T M a6 a7 a8)=.nx (Cl ks B io g p.1 p.2 b6 b7 b8)
 | [],T,M,a6,a7,a8,_,_,_=>⟨a6,a7,a8,rfl⟩
 |b::l,T,M,a6,a7,a8,hos,hT,hl=>by
  have hfg:gV 6 (.int (b:Int)) (Cl ks B io g T M a6 a7 a8)=.ok (Cl ks B io g T M (.sh (.int (b:Int))) a7 a8):=rfl;have hb:=hos b (by simp);have hgb:=hg b;rw[C6]at hl;have q1:Aj 7 [] (eC (.int 0)) (Cl ks B io g T M (.sh (.int (b:Int))) a7 a8)=.nx (Cl ks B io g T M (.sh (.int (b:Int))) (.sh (.int ((0:Nat):Int))) a8):=rfl;have q2:=al_6 (M:=M) (a8:=a8) hb h1 hn hm hT hgb io 0 () (λt ht=>absurd ht (Nat.not_lt_zero t)) 3000 ();rw[n_7];cases e:j_8 ks.length io T (g b) with
  |none=>
   rw[e]at q2;refine cr_1 hfg ?_;unfold e_2;rw[Bl q1,Bl q2]
   simp![ZA2,Cl,Ao,n_3,O4]
  |some s=>
   rw[e]at q2;rw[Option.getD_some]at q2;obtain⟨s1,s2,_⟩:=aa_7 e;have s2:=D4 s2;have c:¬((s:Int)=(io:Int)):=by omega
   have q3:Cm [2,7] (Am (Ag Ez (Ab 7) (Ab 2))) (By 6) Bi (Cl ks B io g T M (.sh (.int (b:Int))) (.sh (.int (s:Int))) a8)=.nx (Cl ks B io g T M (.sh (.int (b:Int))) (.sh (.int (s:Int))) a8):=by
    simp![Cl,Ao,n_3,c,T3]
   have q4:bl_2 5 (Ab 6) (Ab 7) (Cl ks B io g T M (.sh (.int (b:Int))) (.sh (.int (s:Int))) a8)=.nx (Cl ks B io g T (λq=>if q=b then s else M q) (.sh (.int (b:Int))) (.sh (.int (s:Int))) a8):=by
    have hst:(Cy B M).set b (.int (s:Int))=Cy B λq=>if q=b then s else M q:=by
     unfold Cy;rw[bb_5];refine E7 λq _=> ?_
     by_cases z:q=b
     ·simp only[z,if_true]
     ·simp only[z,L9]
    have hx:ixN (Cy B M).length (b:Int)=some b:=by rw[bh_8];exact df_3 hb
    simp![bl_2,Cl,Ao,Ay,hx,hst,if_true]
   obtain⟨c8,e4⟩:=au_1 (st:=λT a=>Cl ks B io g T (λq=>if q=b then s else M q) (.sh (.int (b:Int))) (.sh (.int (s:Int))) a) (body:=k_8) (s:=s) h1 hn (λ_ _ _=>rfl) (λT x hT no hl=>dd_1 h1 hn () T x hT no hl) (g b) T a8 hT s2.1 s2.2 ();have q5:Bw [3,6] (Bo (Ag Ct (Ab 3) (Ab 6))) (gV 8) k_8 (Cl ks B io g T (λq=>if q=b then s else M q) (.sh (.int (b:Int))) (.sh (.int (s:Int))) a8)=.nx (Cl ks B io g (T ++ (g b).map (Bj ks.length (s:Int))) (λq=>if q=b then s else M q) (.sh (.int (b:Int))) (.sh (.int (s:Int))) c8):=by
    have hi:Bo (Ag Ct (Ab 3) (Ab 6)) (Bf (Cl ks B io g T (λq=>if q=b then s else M q) (.sh (.int (b:Int))) (.sh (.int (s:Int))) a8))=.ok ((g b).map .int):=by
     simp![Cl,Ao,cs_4 hb]
    unfold Bw;rw[hi];exact e4
   have hbd:e_2 (Cl ks B io g T M (.sh (.int (b:Int))) a7 a8)=.nx (Cl ks B io g (T ++ (g b).map (Bj ks.length (s:Int))) (λq=>if q=b then s else M q) (.sh (.int (b:Int))) (.sh (.int (s:Int))) c8):=by
    unfold e_2;rw[Bl q1,Bl q2,Bl q3,Bl q4,q5]
   have ih:=bp_9 h1 hn hm hg l (T ++ (g b).map (Bj ks.length (s:Int))) (λq=>if q=b then s else M q) (.sh (.int (b:Int))) (.sh (.int (s:Int))) c8 (λq hq=>hos q (by simp[hq])) (hT.app (Rms.rm h1 _ _)) (by rw[B5,A3];omega);have ec:Bx (gV 6) e_2 (Dh (b::l)) (Cl ks B io g T M a6 a7 a8)=Bx (gV 6) e_2 (Dh l) (Cl ks B io g (T ++ (g b).map (Bj ks.length (s:Int))) (λq=>if q=b then s else M q) (.sh (.int (b:Int))) (.sh (.int (s:Int))) c8):=Fo hfg hbd;rw[ec];exact ih
end
def Ei(p n:Nat):List Int:=(List.range n).map λk=>((p + k:Nat):Int)
theorem ca_4:∀(n:Nat) (l:List Int),l.Nodup->(∀x∈l,0<=x/\x < (n:Int))->l.length<=n
 |0,l,_,hb=>by
  cases l with
  |nil=>exact A8 _
  |cons x l=>have:=hb x (by simp);omega
 |n + 1,l,nd,hb=>by
  by_cases c:(n:Int)∈l
  ·have h1:=(List.perm_cons_erase c).length_eq;have h2:=ca_4 n (l.erase (n:Int)) (nd.erase _) (λx hx=>by
    have hm:=(ZA0 nd).mp hx;have:=hb x hm.2;have:=hm.1;omega)
   rw[C6]at h1;omega
  ·have:=ca_4 n l nd (λx hx=>by
    have:=hb x hx;have:x≠(n:Int):=λe=>c (e▸hx);omega)
   omega
theorem ca_5:∀(n:Nat) (l:List Int),l.Nodup->(∀x∈l,0<=x/\x < (n:Int))->l.length=n->l.Perm (Ei 0 n)
 |0,l,_,hb,hl=>by rw[R4 hl];exact List.Perm.refl _
 |n + 1,l,nd,hb,hl=>by
  have c:(n:Int)∈l:=Decidable.byContradiction λc=>by
   have:=ca_4 n l nd (λx hx=>by
    have:=hb x hx;have:x≠(n:Int):=λe=>c (e▸hx);omega)
   omega
  have h1:=List.perm_cons_erase c;have h2:=ca_5 n (l.erase (n:Int)) (nd.erase _) (λx hx=>by
    have hm:=(ZA0 nd).mp hx;have:=hb x hm.2;have:=hm.1;omega) (by have:=h1.length_eq;rw[C6]at this;omega)
  have h3:Ei 0 (n + 1)=Ei 0 n ++ [(n:Int)]:=by
   unfold Ei;rw[List.range_succ,F1];simp
  rw[h3];exact(h1.trans (h2.cons _)).trans (List.perm_append_singleton _ _).symm
def Fb(B io:Nat)(L:List Int)(mx:Nat):Nat ⊕ (List Int×(Nat->Nat)):=n_7 L.length io (Bb B L) (Bs (Bb B L) B mx mx) [] λ_=>0
def au_3{B:Nat}{L:List Int}(h:L.length<=1000)(b:Nat):(Bb B L b).length<=1000:=C7 (bh_5 B L b) h
def ca_6{g:Nat->List Int}{B mx k:Nat}(hB:B<=60)(hk:k<=mx + 1):(Bs g B mx k).length<=B:=by
 have hn:=r_0 (g:=g) (show B<=1000 by omega) hk;have:=ca_4 B ((Bs g B mx k).map λ(b:Nat)=>(b:Int)) (V4.mpr (hn.imp λ{a b} h z=>h ())) λx hx=>by
  obtain⟨b,hb,rfl⟩:=F4.mp hx;have:=((w_7 k).mp hb).1;omega
 rwa[A3]at this
def aw_7{B io mx:Nat}{L:List Int}(hB:1<=B)(hB2:B<=60)(h1:1<=L.length)(hL:L.length<=60)(hm:io<=1000)(hx:∀b,b < B->(Bb B L b).length<=mx):d_1 [.lst (L.map .int),.int (B:Int),.int (io:Int)]=match Fb B io L mx with
  | .inl q=> .ex (Fw q)
  | .inr p=> .ok (.ow (.dic (Cb (Bs (Bb B L) B mx mx) p.2))):=by
 obtain⟨os,zm,w,e1,hg,hl,hw⟩:=bh_6 hB L ();have hw:=hw (λz=>by rw[z]at h1;simp at h1);subst hw;rw[hg.eq]at e1;have q1:Aj 3 [0,1] (Bc 2 g_4 #v[0,1]) (Av 9 [.lst (L.map .int),.int (B:Int),.int (io:Int)])=.nx [.sh (.lst (L.map .int)),.sh (.int (B:Int)),.sh (.int (io:Int)),.tr (.dic (gkT (Bb B L) os)),.no,.no,.no,.no,.no]:=by
  simp![Ao,e1]
 have q2:Aj 4 [] u_4 [.sh (.lst (L.map .int)),.sh (.int (B:Int)),.sh (.int (io:Int)),.tr (.dic (gkT (Bb B L) os)),.no,.no,.no,.no,.no]=.nx [.sh (.lst (L.map .int)),.sh (.int (B:Int)),.sh (.int (io:Int)),.tr (.dic (gkT (Bb B L) os)),.ow (.dic (Bg [])),.no,.no,.no,.no]:=rfl;have q3:Aj 5 [] u_4 [.sh (.lst (L.map .int)),.sh (.int (B:Int)),.sh (.int (io:Int)),.tr (.dic (gkT (Bb B L) os)),.ow (.dic (Bg [])),.no,.no,.no,.no]=.nx [.sh (.lst (L.map .int)),.sh (.int (B:Int)),.sh (.int (io:Int)),.tr (.dic (gkT (Bb B L) os)),.ow (.dic (Bg [])),.ow (.dic (Cb [] λ_=>0)),.no,.no,.no]:=rfl;have ho:=cs_1 (a0:=some (.lst (L.map .int))) (a1:=some (.int (B:Int))) (a2:=some (.int (io:Int))) (a4:=none) (a5:=none) (a6:=none) (a7:=none) (a8:=none) () hg.nd (hg.lt hB) hg.mem hx ();have pm:=bp_7 () hg.nd (hg.lt hB) hg.mem hx;have hol:=ca_6 (g:=Bb B L) (mx:=mx) (k:=mx) hB2 ();have hd:=bb_8 (g:=Bb B L) (os:=os) (B:=B) (Bd:=.int (B:Int)) h1 () hm (au_3 ()) (Bs (Bb B L) B mx mx) [] [] (λ_=>0) .no .no .no (λb hb=>pm.mem_iff.mp hb) (by rw[P5];exact r_0 () ()) (λ_ h=>by simp at h) (by simp;omega) (by simp;omega);have hf:∀r,Bx (gV 6) b_8 (Dh (Bs (Bb B L) B mx mx)) (Db L (.int (B:Int)) io (Ce (Bb B L) os) [] (Cb [] λ_=>0) .no .no .no)=r->Bw [3] (Bo (y_6 b_5 (Ab 3))) (gV 6) b_8 [.sh (.lst (L.map .int)),.sh (.int (B:Int)),.sh (.int (io:Int)),.tr (.dic (gkT (Bb B L) os)),.ow (.dic (Bg [])),.ow (.dic (Cb [] λ_=>0)),.no,.no,.no]=r:=λr e=>by
  have hgs:gsome [3] [.sh (.lst (L.map .int)),.sh (.int (B:Int)),.sh (.int (io:Int)),.tr (.dic (gkT (Bb B L) os)),.ow (.dic (Bg [])),.ow (.dic (Cb [] λ_=>0)),.no,.no,.no]=Db L (.int (B:Int)) io (Ce (Bb B L) os) [] (Cb [] λ_=>0) .no .no .no:=by
   show [.sh (.lst (L.map .int)),.sh (.int (B:Int)),.sh (.int (io:Int)),Sl.sh ((Tn.dic (gkT (Bb B L) os)).d),.ow (.dic (Bg [])),.ow (.dic (Cb [] λ_=>0)),.no,.no,.no]=_;rw[gk_d];rfl
  have hi:Bo (y_6 b_5 (Ab 3)) (Bf (Db L (.int (B:Int)) io (Ce (Bb B L) os) [] (Cb [] λ_=>0) .no .no .no))=.ok (Dh (Bs (Bb B L) B mx mx)):=by
   unfold Bo;show((y_6 b_5 (Ab 3) [some (.lst (L.map .int)),some (.int (B:Int)),some (.int (io:Int)),some (.dic (Ce (Bb B L) os)),none,none,none,none,none]).bind _)=_;rw[ho];rfl
  have h0:Bo (y_6 b_5 (Ab 3)) (Bf [.sh (.lst (L.map .int)),.sh (.int (B:Int)),.sh (.int (io:Int)),.tr (.dic (gkT (Bb B L) os)),.ow (.dic (Bg [])),.ow (.dic (Cb [] λ_=>0)),.no,.no,.no])=.no:=rfl;unfold Bw;rw[hgs,hi];exact e
 unfold Fb;unfold d_1 Al q_0;rw[Bl q1,Bl q2,Bl q3];cases e:n_7 L.length io (Bb B L) (Bs (Bb B L) B mx mx) [] (λ_=>0) with
 |inl q=>
  rw[e]at hd;obtain⟨Δ',e2⟩:=hd;unfold Af;rw[hf _ e2]
 |inr p=>
  rw[e]at hd;obtain⟨b6,b7,b8,e2⟩:=hd;rw[Bl (hf _ e2)];rfl
def cs_5{B io mx:Nat}{ks:List D}(hk:∀k∈ks,isKey k)(hB:1<=B)(hB2:B<=60)(h1:1<=ks.length)(hL:ks.length<=60)(hm1:1<=io)(hm:io<=1000)(hmx:mx<=1000)(hx:∀b,b < B->(Bb B (ks.map As) b).length<=mx)(ht:h_2 [.lst (Cn (Bb B (ks.map As)) B)]=.ok (.ow (.lst (Dh (Bs (Bb B (ks.map As)) B mx (mx + 1)))))):p_0 [.lst ks,.int (B:Int),.int (io:Int)]=match Fb B io (ks.map As) mx with
  | .inl q=> .ok (.sh (.int (q:Int)))
  | .inr p=> .ok (.ow (.lst (Cy B p.2))):=by
 have hlm:(ks.map As).length=ks.length:=A3 _;have e1:=aw_6 hB () hk ();have hd0:n_7 ks.length io (Bb B (ks.map As)) (Bs (Bb B (ks.map As)) B mx (mx + 1)) [] (λ_=>0)=Fb B io (ks.map As) mx:=by
  unfold Fb;rw[hlm,Bs,cs_2];have hn0:∀b∈szs (Bb B (ks.map As)) B (mx - mx),Bb B (ks.map As) b= []:=λb hb=>by
   have:=(mem_szs.mp hb).2;exact R4 ()
  cases e:n_7 ks.length io (Bb B (ks.map As)) (Bs (Bb B (ks.map As)) B mx mx) [] (λ_=>0) with
  |inl q=>rfl
  |inr p=>
   have d:=bh_7 _ _ _ p.1 p.2 (r_0 () ()) e;refine(bp_8 hm1 _ p.1 p.2 λb hb=>⟨hn0 b hb,d.out b λz=> ?_⟩);obtain⟨_,j,j1,j2⟩:=(w_7 mx).mp z;rw[hn0 b hb,P6]at j2;omega
 generalize hg:Bb B (ks.map As)=g at *
 have hgl:∀b,(g b).length<=1000:=λb=>by rw[<-hg];exact au_3 () b
 have hol:=ca_6 (g:=g) (mx:=mx) (k:=mx + 1) hB2 (A8 _);have hd:=bp_9 (B:=B) (g:=g) (ks:=ks) h1 () hm hgl (Bs g B mx (mx + 1)) [] (λ_=>0) .no .no .no (λb hb=>((w_7 _).mp hb).1) (λ_ h=>by simp at h) (by simp;omega);rw[hd0]at hd;have q1:Aj 3 [0,1] (Bc 2 i_0 #v[0,1]) (Av 9 [.lst ks,.int (B:Int),.int (io:Int)])=.nx [.sh (.lst ks),.sh (.int (B:Int)),.sh (.int (io:Int)),.tr (.lst (De g B)),.no,.no,.no,.no,.no]:=by
  simp![Ao,e1]
 have q2:Aj 4 [] u_4 [.sh (.lst ks),.sh (.int (B:Int)),.sh (.int (io:Int)),.tr (.lst (De g B)),.no,.no,.no,.no,.no]=.nx [.sh (.lst ks),.sh (.int (B:Int)),.sh (.int (io:Int)),.tr (.lst (De g B)),.ow (.dic (Bg [])),.no,.no,.no,.no]:=rfl;have iz:repD [.int 0] (.int (B:Int))=.ok (.ow (.lst (Cy B λ_=>0))):=by
  unfold repD;simp only[C6,P6];rw[if_pos ⟨by omega,by omega⟩];have:(List.replicate (B:Int).toNat [D.int 0]).flatten=Cy B λ_=>0:=by
   rw[K8];unfold Cy;refine N2 λi=> ?_;have hfl:(List.replicate B [D.int 0]).flatten=List.replicate B (D.int 0):=by simp
   rw[hfl,B3,E8]
   by_cases hi:i < B
   ·rw[if_pos hi,E4 hi];rfl
   ·rw[if_neg hi,D5 (by simp;omega)];rfl
  rw[this]
 have q3:Aj 5 [1] (eRep #v[eC (.int 0)] (Ab 1)) [.sh (.lst ks),.sh (.int (B:Int)),.sh (.int (io:Int)),.tr (.lst (De g B)),.ow (.dic (Bg [])),.no,.no,.no,.no]=.nx [.sh (.lst ks),.sh (.int (B:Int)),.sh (.int (io:Int)),.tr (.lst (De g B)),.ow (.dic (Bg [])),.ow (.lst (Cy B λ_=>0)),.no,.no,.no]:=by
  simp![Ao,eRep,iz]
 have hf:∀r,Bx (gV 6) e_2 (Dh (Bs g B mx (mx + 1))) (Cl ks B io g [] (λ_=>0) .no .no .no)=r->Bw [3] (Bo (Bc 1 h_2 #v[3])) (gV 6) e_2 [.sh (.lst ks),.sh (.int (B:Int)),.sh (.int (io:Int)),.tr (.lst (De g B)),.ow (.dic (Bg [])),.ow (.lst (Cy B λ_=>0)),.no,.no,.no]=r:=λr e=>by
  have hgs:gsome [3] [.sh (.lst ks),.sh (.int (B:Int)),.sh (.int (io:Int)),.tr (.lst (De g B)),.ow (.dic (Bg [])),.ow (.lst (Cy B λ_=>0)),.no,.no,.no]=Cl ks B io g [] (λ_=>0) .no .no .no:=by
   show [.sh (.lst ks),.sh (.int (B:Int)),.sh (.int (io:Int)),Sl.sh ((Tn.lst (De g B)).d),.ow (.dic (Bg [])),.ow (.lst (Cy B λ_=>0)),.no,.no,.no]=_;rw[so_d];rfl
  have hi:Bo (Bc 1 h_2 #v[3]) (Bf (Cl ks B io g [] (λ_=>0) .no .no .no))=.ok (Dh (Bs g B mx (mx + 1))):=by
   simp![Cl,Ao,ht]
  unfold Bw;rw[hgs,hi];exact e
 unfold p_0 Al ak_8;rw[Bl q1,Bl q2,Bl q3];cases e:Fb B io (ks.map As) mx with
 |inl q=>
  rw[e]at hd;unfold Af;rw[hf _ hd]
 |inr p=>
  rw[e]at hd;obtain⟨b6,b7,b8,e2⟩:=hd;rw[Bl (hf _ e2)];rfl
abbrev La:List Str:=["how_many","many_buckets","by_bucket"]
def Ca(n B:Nat)(P:List Nat)(M:Nat->Nat):D:=.obj "Buckets" La [.int (n:Int),.int (B:Int),.dic (Cb P M)]
section
variable(n B:Nat)(P:List Nat)(M:Nat->Nat)(r:List (Option D))
def bh_9:Ep ["Buckets"] "how_many" (Ab 0) (some (Ca n B P M)::r)=.ok (.sh (.int (n:Int))):=by rfl'
def cs_6:Ep ["Buckets"] "many_buckets" (Ab 0) (some (Ca n B P M)::r)=.ok (.sh (.int (B:Int))):=by rfl'
def dd_2:Ep ["Buckets"] "by_bucket" (Ab 0) (some (Ca n B P M)::r)=.ok (.sh (.dic (Cb P M))):=by rfl'
end
def dm_7(F:AF):([("Buckets",F)]:List (Str×(AF))).lookup ("Buckets" :Str)=some F:=by rfl'
def r_8{n B:Nat}{P:List Nat}{M:Nat->Nat}(m:Str)(k:Nat)(F:AF)(fo:FE)(fa:FA)(δ:DE)(ds:List D)(hm:(La:List Str).contains m=false)(h1:fo δ=.ok (.sh (Ca n B P M)))(h2:fa δ=.ok ds)(h3:ds.length=k):Cz m k [("Buckets",F)] fo fa δ=F (Ca n B P M::ds):=by
 unfold Ca at h1⊢;simp only[Cz,h1,R.bind_ok,W.d_sh,hm,D8,L9,dm_7,h2,h3,if_true]
def cs_7(t:Tn):Sl.pub (.lt t)=none:=rfl
def ca_7{Δ:SE}{i:Nat}{cs:List Str}{f c:Str}{js:List Nat}{fe:FE}{ns:List Str}{ts:List Tn}{w:W}(hg:gsome js Δ=Δ)(h0:Δ[i]? =some (.lt (.obj c ns ts)))(hc:cs.contains c=true/\ns.contains f=false/\ns.length < 1000)(he:fe (Bf Δ)=.ok w):
  y_3 i cs f js fe Δ=.nx (Δ.set i (.lt (.obj c (ns ++ [f]) (ts ++ [.sh w.d])))):=by
 unfold y_3;rw[hg];simp only[h0,he,if_pos hc]
def cg_3(d:D):c_9 [d]=.ok (["how_many"],[d]):=by
 rfl'
def cs_8{Δ:SE}{i:Nat}{c:Str}{js:List Nat}{F:List D->R (List Str×List D)}{fe:FE}{w:W}{p:List Str×List D}(hg:gsome js Δ=Δ)(h0:Δ[i]? =some (.lt (.obj c [] [])))(he:fe (Bf Δ)=.ok w)(hF:F [w.d]=.ok p):
  ai_5 i c js F fe Δ=.nx (Δ.set i (.lt (.obj c p.1 (p.2.map .sh)))):=by
 unfold ai_5;rw[hg];simp only[h0,he,hF,if_true]
def al_7:(La:List Str).contains "number_in" =false:=by decide +kernel
def bq_0:(La:List Str).contains "bucket" =false:=by decide +kernel
def bq_1:(La:List Str).contains "number_of" =false:=by decide +kernel
def cs_9:(La:List Str).contains "room" =false:=by decide +kernel
def ap_1:(La:List Str).contains "rooms" =false:=by decide +kernel
def bb_9:(La:List Str).contains "numbers" =false:=by decide +kernel
def dm_8:(La:List Str).contains "many" =false:=by decide +kernel
structure Buk(n B:Nat)(P:List Nat)(M:Nat->Nat):Prop where
 n1:1<=n
 n2:n<=1000
 b1:1<=B
 b2:B<=1000
 out:∀q,q∉P->M q=0
 bd:∀q,M q<=1000
def Dy(n B:Nat)(M:Nat->Nat)(d:D):Int:=Bj n (M (bk B (As d)):Int) (As d)
section
variable{n B:Nat}{P:List Nat}{M:Nat->Nat}
def dd_3(h:Buk n B P M)(d:D):0<=Dy n B M d/\Dy n B M d < (n:Int):=z_3 _ _ h.n1
def ah_0(h:Buk n B P M)(b:Nat):c_4 [Ca n B P M,.int (b:Int)]=.ok (.sh (.int (M b:Int))):=by
 have hf:=dd_2 n B P M [some (.int (b:Int))];have hg:by_0 (Cb P M) (.int (b:Int)) (.int 0)=.ok (.sh (.int (M b:Int))):=by
  unfold by_0;simp only[Dn];unfold Cb;rw[bv_0 (λb=>D.int (M b:Int)) b P]
  by_cases z:b∈P
  ·rw[if_pos z]
  ·rw[if_neg z,h.out b z];rfl
 generalize Ca n B P M=O at *
 simp![c_4,p_8,Ao,cm_1,hf,hg]
def bc_0(h:Buk n B P M){d:D}(hd:isKey d):b_7 [Ca n B P M,d]=.ok (.sh (.int ((bk B (As d):Nat):Int))):=by
 have hf:=cs_6 n B P M [some d];have hb:=ag_9 (As d) h.b1;generalize Ca n B P M=O at *
 simp![b_7,u_8,Ao,hf,at_6 hd,hb]
def cg_4(h:Buk n B P M){d:D}(hd:isKey d):d_0 [Ca n B P M,d]=.ok (.sh (.int (Dy n B M d))):=by
 have m1:=r_8 (n:=n) (B:=B) (P:=P) (M:=M) "bucket" 1 b_7 (Ab 0) #v[1] [some (Ca n B P M),some d] [d] bq_0 rfl rfl rfl;rw[bc_0 h hd]at m1;have m2:=r_8 (n:=n) (B:=B) (P:=P) (M:=M) "number_in" 1 c_4 (Ab 0) #v[Cz "bucket" 1 [("Buckets",b_7)] (Ab 0) #v[1]] [some (Ca n B P M),some d] [.int ((bk B (As d):Nat):Int)] al_7 rfl (by simp![Ao,m1]) rfl;rw[ah_0 h]at m2;have hf:=bh_9 n B P M [some d];have e:=ad_9 n (M (bk B (As d)):Int) (As d) () (by have:=h.bd (bk B (As d));omega) h.n1;generalize Ca n B P M=O at *
 unfold Dy
 simp![d_0,p_9,Ao,at_6 hd,m2,hf,e]
def ca_8(h:Buk n B P M){d:D}(hd:isKey d):c_7 [Ca n B P M,d]=.ok (.sh (.int (Dy n B M d))):=by
 have hm:=r_8 (n:=n) (B:=B) (P:=P) (M:=M) "number_of" 1 d_0 (Ab 0) #v[1] [some (Ca n B P M),some d] [d] bq_1 rfl rfl rfl;rw[cg_4 h hd]at hm;have hf:=bh_9 n B P M [some d];have c:min (Dy n B M d) ((n:Int) - 1)=Dy n B M d:=by have:=dd_3 h d;omega
 generalize Ca n B P M=O at *
 simp![c_7,z_0,Ao,hm,hf,ar_7,bt_1,c]
def ah_1(h:Buk n B P M){ls:List D}(hk:∀k∈ls,isKey k)(hl:ls.length<=100000):b_2 [Ca n B P M,.lst ls]=.ok (.ow (.lst ((ls.map (Dy n B M)).map .int))):=by
 have q1:Ej [1] (Bc 1 f_7 #v[1]) (Av 2 [Ca n B P M,.lst ls])=.nx [.sh (Ca n B P M),.sh (.lst ls)]:=by
  generalize Ca n B P M=O
  simp![Ao,bz_6 hk]
 have ec:=i_5 (m:=1) (fi:=Bo (Ab 1)) (fg:=gC 2) (p:=λ_=> .ok true) (f:=s_7) (δ:=[some (Ca n B P M),some (.lst ls)]) (ds:=ls) (by simp![Ao]) ()
  (r_3 (λd=> .int (Dy n B M d)) ls λd hd=>⟨[some (Ca n B P M),some (.lst ls),some d],.sh (.int (Dy n B M d)),rfl,by
   have hm:=r_8 (n:=n) (B:=B) (P:=P) (M:=M) "room" 1 c_7 (Ab 0) #v[2] [some (Ca n B P M),some (.lst ls),some d] [d] cs_9 rfl rfl rfl;rw[ca_8 h (hk d hd)]at hm;exact hm,rfl⟩)
 have hmm:(ls.map λd=>D.int (Dy n B M d))=(ls.map (Dy n B M)).map .int:=by rw[J6];rfl
 rw[hmm]at ec;unfold b_2 Al x_3;rw[Bl q1];have hv:Au [.sh (Ca n B P M),.sh (.lst ls)]= [some (Ca n B P M),some (.lst ls)]:=rfl;unfold Ap;rw[hv,ec]
def bv_1(h:Buk n B P M):c_5 [Ca n B P M]=.ok (.ow (.lst (Cy B M))):=by
 have hf:=cs_6 n B P M [];have hb2:=h.b2;have hz:Cf 0 B=(List.range B).map λ(t:Nat)=>D.int (t:Int):=by
  unfold Cf;exact E7 λk _=>by rw[Y1]
 have hc:=r_3 (fg:=gC 1) (f:=k_4) (δ:=[some (Ca n B P M),none]) (λd=>match d with| .int b=>D.int (M b.toNat:Int)|d=>d) (Cf 0 B) (λd hd=>by
  rw[hz]at hd;obtain⟨b,hb,rfl⟩:=F4.mp hd;refine⟨[some (Ca n B P M),some (.int (b:Int))],.sh (.int (M b:Int)),rfl, ?_,by simp only[W.d_sh,K8]⟩;have hm:=r_8 (n:=n) (B:=B) (P:=P) (M:=M) "number_in" 1 c_4 (Ab 0) #v[1] [some (Ca n B P M),some (.int (b:Int))] [.int (b:Int)] al_7 rfl rfl rfl;rw[ah_0 h]at hm;exact hm)
 have hmm:(Cf 0 B).map (λd=>match d with| .int b=>D.int (M b.toNat:Int)|d=>d)=Cy B M:=by
  rw[hz,J6];unfold Cy;exact E7 λb _=>by simp
 rw[hmm]at hc;have ec:=i_5 (m:=1) (fi:=Aw Dl #v[Ep ["Buckets"] "many_buckets" (Ab 0)]) (fg:=gC 1) (p:=λ_=> .ok true) (f:=k_4) (δ:=[some (Ca n B P M)]) (ds:=Cf 0 B) (by
  generalize Ca n B P M=O at *
  simp![Ao,hf,s_5 (show(-4611686018427387903:Int)<=(B:Int) by omega) (),K8]) (by rw[k_1];omega) hc
 generalize Ca n B P M=O at *
 simp![c_5,s_8,Ao,ec]
def dd_4:f_4 [Ca n B P M]=.ok (.sh (.int (n:Int))):=by
 have hf:=bh_9 n B P M [];generalize Ca n B P M=O at *
 simp![f_4,z_1,Ao,hf]
end
def bc_1(i:Int):m_4 [.int i]=.ok (.sh (.bl true)):=by
 simp![m_4,ak_9,Ao]
def au_4(vs:List Int):okD 1 (.lst (vs.map .int))=true:=by
 show(vs.map D.int).all (okD 0)=true;exact cq_1 0 (λp:Int=>p) _
def dd_5(ks:List D):(cutL ks none (some 1)).length<=ks.length/\∀k∈cutL ks none (some 1),k∈ks:=by
 constructor
 ·unfold cutL;rw[S9,List.length_drop];omega
 ·exact λk hk=>List.mem_of_mem_drop (List.mem_of_mem_take hk)
def dm_9(B:Nat)(M:Nat->Nat):okD 1 (.lst (Cy B M))=true:=by
 show(Cy B M).all (okD 0)=true;unfold Cy;rw[List.all_map];exact F2.mpr λ_ _=>rfl
def ct_0{B:Nat}{P:List Nat}{M:Nat->Nat}{ks:List D}(h:Buk ks.length B P M)(hk:∀k∈ks,isKey k)(h2:ks.length<=60):j_7 [Ca ks.length B P M,.lst ks,.lst ((ks.map (Dy ks.length B M)).map .int),.lst (Cy B M)]=.ok (.sh (.bl true)):=by
 have hB2:=h.b2;have rk:=ah_1 h hk ();have rr:=ah_1 h (ls:=ks.reverse) (λk hm=>hk k (List.mem_reverse.mp hm)) (by rw[X8];omega);obtain⟨cl,cm⟩:=dd_5 ks;have rc:=ah_1 h (ls:=cutL ks none (some 1)) (λk hm=>hk k (cm k hm)) ();have r0:=ah_1 h (ls:=[]) (λk hm=>by simp at hm) (by simp);rw[ZB0,ZB0]at rr;have nb:=bv_1 h;have mn:=dd_4 (n:=ks.length) (B:=B) (P:=P) (M:=M);have me:=λ(m:Str) (k:Nat) (F:AF) (fa:FA) (δ:DE) (ds:List D) (hm:(La:List Str).contains m=false) (h1:Ab 0 δ=.ok (.sh (Ca ks.length B P M))) (h2:fa δ=.ok ds) (h3:ds.length=k)=>r_8 m k F (Ab 0) fa δ ds hm h1 h2 h3;generalize hrs:(ks.map (Dy ks.length B M)).map D.int=rs at *
 have okR:okD 1 (.lst rs)=true:=by rw[<-hrs];exact au_4 _
 have ji:okD 1 (.lst rs.reverse)=true:=by rw[<-hrs,<-ZB0];exact au_4 _
 have okS:okD 1 (.lst (Cy B M))=true:=dm_9 B M;generalize Ca ks.length B P M=O at *
 have hsl:(Cy B M).length=B:=bh_8 M;have hsm:∀d∈Cy B M,∃t:Int,d=.int t:=λd hd=>by
  obtain⟨b,_,rfl⟩:=F4.mp hd;exact⟨_,rfl⟩
 generalize hSS:Cy B M=SD at *
 have u1:Cm [0,1,2] (Cd (Am (Ag Dj (Cz "rooms" 1 [("Buckets",b_2)] (Ab 0) #v[Ah v_6 #v[1]]) (Ab 2))) (Am (Ag Dj (Cz "rooms" 1 [("Buckets",b_2)] (Ab 0) #v[k_6 (Ab 1)]) (k_6 (Ab 2)))))
   (Ap [] (eC (.bl false))) Bi (Av 5 [O,.lst ks,.lst rs,.lst SD])=.nx [.sh O,.sh (.lst ks),.sh (.lst rs),.sh (.lst SD),.no]:=by
  have hv:Au (Av 5 [O,.lst ks,.lst rs,.lst SD])= [some O,some (.lst ks),some (.lst rs),some (.lst SD),none]:=rfl;have m1:=me "rooms" 1 b_2 #v[Ah v_6 #v[1]] [some O,some (.lst ks),some (.lst rs),some (.lst SD),none] [.lst ks] ap_1 rfl (by simp![Ao,v_6]) rfl;have m2:=me "rooms" 1 b_2 #v[k_6 (Ab 1)] [some O,some (.lst ks),some (.lst rs),some (.lst SD),none] [.lst ks.reverse] ap_1 rfl (by simp![Ao,k_6]) rfl;rw[rk]at m1;rw[rr]at m2;have ht:Cd (Am (Ag Dj (Cz "rooms" 1 [("Buckets",b_2)] (Ab 0) #v[Ah v_6 #v[1]]) (Ab 2))) (Am (Ag Dj (Cz "rooms" 1 [("Buckets",b_2)] (Ab 0) #v[k_6 (Ab 1)]) (k_6 (Ab 2)))) [some O,some (.lst ks),some (.lst rs),some (.lst SD),none]=.ok false:=by
   unfold Cd Am Ag;rw[m1,m2]
   simp![Ao,k_6,ag_5 1 okR,ag_5 1 ji]
  unfold Cm;rw[hv,ht];rfl
 have u2:Aj 4 [0] (Cz "numbers" 0 [("Buckets",c_5)] (Ab 0) Ac) [.sh O,.sh (.lst ks),.sh (.lst rs),.sh (.lst SD),.no]=.nx [.sh O,.sh (.lst ks),.sh (.lst rs),.sh (.lst SD),.ow (.lst SD)]:=by
  have m1:=me "numbers" 0 c_5 Ac (Bf [.sh O,.sh (.lst ks),.sh (.lst rs),.sh (.lst SD),.no]) [] bb_9 rfl rfl rfl;rw[nb]at m1;unfold Aj;rw[m1];rfl
 have hc:=u_6 (fg:=gC 5) (p:=l_0) (f:=Ab 5) (δ:=[some O,some (.lst ks),some (.lst rs),some (.lst SD),some (.lst SD),none]) (λ_=>false) (λd=>d) SD (λd hd=>by
  obtain⟨t,rfl⟩:=hsm d hd;refine⟨_,rfl, ?_,λz=>absurd z A7⟩
  simp![l_0,Ao,bc_1])
 rw[ZC2.mpr (λ_ _=>by simp)]at hc;have ec:=i_5 (m:=1) (fi:=Bo (Ab 4)) (fg:=gC 5) (p:=l_0) (f:=Ab 5) (δ:=[some O,some (.lst ks),some (.lst rs),some (.lst SD),some (.lst SD)]) (ds:=SD) (by simp![Ao]) () hc;have en:Dj (.lst []) (.lst [])=.ok (.sh (.bl false)):=rfl;have ee:Ez (.lst []) (.lst [])=.ok (.sh (.bl true)):=rfl;have u3:Cm [3,4] (Cd (Cp (Bh (eIs "list" (Ab 4)))) (Cd (Am (Ag Dj (Ab 4) (Ab 3))) (Am (Ag Dj (Bu 1 (Bo (Ab 4)) (gC 5) l_0 (Ab 5)) (Bn Ac))))) (Ap [] (eC (.bl false))) Bi [.sh O,.sh (.lst ks),.sh (.lst rs),.sh (.lst SD),.ow (.lst SD)]=.nx [.sh O,.sh (.lst ks),.sh (.lst rs),.sh (.lst SD),.ow (.lst SD)]:=by
  simp![Ao,ag_5 1 okS,ec,M3,en]
 have gj:SD.length < 16777216:=by omega
 have u4:sApp 4 (eC (.int 0)) [.sh O,.sh (.lst ks),.sh (.lst rs),.sh (.lst SD),.ow (.lst SD)]=.nx [.sh O,.sh (.lst ks),.sh (.lst rs),.sh (.lst SD),.ow (.lst (SD ++ [.int 0]))]:=by
  simp![sApp,Ao,gj]
 have u5:bn_9 (Cz "rooms" 1 [("Buckets",b_2)] (Ab 0) #v[Dw (Ab 1) oNone (Fv (eC (.int 1)))]) (eC (.int 0)) [.sh O,.sh (.lst ks),.sh (.lst rs),.sh (.lst SD),.ow (.lst (SD ++ [.int 0]))]=.nx [.sh O,.sh (.lst ks),.sh (.lst rs),.sh (.lst SD),.ow (.lst (SD ++ [.int 0]))]:=by
  have m1:=me "rooms" 1 b_2 #v[Dw (Ab 1) oNone (Fv (eC (.int 1)))] (Bf [.sh O,.sh (.lst ks),.sh (.lst rs),.sh (.lst SD),.ow (.lst (SD ++ [.int 0]))]) [.lst (cutL ks none (some 1))] ap_1 rfl (by simp![Ao,Dw,be_4]) rfl;rw[rc]at m1;unfold bn_9;rw[m1];have:(((cutL ks none (some 1)).map (Dy ks.length B M)).map D.int).length < 16777216:=by rw[A3,A3];omega
  simp only[this,if_true];rfl
 have v1:=me "numbers" 0 c_5 Ac [some O,some (.lst ks),some (.lst rs),some (.lst SD),some (.lst (SD ++ [.int 0]))] [] bb_9 rfl rfl rfl;have v2:=me "rooms" 1 b_2 #v[Bn Ac] [some O,some (.lst ks),some (.lst rs),some (.lst SD),some (.lst (SD ++ [.int 0]))] [.lst []] ap_1 rfl rfl rfl;have v3:=me "many" 0 f_4 Ac [some O,some (.lst ks),some (.lst rs),some (.lst SD),some (.lst (SD ++ [.int 0]))] [] dm_8 rfl rfl rfl;rw[nb]at v1;rw[r0]at v2;rw[mn]at v3;refine q_4 ?_;unfold al_1;rw[Bl u1,Bl u2,Bl u3,Bl u4,Bl u5];have hv:Au [.sh O,.sh (.lst ks),.sh (.lst rs),.sh (.lst SD),.ow (.lst (SD ++ [.int 0]))]= [some O,some (.lst ks),some (.lst rs),some (.lst SD),some (.lst (SD ++ [.int 0]))]:=rfl;unfold Ap;rw[hv]
 simp![eAnd,Ag,v1,v2,v3,Ao,cq_0 1 okS,M3,ee,Ff,n_3,O4]
def dd_6{n B:Nat}{P:List Nat}{M:Nat->Nat}(h:Buk n B P M){d:D}(hd:isKey d):o_5 [Ca n B P M,d,.lst (Cy B M),.int (n:Int)]=.ok (.sh (.int (Dy n B M d))):=by
 have hb:=bz_7 (As d) h.b1;have hbd:=h.bd (bk B (As d));have hn1:=h.n1;have hb1:=h.b1;have m0:=(r_7 (As d) 0 (B:Int) ⋯ ⋯ ()).2;rw[bu_7 _ hb1]at m0;have m1:d_5 [.int (As d),.int ((M (bk B (As d)):Int) + 1),.int (n:Int)]=.ok (.sh (.int (Dy n B M d))):=(r_7 (As d) ((M (bk B (As d)):Int) + 1) (n:Int) () () ()).2;have ix:Ct (.lst (Cy B M)) (.int ((bk B (As d):Nat):Int))=.ok (.sh (.int (M (bk B (As d)):Int))):=n_4 (u_9 (by unfold Cy;rw[B3,E4 hb];rfl));have hsl:(Cy B M).length=B:=bh_8 M;have me:=λ(m:Str) (F:AF) (δ:DE) (hm:(La:List Str).contains m=false) (h1:Ab 0 δ=.ok (.sh (Ca n B P M))) (h2:Aa (Ab 1) Ac δ=.ok [d])=>r_8 m 1 F (Ab 0) #v[1] δ [d] hm h1 h2 rfl;have eb:=bc_0 h hd;have er:=ca_8 h hd;generalize Ca n B P M=O at *
 generalize Cy B M=SD at *
 generalize bk B (As d)=b at *
 generalize Dy n B M d=r at *
 have q1:Aj 4 [1] (Bc 1 e_9 #v[1]) (Av 9 [O,d,.lst SD,.int (n:Int)])=.nx [.sh O,.sh d,.sh (.lst SD),.sh (.int (n:Int)),.sh (.int (As d)),.no,.no,.no,.no]:=by
  simp![Ao,ag_7 hd]
 have q2:Aj 5 [2,4] (Bc 3 d_5 #v[4,eC (.int 0),Ah Cs #v[2]]) [.sh O,.sh d,.sh (.lst SD),.sh (.int (n:Int)),.sh (.int (As d)),.no,.no,.no,.no]=.nx [.sh O,.sh d,.sh (.lst SD),.sh (.int (n:Int)),.sh (.int (As d)),.sh (.int (b:Int)),.no,.no,.no]:=by
  simp![Ao,Ff,hsl,m0]
 have q3:Aj 6 [2,3,4,5] (Bc 3 d_5 #v[4,Ag Bq (Ag Ct (Ab 2) (Ab 5)) (eC (.int 1)),3]) [.sh O,.sh d,.sh (.lst SD),.sh (.int (n:Int)),.sh (.int (As d)),.sh (.int (b:Int)),.no,.no,.no]=.nx [.sh O,.sh d,.sh (.lst SD),.sh (.int (n:Int)),.sh (.int (As d)),.sh (.int (b:Int)),.sh (.int r),.no,.no]:=by
  simp![Ao,ix,i_4,m1]
 have e1:=me "bucket" b_7 [some O,some d,some (.lst SD),some (.int (n:Int)),some (.int (As d)),some (.int (b:Int)),some (.int r),none,none] bq_0 rfl rfl;have e2:=me "room" c_7 [some O,some d,some (.lst SD),some (.int (n:Int)),some (.int (As d)),some (.int (b:Int)),some (.int r),none,none] cs_9 rfl rfl;rw[eb]at e1;rw[er]at e2;have step:∀(z:Int) (c7 c8:Sl),n_5 [.sh O,.sh d,.sh (.lst SD),.sh (.int (n:Int)),.sh (.int (As d)),.sh (.int (b:Int)),.sh (.int r),.sh (.int z),.sh (.int z)]=.nx [.sh O,.sh d,.sh (.lst SD),.sh (.int (n:Int)),.sh (.int (As d)),.sh (.int (b:Int)),.sh (.int r),.sh (.int z),.sh (.int z)]:=λz _ _=>by
  simp![n_5,Ao,bc_1,by_1,O4]
 have q4:Bw [0,1,5,6] (Aw az_5 #v[Bn #v[Cz "bucket" 1 [("Buckets",b_7)] (Ab 0) #v[1],Cz "room" 1 [("Buckets",c_7)] (Ab 0) #v[1]],Bn #v[5,6]]) (gV2 7 8) n_5 [.sh O,.sh d,.sh (.lst SD),.sh (.int (n:Int)),.sh (.int (As d)),.sh (.int (b:Int)),.sh (.int r),.no,.no]=.nx [.sh O,.sh d,.sh (.lst SD),.sh (.int (n:Int)),.sh (.int (As d)),.sh (.int (b:Int)),.sh (.int r),.sh (.int r),.sh (.int r)]:=by
  have hi:Aw az_5 #v[Bn #v[Cz "bucket" 1 [("Buckets",b_7)] (Ab 0) #v[1],Cz "room" 1 [("Buckets",c_7)] (Ab 0) #v[1]],Bn #v[5,6]] [some O,some d,some (.lst SD),some (.int (n:Int)),some (.int (As d)),some (.int (b:Int)),some (.int r),none,none]=.ok [.tup [.int (b:Int),.int (b:Int)],.tup [.int r,.int r]]:=by
   simp![Ao,e1,e2,az_5]
   rfl
  have hl:Bx (gV2 7 8) n_5 [.tup [.int (b:Int),.int (b:Int)],.tup [.int r,.int r]] [.sh O,.sh d,.sh (.lst SD),.sh (.int (n:Int)),.sh (.int (As d)),.sh (.int (b:Int)),.sh (.int r),.no,.no]=.nx [.sh O,.sh d,.sh (.lst SD),.sh (.int (n:Int)),.sh (.int (As d)),.sh (.int (b:Int)),.sh (.int r),.sh (.int r),.sh (.int r)]:=by
   rw[Fo (Δ1:=[.sh O,.sh d,.sh (.lst SD),.sh (.int (n:Int)),.sh (.int (As d)),.sh (.int (b:Int)),.sh (.int r),.sh (.int (b:Int)),.sh (.int (b:Int))]) rfl (step _ .no .no)];rw[Fo (Δ1:=[.sh O,.sh d,.sh (.lst SD),.sh (.int (n:Int)),.sh (.int (As d)),.sh (.int (b:Int)),.sh (.int r),.sh (.int r),.sh (.int r)]) rfl (step _ .no .no)];rfl
  unfold Bw;show(match Aw az_5 #v[Bn #v[Cz "bucket" 1 [("Buckets",b_7)] (Ab 0) #v[1],Cz "room" 1 [("Buckets",c_7)] (Ab 0) #v[1]],Bn #v[5,6]] [some O,some d,some (.lst SD),some (.int (n:Int)),some (.int (As d)),some (.int (b:Int)),some (.int r),none,none] with| .ok ds=>_| .ex x=>_| .no=>_)=_;rw[hi];exact hl
 refine q_4 ?_;unfold at_1;rw[Bl q1,Bl q2,Bl q3,Bl q4];rfl
def dd_7{ks:List D}(hk:∀k∈ks,isKey k):Dj (.lst ks) (.lst ks)=.ok (.sh (.bl false)):=by
 obtain⟨b,hb,_,e⟩:=at_5 hk hk;have:b=true:=hb.mpr rfl;subst this;exact e
def bv_2(ks:List D):(ks.map λd=>D.int (As d))=(ks.map As).map .int:=by rw[J6];rfl
abbrev Lc:List Str:=["how_many","many_buckets"]
def dd_8{ks:List D}{B io mx:Nat}(hk:∀k∈ks,isKey k)(nd:ks.Nodup)(hB:1<=B)(hB2:B<=60)(h1:1<=ks.length)(h2:ks.length<=60)(hm:io<=1000)(hx:∀b,b < B->(Bb B (ks.map As) b).length<=mx):
  m_6 [.lst ks,.int (B:Int),.int (io:Int)]=match Fb B io (ks.map As) mx with
  | .inl q=> .ex (Fw q)
  | .inr p=> .ok (La,[.int (ks.length:Int),.int (B:Int),.dic (Cb (Bs (Bb B (ks.map As)) B mx mx) p.2)]):=by
 have lk:=dc_8 hk nd h1 ();have hs:=aw_7 (L:=ks.map As) hB hB2 (by rw[A3];exact h1) (by rw[A3];exact h2) hm hx;unfold m_6 az_8 r_6;have q1:ai_5 0 "Buckets" [1] c_9 (Bc 1 m_5 #v[1]) (bf_0 4 "Buckets" [.lst ks,.int (B:Int),.int (io:Int)])=.nx [.lt (.obj "Buckets" ["how_many"] [.sh (.int (ks.length:Int))]),.sh (.lst ks),.sh (.int (B:Int)),.sh (.int (io:Int))]:=by
  refine cs_8 (w:=.sh (.int (ks.length:Int))) (p:=(["how_many"],[.int (ks.length:Int)])) rfl rfl ?_ (cg_3 _);exact lk
 have q2:y_3 0 ["Buckets"] "many_buckets" [2] (Ab 2) [.lt (.obj "Buckets" ["how_many"] [.sh (.int (ks.length:Int))]),.sh (.lst ks),.sh (.int (B:Int)),.sh (.int (io:Int))]=.nx [.lt (.obj "Buckets" Lc [.sh (.int (ks.length:Int)),.sh (.int (B:Int))]),.sh (.lst ks),.sh (.int (B:Int)),.sh (.int (io:Int))]:=
  ca_7 (w:=.sh (.int (B:Int))) (c:= "Buckets") (ns:=["how_many"]) (ts:=[.sh (.int (ks.length:Int))]) rfl rfl nofun rfl
 have ec:=i_5 (m:=1) (fi:=Bo (Ab 1)) (fg:=gC 4) (p:=λ_=> .ok true) (f:=e_0) (δ:=[none,some (.lst ks),some (.int (B:Int)),some (.int (io:Int))]) (ds:=ks) (by simp![Ao]) ()
  (r_3 (λd=> .int (As d)) ks λd hd=>⟨[none,some (.lst ks),some (.int (B:Int)),some (.int (io:Int)),some d],.sh (.int (As d)),rfl,by simp![e_0,Ao,at_6 (hk d hd)],rfl⟩)
 rw[bv_2]at ec;rw[Bl q1,Bl q2];cases e:Fb B io (ks.map As) mx with
 |inr p=>
  rw[e]at hs;have q3:y_3 0 ["Buckets"] "by_bucket" [1,2,3] (Bc 3 d_1 #v[(Bu 1 (Bo (Ab 1)) (gC 4) (λ_=> .ok true) e_0),2,3]) [.lt (.obj "Buckets" Lc [.sh (.int (ks.length:Int)),.sh (.int (B:Int))]),.sh (.lst ks),.sh (.int (B:Int)),.sh (.int (io:Int))]=
    .nx [.lt (.obj "Buckets" La [.sh (.int (ks.length:Int)),.sh (.int (B:Int)),.sh (.dic (Cb (Bs (Bb B (ks.map As)) B mx mx) p.2))]),.sh (.lst ks),.sh (.int (B:Int)),.sh (.int (io:Int))]:=by
   refine ca_7 (w:=.ow (.dic (Cb (Bs (Bb B (ks.map As)) B mx mx) p.2))) (c:= "Buckets") (ns:= Lc) (ts:=[.sh (.int (ks.length:Int)),.sh (.int (B:Int))]) rfl rfl nofun ?_
   simp![Ao,cs_7,ec,hs]
  rw[q3];simp only[U3,if_true,unT,L4]
 |inl q=>
  rw[e]at hs;have q3:y_3 0 ["Buckets"] "by_bucket" [1,2,3] (Bc 3 d_1 #v[(Bu 1 (Bo (Ab 1)) (gC 4) (λ_=> .ok true) e_0),2,3]) [.lt (.obj "Buckets" Lc [.sh (.int (ks.length:Int)),.sh (.int (B:Int))]),.sh (.lst ks),.sh (.int (B:Int)),.sh (.int (io:Int))]=
    .ex (Fw q) [.lt (.obj "Buckets" Lc [.sh (.int (ks.length:Int)),.sh (.int (B:Int))]),.sh (.lst ks),.sh (.int (B:Int)),.sh (.int (io:Int))]:=by
   have he:Bc 3 d_1 #v[(Bu 1 (Bo (Ab 1)) (gC 4) (λ_=> .ok true) e_0),2,3] (Bf (gsome [1,2,3] [.lt (.obj "Buckets" Lc [.sh (.int (ks.length:Int)),.sh (.int (B:Int))]),.sh (.lst ks),.sh (.int (B:Int)),.sh (.int (io:Int))]))=.ex (Fw q):=by
    simp![Ao,cs_7,ec,hs]
   unfold y_3;rw[he];rfl
  rw[q3]
def dd_9(c:Int):∃io:Nat,1<=io/\io<=200/\Ct (.lst [.int (1 + c / 5 % 30),.int 200,.int 200,.int 100]) (.int (c % 4))=.ok (.sh (.int (io:Int))):=by
 rcases(show c % 4=0\/c % 4=1\/c % 4=2\/c % 4=3 by omega) with e|e|e|e
 ·refine⟨(1 + c / 5 % 30).toNat,by omega,by omega, ?_⟩;rw[e,show(((1 + c / 5 % 30).toNat:Nat):Int)=1 + c / 5 % 30 by omega];exact n_4 (u_9 (i:=0) rfl)
 ·exact⟨200,by omega,by omega,by rw[e];exact n_4 (u_9 (i:=1) rfl)⟩
 ·exact⟨200,by omega,by omega,by rw[e];exact n_4 (u_9 (i:=2) rfl)⟩
 ·exact⟨100,by omega,by omega,by rw[e];exact n_4 (u_9 (i:=3) rfl)⟩
def dn_0(c:Int){n:Nat}(hn:n<=60):∃B:Nat,1<=B/\B<=60/\Ct (.lst [.int (1 + c / 120 % 8),.int (1 + c / 120 % 60),.int (max 1 ((n:Int) / 2)),.int (max 1 ((n:Int) / 4))]) (.int (c / 4 % 4))=.ok (.sh (.int (B:Int))):=by
 rcases(show c / 4 % 4=0\/c / 4 % 4=1\/c / 4 % 4=2\/c / 4 % 4=3 by omega) with e|e|e|e
 ·refine⟨(1 + c / 120 % 8).toNat,by omega,by omega, ?_⟩;rw[e,show(((1 + c / 120 % 8).toNat:Nat):Int)=1 + c / 120 % 8 by omega];exact n_4 (u_9 (i:=0) rfl)
 ·refine⟨(1 + c / 120 % 60).toNat,by omega,by omega, ?_⟩;rw[e,show(((1 + c / 120 % 60).toNat:Nat):Int)=1 + c / 120 % 60 by omega];exact n_4 (u_9 (i:=1) rfl)
 ·refine⟨(max 1 ((n:Int) / 2)).toNat,by omega,by omega, ?_⟩;rw[e,show(((max 1 ((n:Int) / 2)).toNat:Nat):Int)=max 1 ((n:Int) / 2) by omega];exact n_4 (u_9 (i:=2) rfl)
 ·refine⟨(max 1 ((n:Int) / 4)).toNat,by omega,by omega, ?_⟩;rw[e,show(((max 1 ((n:Int) / 4)).toNat:Nat):Int)=max 1 ((n:Int) / 4) by omega];exact n_4 (u_9 (i:=3) rfl)
def ct_1(c:Int){n:Nat}(hn:n<=60):∃(B io:Nat),1<=B/\B<=60/\1<=io/\io<=200/\o_9 [.int c,.int (n:Int)]=.ok (.sh (.tup [.int (B:Int),.int (io:Int)])):=by
 obtain⟨io,m1,m2,em⟩:=dd_9 c;obtain⟨B,b1,b2,eb⟩:=dn_0 c hn;refine⟨B,io,b1,b2,m1,m2, ?_⟩;have a1:=t_1 (i:=c) (show(0:Int) < 5 by decide) ⋯;have a2:=Fu (i:=c / 5) (show(0:Int) < 30 by decide);have a3:=Fu (i:=c) (show(0:Int) < 4 by decide);have a4:=t_1 (i:=c) (show(0:Int) < 120 by decide) ⋯;have a5:=Fu (i:=c / 120) (show(0:Int) < 8 by decide);have a6:=Fu (i:=c / 120) (show(0:Int) < 60 by decide);have a7:=t_1 (i:=(n:Int)) (show(0:Int) < 2 by decide) ⋯;have a8:=t_1 (i:=(n:Int)) (show(0:Int) < 4 by decide) ⋯;have a9:=t_1 (i:=c) (show(0:Int) < 4 by decide) ⋯;have a10:=Fu (i:=c / 4) (show(0:Int) < 4 by decide)
 simp![o_9,ak_6,Ao,a1,a2,a3,a4,a5,a6,a7,a8,a9,a10,i_4,bf_2,em,eb]
theorem bc_2(B:Nat):∀(P:List Nat) (L:List Int),P.Nodup->(∀x∈L,bk B x∈P)->(P.flatMap (Bb B L)).Perm L
 | [],L,_,h=>by
  cases L with
  |nil=>exact List.Perm.refl _
  |cons x L=>exact absurd (h x (by simp)) (by simp)
 |b::P,L,nd,h=>by
  obtain⟨n1,n2⟩:=J8.mp nd;have e:P.flatMap (Bb B L)=P.flatMap (Bb B (L.filter λx=> !decide (bk B x=b))):=K5 List.flatten (E7 λq hq=>by
   unfold Bb;rw[List.filter_filter];refine List.filter_congr λx _=> ?_
   by_cases z:bk B x=q
   ·have:¬bk B x=b:=λy=>n1 (by rw[<-y,z];exact hq);simp[z,this];rw[<-z];exact this
   ·simp[z])
  rw[List.flatMap_cons,e];have ih:=bc_2 B P (L.filter λx=> !decide (bk B x=b)) n2 λx hx=>by
   obtain⟨x1,x2⟩:=M0.mp hx;rcases C4.mp (h x x1) with z|z
   ·rw[z]at x2;simp at x2
   ·exact z
  exact(ih.append_left _).trans (List.filter_append_perm _ _)
def bv_3{ks:List D}{B io mx:Nat}{T:List Int}{M:Nat->Nat}(hB:1<=B)(hB2:B<=60)(h1:1<=ks.length)(hx:∀b,b < B->(Bb B (ks.map As) b).length<=mx)(d:Dealt ks.length io (Bb B (ks.map As)) (Bs (Bb B (ks.map As)) B mx mx) [] (λ_=>0) T M):
  (ks.map (Dy ks.length B M)).Perm (Ei 0 ks.length):=by
 have pm:=bc_2 B (Bs (Bb B (ks.map As)) B mx mx) (ks.map As) (r_0 () ()) λx hxm=>by
  have hb:=bz_7 x hB;have hm:x∈Bb B (ks.map As) (bk B x):=M0.mpr ⟨hxm,F5 rfl⟩;have hp:=List.length_pos_of_mem hm;have:=hx _ hb;exact(w_7 mx).mpr ⟨hb,mx - (Bb B (ks.map As) (bk B x)).length,by omega,by omega⟩
 have e1:((Bs (Bb B (ks.map As)) B mx mx).flatMap (Bb B (ks.map As))).map (λx=>Bj ks.length (M (bk B x):Int) x)=T:=by
  rw[d.eq,P5,List.map_flatMap];refine K5 List.flatten (E7 λb _=> ?_);refine E7 λx hx=> ?_;rw[D4 (M0.mp hx).2]
 have e2:(ks.map As).map (λx=>Bj ks.length (M (bk B x):Int) x)=ks.map (Dy ks.length B M):=by rw[J6];rfl
 have pm2:=pm.map (λx=>Bj ks.length (M (bk B x):Int) x);rw[e1,e2]at pm2;refine ca_5 ks.length _ (pm2.nodup_iff.mp (d.nd R3)) (λx hx=> ?_) (A3 _);obtain⟨k,_,rfl⟩:=F4.mp hx;exact z_3 _ _ h1
def keyC(z:Int):D:=Classical.choose (bh_2 z)
def de_0(z:Int):isKey (keyC z)/\i_8 [.int z]=.ok (.sh (keyC z)):=Classical.choose_spec (bh_2 z)
def ds_2{l:List Int}{n:Nat}(hp:l.Perm (Ei 0 n))(hl:l.length < 64):ba_2 [.lst (l.map .int)]=.ok (.ow (.lst ((Ei 0 n).map .int))):=by
 have h2:bn_5 l=Ei 0 n:=bn_6 hp.symm (by
  unfold Ei;rw[V4];exact List.pairwise_lt_range.imp λh=>by omega)
 simp only[ba_2,bh_4,hl,if_true,h2]
def df_6(n:Nat):(Ei 0 n).map D.int=Cf 0 n:=by
 unfold Ei Cf;rw[J6];apply E7;intro k _;show D.int ((0 + k:Nat):Int)=.int (0 + (k:Int));rw[O5,Y1]
def ct_2(n:Nat):(L46:List (Str×Bool)).lookup (Fw n).c=some true:=by
 show List.lookup (Str.ofString "NoFit") _=_;decide +kernel
def bv_4{m:Nat}{fi:FI}{fg:Et}{p:FT}{f:FE}{δ:DE}{ds:List D}(h:fi δ=.ok ds)(hc:n_1 fg p f (δ ++ List.replicate m none) ds=.no):Bu m fi fg p f δ=.no:=by
 unfold Bu;rw[h];simp only[R.bind_ok]
 split
 ·rw[hc];rfl
 ·rfl
def de_1(l:List Int):inD false .non (.lst (l.map .int))=.ok (.sh (.bl false)):=by
 have h1:(Ay .non && (l.map D.int).all Ay)=true:=by
  rw[List.all_map];exact F2.mpr λ_ _=>rfl
 have h2:Cv .non (l.map D.int)=false:=by
  unfold Cv;rw[List.any_map,Z3];intro x _ z;cases z
 show(if(Ay .non && (l.map D.int).all Ay)=true then _ else _)=_;rw[if_pos h1,h2];rfl
def ct_3(ns:List Int)(hn:ns.length<=63):∃v,cp_8 [.lst (ns.map .int)]=.ok v/\v.d=.bl true:=by
 obtain⟨ks,hne,hl,hk,hd,ek⟩:=dc_6 ns 2 40 hn ⋯ ⋯ ⋯ ⋯;have jr:0 < ks.length:=List.length_pos_iff.mpr hne;have jm:ks.length<=40:=by omega
 have er:=aj_1 ns 1 ⋯;generalize ns.getD (1:Int).toNat 0=c at er;obtain⟨B,io,b1,b2,m1,m2,esh⟩:=ct_1 c (n:=ks.length) ();obtain⟨c1,ec1⟩:=bh_1 ns 1 ⋯ ⋯;have hlm:(ks.map As).length=ks.length:=A3 _;obtain⟨mx,hmx,hx,ht⟩:=bu_9 (g:=Bb B (ks.map As)) b1 () (au_3 ());have hdl:=cs_5 hk b1 b2 () () m1 () hmx hx ht;have aq:=dd_8 (io:=io) hk hd b1 b2 () () () hx;have nk:=dd_7 hk;generalize hns:D.lst (ns.map .int)=nsD at *
 have t1:bg_9 (Av 11 [nsD])=.nx [.sh nsD,.ow (.lst ks),.no,.no,.no,.no,.no,.no,.no,.no,.no]:=by
  simp![bg_9,Ao,ek]
 have t2:bh_0 [.sh nsD,.ow (.lst ks),.no,.no,.no,.no,.no,.no,.no,.no,.no]=.nx [.sh nsD,.sh (.lst ks),.no,.no,.no,.no,.no,.no,.no,.sh (.int (B:Int)),.sh (.int (io:Int))]:=by
  simp![bh_0,Ao,sUnp,er,Ff,esh,gP]
 refine⟨.sh (.bl true), ?_,rfl⟩;unfold cp_8;refine q_4 ?_;unfold df_2;rw[Bl t1,Bl t2];cases e:Fb B io (ks.map As) mx with
 |inl q=>
  rw[e]at hdl aq;simp only at hdl aq
  let Δ:Sl->Sl->Sl->Sl->SE:=λa3 a4 a5 a6=> [.sh nsD,.sh (.lst ks),.sh (.int (q:Int)),a3,a4,a5,a6,.no,.no,.sh (.int (B:Int)),.sh (.int (io:Int))]
  have t3:af_9 [.sh nsD,.sh (.lst ks),.no,.no,.no,.no,.no,.no,.no,.sh (.int (B:Int)),.sh (.int (io:Int))]=.nx (Δ .no .no .no .no):=by
   simp![af_9,Ao,hdl,Δ]
  have t4:ag_0 (Δ .no .no .no .no)=.nx (Δ (.ow (.lst ks)) .no .no .no):=by
   simp![ag_0,Ao,v_6,Δ]
  have t5:ag_1 (Δ (.ow (.lst ks)) .no .no .no)=.nx (Δ (.ow (.lst ks)) (.sh .non) .no .no):=by
   simp![ag_1,Ao,Δ]
  have t6:ag_2 (Δ (.ow (.lst ks)) (.sh .non) .no .no)=.nx (Δ (.ow (.lst ks)) (.sh .non) (.sh .non) .no):=by
   simp![ag_2,Ao,Δ]
  have hb:ao_6 (Δ (.ow (.lst ks)) (.sh .non) (.sh .non) .no)=.ex (Fw q) (Δ (.sh (.lst ks)) (.sh .non) (.sh .non) .no):=by
   simp![ao_6,Ao,az_9,aq,exG,Δ]
  have hh:bz_3 (Δ (.sh (.lst ks)) (.sh .non) (.sh .non) (.sh (.exn (Fw q).c (Fw q).ns (Fw q).vs)))=.nx (Δ (.sh (.lst ks)) (.sh .non) (.sh (.int (q:Int))) (.sh (.exn (Fw q).c (Fw q).ns (Fw q).vs))):=by rfl
  have t7:ag_3 (Δ (.ow (.lst ks)) (.sh .non) (.sh .non) .no)=.nx (Δ (.sh (.lst ks)) (.sh .non) (.sh (.int (q:Int))) .no):=by
   unfold ag_3 bn_4;rw[hb];have jc:(Δ (.sh (.lst ks)) (.sh .non) (.sh .non) .no).set 6 (.sh (.exn (Fw q).c (Fw q).ns (Fw q).vs))=Δ (.sh (.lst ks)) (.sh .non) (.sh .non) (.sh (.exn (Fw q).c (Fw q).ns (Fw q).vs)):=rfl;simp only[tryH,ct_2,hdGo,jc,hh,cn_1];rfl
  have t8:ag_4 (Δ (.sh (.lst ks)) (.sh .non) (.sh (.int (q:Int))) .no)=.nx (Δ (.sh (.lst ks)) (.sh .non) (.sh (.int (q:Int))) .no):=by
   have i0:ae_7 [.bl false]=.ok (.sh (.int 0)):=rfl;have x0:Ct (.lst [.int (q:Int),.non]) (.int 0)=.ok (.sh (.int (q:Int))):=n_4 (u_9 (i:=0) rfl)
   simp![ag_4,Ao,nk,i0,x0,by_1,O4,Δ]
  rw[Bl t3,Bl t4,Bl t5,Bl t6,Bl t7,Bl t8]
  simp![ao_8,Ao,Δ]
 |inr p=>
  obtain⟨T,M⟩:=p;rw[e]at hdl aq;simp only at hdl aq;have dl:Dealt ks.length io (Bb B (ks.map As)) (Bs (Bb B (ks.map As)) B mx mx) [] (λ_=>0) T M:=by
   unfold Fb at e;rw[hlm]at e;exact bh_7 _ _ _ _ _ (r_0 () ()) e
  have cz:=bv_3 b1 b2 () hx dl;generalize Bs (Bb B (ks.map As)) B mx mx=P at *
  have eh:Buk ks.length B P M:=⟨by omega,by omega,b1,by omega,λq hq=>dl.out q hq,λq=>by
   by_cases z:q∈P
   ·have:=dl.bd q z;omega
   ·rw[dl.out q z];omega⟩
  have ba:=ct_0 eh hk ();have hso:=ds_2 cz (by rw[A3];omega);rw[df_6]at hso;have iq:=de_1 (ks.map (Dy ks.length B M));have bx:∀d,isKey d->o_5 [Ca ks.length B P M,d,.lst (Cy B M),.int (ks.length:Int)]=.ok (.sh (.int (Dy ks.length B M d))):=λd hd=>dd_6 eh hd;have mkO:∀δ:DE,Ab 3 δ=.ok (.sh (.lst ks))->Ab 9 δ=.ok (.sh (.int (B:Int)))->Ab 10 δ=.ok (.sh (.int (io:Int)))->az_9 "Buckets" 3 m_6 #v[3,9,10] δ=.ok (.sh (Ca ks.length B P M)):=λ δ h1 h2 h3=>by
   simp only[az_9,Aa,Ac,h1,h2,h3,R.bind_ok,W.d_sh];show(if(3:Nat)=3 then _ else _)=_;rw[if_pos rfl,aq];rfl
  have hMO:∃oc on ov,Ca ks.length B P M=.obj oc on ov:=⟨_,_,_,rfl⟩;generalize Ca ks.length B P M=O at *
  obtain⟨oc,on,ov,hO⟩:=hMO;generalize Cy B M=SD at *
  let Δ:Sl->Sl->Sl->Sl->Sl->Sl->SE:=λa2 a3 a4 a5 a7 a8=> [.sh nsD,.sh (.lst ks),a2,a3,a4,a5,.no,a7,a8,.sh (.int (B:Int)),.sh (.int (io:Int))]
  have t3:af_9 [.sh nsD,.sh (.lst ks),.no,.no,.no,.no,.no,.no,.no,.sh (.int (B:Int)),.sh (.int (io:Int))]=.nx (Δ (.ow (.lst SD)) .no .no .no .no .no):=by
   simp![af_9,Ao,hdl,Δ]
  have t4:ag_0 (Δ (.ow (.lst SD)) .no .no .no .no .no)=.nx (Δ (.ow (.lst SD)) (.ow (.lst ks)) .no .no .no .no):=by
   simp![ag_0,Ao,v_6,Δ]
  have t5:ag_1 (Δ (.ow (.lst SD)) (.ow (.lst ks)) .no .no .no .no)=.nx (Δ (.ow (.lst SD)) (.ow (.lst ks)) (.sh .non) .no .no .no):=by
   simp![ag_1,Ao,Δ]
  have t6:ag_2 (Δ (.ow (.lst SD)) (.ow (.lst ks)) (.sh .non) .no .no .no)=.nx (Δ (.ow (.lst SD)) (.ow (.lst ks)) (.sh .non) (.sh .non) .no .no):=by
   simp![ag_2,Ao,Δ]
  have t7:ag_3 (Δ (.ow (.lst SD)) (.ow (.lst ks)) (.sh .non) (.sh .non) .no .no)=.nx (Δ (.ow (.lst SD)) (.sh (.lst ks)) (.sh O) (.sh .non) .no .no):=by
   have hno:az_9 "Buckets" 3 m_6 #v[3,9,10] (Bf (Δ (.ow (.lst SD)) (.ow (.lst ks)) (.sh .non) (.sh .non) .no .no))=.no:=rfl;have ip:=mkO (Bf (gsome [3,9,10] (Δ (.ow (.lst SD)) (.ow (.lst ks)) (.sh .non) (.sh .non) .no .no))) rfl rfl rfl;have bj:=mkO (Au (Δ (.ow (.lst SD)) (.ow (.lst ks)) (.sh .non) (.sh .non) .no .no)) rfl rfl rfl;have hnf:Ay O=false:=by rw[hO];rfl
   unfold ag_3 bn_4 ao_6 Aj;rw[hno];simp only[ip,bj,W.d_sh,hnf,D8,L9];rfl
  have t8:ag_4 (Δ (.ow (.lst SD)) (.sh (.lst ks)) (.sh O) (.sh .non) .no .no)=.nx (Δ (.ow (.lst SD)) (.sh (.lst ks)) (.sh O) (.sh .non) .no .no):=by
   have i1:ae_7 [.bl true]=.ok (.sh (.int 1)):=rfl;have x1:Ct (.lst [.lst SD,.non]) (.int 1)=.ok (.sh .non):=n_4 (u_9 (i:=1) rfl);have nn:Dj .non .non=.ok (.sh (.bl false)):=rfl;rw[hO]
   simp![ag_4,Ao,nk,i1,x1,nn,Δ]
  have t9:ao_8 (Δ (.ow (.lst SD)) (.sh (.lst ks)) (.sh O) (.sh .non) .no .no)=.nx (Δ (.ow (.lst SD)) (.sh (.lst ks)) (.sh O) (.sh .non) .no .no):=by
   rw[hO]
   simp![ao_8,Ao,Δ]
  generalize hrl:(ks.map (Dy ks.length B M)).map D.int=rs at *
  have ec2:Bu 1 (Bo (Ab 1)) (gC 11) (λ_=> .ok true) aa_6 (Bf (gsome [1,2,4] (Δ (.ow (.lst SD)) (.sh (.lst ks)) (.sh O) (.sh .non) .no .no)))=.ok (.ow (.lst rs)):=by
   have:=i_5 (m:=1) (fi:=Bo (Ab 1)) (fg:=gC 11) (p:=λ_=> .ok true) (f:=aa_6) (δ:=[some nsD,some (.lst ks),some (.lst SD),some (.lst ks),some O,some .non,none,none,none,some (.int (B:Int)),some (.int (io:Int))]) (ds:=ks) (by simp![Ao]) ()
    (r_3 (λd=> .int (Dy ks.length B M d)) ks λd hd=>⟨[some nsD,some (.lst ks),some (.lst SD),some (.lst ks),some O,some .non,none,none,none,some (.int (B:Int)),some (.int (io:Int)),some d],.sh (.int (Dy ks.length B M d)),rfl,by simp![aa_6,Ao,Ff,bx d (hk d hd)],rfl⟩)
   have hmm:(ks.map λd=>D.int (Dy ks.length B M d))=rs:=by rw[<-hrl,J6];rfl
   rw[hmm]at this;exact this
  have ec3:Bu 1 (Bo (Ab 1)) (gC 11) (λ_=> .ok true) aa_6 (Au (Δ (.ow (.lst SD)) (.sh (.lst ks)) (.sh O) (.sh .non) .no .no))=.ok (.ow (.lst rs)):=ec2;have ec4:Bu 1 (Bo (Ab 1)) (gC 11) (λ_=> .ok true) aa_6 (Bf (Δ (.ow (.lst SD)) (.sh (.lst ks)) (.sh O) (.sh .non) .no .no))=.no:=by
   refine bv_4 (ds:=ks) rfl ?_;obtain⟨k0,kt,rfl⟩:=List.exists_cons_of_ne_nil hne;rfl
  have t10:at_2 (Δ (.ow (.lst SD)) (.sh (.lst ks)) (.sh O) (.sh .non) .no .no)=.nx (Δ (.sh (.lst SD)) (.sh (.lst ks)) (.sh O) (.sh .non) (.ow (.lst rs)) .no):=by
   unfold at_2 Aj;rw[ec4];simp only[ec3,ec2,W.d_ow,Ay,D8,L9];rfl
  let Δ2:Sl->SE:=λa8=>Δ (.sh (.lst SD)) (.sh (.lst ks)) (.sh O) (.sh .non) (.ow (.lst rs)) a8
  have t11:at_3 (Δ2 .no)=.nx (Δ2 .no):=by
   have hr:eRng Dl #v[Ah Cs #v[1]] (Au (Δ2 .no))=.ok (.ow (.lst (Cf 0 ks.length))):=by
    simp![Δ2,Δ,Ao,eRng,Ff,s_5 (show(-4611686018427387903:Int)<=(ks.length:Int) by omega) (),K8]
    rw[if_pos (by rw[k_1];omega)]
   have hz:Dj (.lst (Cf 0 ks.length)) (.lst (Cf 0 ks.length))=.ok (.sh (.bl false)):=by
    rw[<-df_6];exact ag_5 1 (au_4 _)
   have ht:Cd (Am (Ag (inD false) (eC .non) (Ab 7))) (Cd (Am (Ag Dj (Ah ba_2 #v[7]) (eRng Dl #v[Ah Cs #v[1]]))) (Cp (Bh (Bc 4 j_7 #v[4,1,7,2])))) (Au (Δ2 .no))=.ok false:=by
    unfold Cd Am Ag;rw[hr]
    simp![Δ2,Δ,Ao,iq,hso,hz,ba]
   unfold at_3 Cm;rw[ht];rfl
  obtain⟨Δ',e12,a8,rfl⟩:=o_2 (gV 8) ao_7 (λ_ Δ1=>∃a8,Δ1=Δ2 a8) (ds:=Cf 0 6) (Δ:=Δ2 .no) ⟨_,rfl⟩ (λk d Δ1 hd8 hI=>by
   obtain⟨a8,rfl⟩:=hI;have hk8:k < 6/\d=.int (k:Int):=by
    unfold Cf at hd8;rw[B3]at hd8
    by_cases z:k < 6
    ·rw[E4 z]at hd8;simp only[L4,Y1,Option.some.injEq]at hd8;exact⟨z,hd8.symm⟩
    ·rw[D5 (by simp;omega)]at hd8;cases hd8
   obtain⟨k8,rfl⟩:=hk8;have kc:=de_0 (mixZ c1 (k:Int));have nn:∀z:Int,isND false (.int z) .non=.ok (.sh (.bl false)):=λ_=>rfl;refine⟨_,rfl,Δ2 (.sh (.int (k:Int))),.inl ?_,_,rfl⟩;show ao_7 (Δ2 (.sh (.int (k:Int))))=_
   simp![ao_7,Δ2,Δ,Ao,ec1,aj_0 c1 (k:Int) () (),kc.2,Ff,bx _ kc.1,nn])
  have t12:at_4 (Δ2 .no)=.nx (Δ2 a8):=by
   unfold at_4 Bw;have:Aw Dl #v[eC (.int 6)] (Bf (Δ2 .no))=.ok (Cf 0 6):=rfl;rw[this];exact e12
  rw[Bl t3,Bl t4,Bl t5,Bl t6,Bl t7,Bl t8,Bl t9,Bl t10,Bl t11,Bl t12];have gu:Bc 4 j_7 #v[4,1,7,2] (Au (Δ2 a8))=.ok (.sh (.bl true)):=by
   simp![Δ2,Δ,Ao,ba]
  unfold bo_6 Ap;rw[gu]
end My
set_option maxHeartbeats 20000000
namespace My
open PySem PyProof.Rows L2 L3
local macro_rules|`(#v[])=>`(An)|`(#v[$n:num])=>`(Ae (Ad $n) An)|`(#v[$x])=>`(Ae $x An)|`(#v[$n:num,$xs,*])=>`(Ae (Ad $n) #v[$xs,*])|`(#v[$x,$xs,*])=>`(Ae $x #v[$xs,*])
def Bk(i:Nat):Stmt:=PySem.Challenge.pw_lodge_k61_buckets_by_rule.main.body.getD i (.Pass ⟨0,0,0,0⟩)
def aa_8:Stmt->List Stmt
 | .ClassDef (body:=b) .. =>b
 |_=> []
def inC(i j:Nat):Stmt:=(aa_8 (Bk i)).getD j (.Pass ⟨0,0,0,0⟩)
abbrev AH(P:Program)(w:World)(K:Frag)(p:Str->Option Value)(r:Heap)(f:Addr)(u:FuncData)(x:Str)(i k:Nat)(ps:List Str)(n:Nat)(g:List D->R W):Prop:=Fun K x x (Bk i) f u->FnX P w K p r true k f u ps (Br K n g)
abbrev AI(P:Program)(w:World)(K:Frag)(p:Str->Option Value)(r:Heap)(f:Addr)(u:FuncData)(x:Str)(q:Str)(i j k:Nat)(ps:List Str)(n:Nat)(g:List D->R W):Prop:=Fun K x q (inC i j) f u->FnX P w K p r true k f u ps (Br K n g)
section
variable{P:Program}{w:World}{K:Frag}{p:AB}{r:Heap}{f:Addr}{u:FuncData}
abbrev TF(c:Bool)(x:Str)(k:Nat)(ps:List Str)(F:AF)(P:Program)(w:World)(K:Frag)(p:AB)(r:Heap):Prop:=FnD P w K p r c x k ps F
abbrev Lh:List Str:=["_law_script","_law_k"]
abbrev bc_3:=TF true "_law_raw" 1 Lh h_9
abbrev bc_4:=TF true "_law_mix" 1 ["_law_cell_here","_law_k"] g_6
abbrev au_5:=TF true "_law_cell" 2 Lh h_1
abbrev al_8:=TF true "_law_great" 2 ["_law_cell_here"] j_5
abbrev Le:List Str:=["_law_script","_law_start","_law_most"]
abbrev al_9:=TF true "_law_cells" 3 Le m_3
abbrev bc_5:=TF true "_law_key" 1 ["_law_cell_here"] i_8
abbrev au_6:=TF true "_law_keys" 4 Le o_3
abbrev am_0:=TF true "_law_shape" 1 ["_law_cell_here","_law_many"] o_9
abbrev L11:List Str:=["_law_number","_law_salt","_law_size"]
abbrev am_1:=TF true "_law_mixed" 1 L11 d_5
abbrev am_2:=TF true "_law_stamp" 1 ["_law_key_here"] e_9
abbrev L15:List Str:=["_law_keys_here","_law_many_buckets"]
abbrev v_1:=TF true "_law_sorted_out" 2 L15 i_0
abbrev ac_7:=TF true "_law_in_turn" 1 ["_law_stamps_of"] h_2
abbrev Lp:List Str:=["_law_stamps","_law_number","_law_taken","_law_many"]
abbrev au_7:=TF true "_law_fits" 2 Lp w_5
abbrev Lq:List Str:=["_law_keys_here","_law_many_buckets","_law_most"]
abbrev am_3:=TF true "_law_dealt" 3 Lq p_0
abbrev am_4:=TF true "_law_whole" 1 ["_law_found"] m_4
abbrev ca_9:=TF true "mixed" 1 ["number","salt","size"] aa_5
abbrev Lo:List Str:=["number","bucket_number","how_many"]
abbrev bc_6:=TF true "room_by" 2 Lo o_4
abbrev ac_8:=TF true "is_key_text" 1 ["text"] k_9
abbrev bq_2:=TF true "is_key" 2 ["thing"] r_4
abbrev cb_0:=TF true "worth" 1 ["text"] af_8
abbrev cb_1:=TF true "stamp" 3 ["key"] s_6
abbrev L16:List Str:=["number","many_buckets"]
abbrev am_5:=TF true "bucket_of" 2 L16 j_6
abbrev Ll:List Str:=["_law_house","_law_key_here","_law_dealt_here","_law_many"]
abbrev au_8:=TF true "_law_told" 7 Ll o_5
abbrev x_4:=TF true "look_each_key" 3 ["keys"] f_7
abbrev Lm:List Str:=["_law_house","_law_keys_here","_law_due","_law_dealt_here"]
abbrev am_6:=TF true "_law_lists" 8 Lm j_7
abbrev ac_9:=TF true "look_unlike" 3 ["keys"] l_1
abbrev am_7:=TF true "look_keys" 4 ["keys"] m_5
abbrev r_9:=TF true "stamps_by_bucket" 3 ["stamps","many_buckets"] g_4
abbrev Lr:List Str:=["stamps","bucket_number","how_many","taken"]
abbrev am_8:=TF true "rooms_fit" 3 Lr s_9
abbrev L17:List Str:=["stamps","how_many","taken","most"]
abbrev z_4:=TF true "least_number" 4 L17 i_1
abbrev q_2:=TF true "numbers_by_bucket" 5 ["stamps","many_buckets","most"] d_1
def bn1:= @Fun.binds1
def bn2:= @Fun.binds2
def bn3:= @Fun.binds3
def bn4:= @Fun.binds4
abbrev w_8:Stmt:=(aa_8 (Bk 5)).getD 0 (.Pass ⟨0,0,0,0⟩)
abbrev Ln:List Str:=["self","at"]
def aw_8:FnScope Ln Ln (Cc w_8):=⟨rfl,rfl,rfl,by decide +kernel,rfl,by decide +kernel,by decide +kernel⟩
def aw_9{C f:Addr}{u:FuncData}(F:Fun K "__init__" "NoFit.__init__" w_8 f u)(xc:XCls K C)(hn:findIn K (.ref C) "at" =some none):FnX P w K p r false 1 f u Ln (ad_4 C "at"):=
 bg_6 (k:=0) F aw_8 λzp A outer s H E=>an_7 (bg_5 xc hn (l_5 rfl (.inl rfl)) (l_5 rfl (.inl rfl)))
abbrev w_9:Stmt:=(aa_8 (Bk 4)).getD 0 (.Pass ⟨0,0,0,0⟩)
def ax_0:FnScope Ln Ln (Cc w_9):=⟨rfl,rfl,rfl,by decide +kernel,rfl,by decide +kernel,by decide +kernel⟩
def ax_1{C f:Addr}{u:FuncData}(F:Fun K "__init__" "Twice.__init__" w_9 f u)(xc:XCls K C)(hn:findIn K (.ref C) "at" =some none):FnX P w K p r false 1 f u Ln (ad_4 C "at"):=
 bg_6 (k:=0) F ax_0 λzp A outer s H E=>an_7 (bg_5 xc hn (l_5 rfl (.inl rfl)) (l_5 rfl (.inl rfl)))
abbrev x_0:Stmt:=(aa_8 (Bk 3)).getD 0 (.Pass ⟨0,0,0,0⟩)
def ax_2:FnScope Ln Ln (Cc x_0):=⟨rfl,rfl,rfl,by decide +kernel,rfl,by decide +kernel,by decide +kernel⟩
def ax_3{C f:Addr}{u:FuncData}(F:Fun K "__init__" "NoKey.__init__" x_0 f u)(xc:XCls K C)(hn:findIn K (.ref C) "at" =some none):FnX P w K p r false 1 f u Ln (ad_4 C "at"):=
 bg_6 (k:=0) F ax_2 λzp A outer s H E=>an_7 (bg_5 xc hn (l_5 rfl (.inl rfl)) (l_5 rfl (.inl rfl)))
variable(d4:p "len" =none)
def bv_5:AH P w K p r f u "_law_raw" 33 1 Lh 2 h_9:=λF=>Ch (N:= Lh) F λzq m d a o=>(Ba (Du [0,1] (Dk bs_0 (Ad 1) (Dd Fa rfl d4 D9 #v[0]) (Dr _))
   (Be (Bz [0,1] (Fg (Ad 0) (Ad 1))))
   Dx)
  (Be (Bz [] Ar)))
def bv_6:AH P w K p r f u "_law_mix" 32 1 ["_law_cell_here","_law_k"] 2 g_6:=λF=>Ch (N:=["_law_cell_here","_law_k","_law_first"]) F λzq m d a o=>(Ba (Bt (i:=2) [0,1] (At Ed (At Er (At Cg (Ad 0) Ar) (At Cg Ar (At Er Ar (Ad 1)))) Ar) a)
  (Be (Bz [1,2] (At Ed (At Cg (At Cg (At Er (At l_2 (Ad 2) Ar) Ar) (At Er (Ad 2) (At Cg (At Er (Ad 1) (Ad 1)) Ar))) (Ad 1)) Ar))))
variable(f9:bc_4 P w K p r)(i6:bc_3 P w K p r)
def bq_3:AH P w K p r f u "_law_cell" 34 2 Lh 2 h_1:=λF=>Ch (N:= Lh) F λzq m d a o=>(Be (Bz [0,1] (Bm m o f9 #v[At Ed (Bm m o i6 #v[0,1]) Ar,At Cg (Ad 1) Ar])))
def bi_0:AH P w K p r f u "_law_great" 36 2 ["_law_cell_here"] 1 j_5:=λF=>Ch (N:=["_law_cell_here"]) F λzq m d a o=>(Be (Bz [0] (At Cg (At Er (At Cg (At Er (Bm m o f9 #v[0,Ar]) Ar) (Bm m o f9 #v[0,Ar])) Ar) (Bm m o f9 #v[0,Ar]))))
variable(k4:au_5 P w K p r)(p9:al_8 P w K p r)(v9:p "max" =none)(d9:p "range" =none)(ab7:p "min" =none)
abbrev Lf:List Str:=["_law_script","_law_start","_law_most","_law_cells_here","_law_many","_law_k"]
def bi_1:AH P w K p r f u "_law_cells" 37 3 Le 3 m_3:=λF=>Ch (N:=["_law_script","_law_start","_law_most","_law_cells_here","_law_many"]) F λzq m d a o=>(Ba (Bt (i:=3) [0,1] (Dd (u_1 zq) rfl v9 N8 #v[Ar,At an_8 (Dd Fa rfl d4 D9 #v[0]) (Ad 1)]) a)
  (Ba (Du [0] (Dk (p_5 d) (At Ed (Bm m o i6 #v[0,Ar]) Ar) Ar (Dr _))
   (Be (Bz [0,1,2,3] (o_7 (N':= Lf) zq (Eb (m_1 d9 #v[Dd (ah_7 (cn_5 zq)) rfl ab7 W1 #v[2,3]])) ⟨rfl,by rfl',rfl,λC s0 H0 fp pn=>⟨(gcM (i:=5)),v_7,(Bm (i_7 m) o_6 i6 #v[0,At Cg (Ad 1) (Ad 5)])⟩⟩)))
   Dx)
  (Ba (Bt (i:=4) [0,2,3] (Dd (ah_7 zq) rfl ab7 W1 #v[2,Dd (u_1 zq) rfl v9 N8 #v[3,At Cg Ar (At Ed (Bm m o k4 #v[0,Ar]) (Ad 2))]]) a)
  (Be (Bz [0,1,3,4] (o_7 (N':= Lf) zq (Eb (m_1 d9 #v[4])) ⟨rfl,by rfl',rfl,λC s0 H0 fp pn=>⟨(gcM (i:=5)),v_7,(Bm (i_7 m) o_6 p9 #v[Bm (i_7 m) o_6 f9 #v[Bm (i_7 m) o_6 k4 #v[0,At Cg (Ad 1) (At Ed (Ad 5) (Dd (u_1 (cd_8 zq)) rfl v9 N8 #v[Ar,3]))],5]])⟩⟩))))))
variable(o9:p "int" =none)
def bv_7:AH P w K p r f u "_law_key" 35 1 ["_law_cell_here"] 1 i_8:=λF=>Ch (N:=["_law_cell_here","_law_signs","_law_rest","_law_found","_law_size","_law_k"]) F λzq m d a o=>(Ba (Bt (i:=1) [] br_9 a)
  (Ba (Bt (i:=2) [0] (At l_2 (Ad 0) Ar) a)
  (Ba (Du [0] (Dk (p_5 d) (At Ed (Ad 0) Ar) Ar (Dr _))
   (Be (Bz [2] (At Ed (Ad 2) (At cw_2 Ar Ar))))
   Dx)
  (Ba (Du [0] (Dk (p_5 d) (At Ed (Ad 0) Ar) Ar (Dr _))
   (Be (Bz [2] (At Ed (Ad 2) Ar)))
   Dx)
  (Ba (Bt (i:=3) [] br_9 a)
  (Ba (Bt (i:=4) [2] (At Ed (Ad 2) Ar) a)
  (Ba (j_3 [4] d_2 zq (m_1 d9 #v[4]) (j_1 (i:=5) a)
   (Ba (Bt (i:=2) [2,5] (At l_2 (Ad 2) (Fg (l_7 #v[Ar,Ar]) (aa_0 aq_1 rfl o9 N9 #v[ad_1 ck_0 (Ad 5) Ar (Dr _)]))) a)
  (Be (Bt (i:=3) [1,2,3] (At Cg (Ad 3) (Fg (Ad 1) (At Ed (Ad 2) Ar))) a))))
  (Be (m_9 3)))))))))
variable(p5:al_9 P w K p r)(l6:bc_5 P w K p r)
def bq_4:AH P w K p r f u "_law_keys" 38 4 Le 3 o_3:=λF=>Ch (N:=["_law_script","_law_start","_law_most","_law_found","_law_cell_here","_law_key_here"]) F λzq m d a o=>(Ba (Bt (i:=3) [] (l_7 An) a)
  (Ba (j_3 [0,1,2] d_2 zq (o_0 (Bm m o p5 #v[0,1,2])) (j_1 (i:=4) a)
   (Ba (Bt (i:=5) [4] (Bm m o l6 #v[4]) a)
  (Be (Du [3,5] (Dk cd_3 (Ad 5) (Ad 3) (by with_unfolding_all rfl))
   (Be (ck_8 (i:=3) (Ad 5)))
   Dx))))
  (Ba (Du [3] (Dk (p_5 d) (Ad 3) (l_7 An) (Dr _))
   (Be (Bt (i:=3) [0] (l_7 #v[Bm m o l6 #v[At l_2 (Bm m o i6 #v[0,Ar]) Ar]]) a))
   Dx)
  (Be (m_9 3)))))
def bi_2:AH P w K p r f u "_law_shape" 42 1 ["_law_cell_here","_law_many"] 2 o_9:=λF=>Ch (N:=["_law_cell_here","_law_many","_law_most","_law_buckets"]) F λzq m d a o=>(@Ba _ _ _ _ _ _ (Bt (i:=2) [0] (@Fg _ _ _ _ _ _ _ (@l_7 _ _ _ _ _ (@Ae _ _ _ _ _ _ (At Cg Ar (At Ed (At l_2 (Ad 0) Ar) Ar)) #v[Ar,Ar,Ar] rfl)) (At Ed (Ad 0) Ar) (λ_ _=>rfl)) a)
  (@Ba _ _ _ _ _ _ (Bt (i:=3) [0,1] (@Fg _ _ _ _ _ _ _ (@l_7 _ _ _ _ _ (@Ae _ _ _ _ _ _ (At Cg Ar (At Ed (At l_2 (Ad 0) Ar) Ar)) (@Ae _ _ _ _ _ _ (At Cg Ar (At Ed (At l_2 (Ad 0) Ar) Ar)) (@Ae _ _ _ _ _ _ (Dd (u_1 zq) rfl v9 N8 #v[Ar,At l_2 (Ad 1) Ar]) #v[Dd (u_1 zq) rfl v9 N8 #v[Ar,At l_2 (Ad 1) Ar]] rfl) rfl) rfl)) (At Ed (At l_2 (Ad 0) Ar) Ar) (λ_ _=>rfl)) a)
  (Be (Bz [2,3] (cj_3 #v[3,2])))))
def bi_3:AH P w K p r f u "_law_mixed" 40 1 L11 3 d_5:=λF=>Ch (N:=["_law_number","_law_salt","_law_size","_law_prime","_law_a","_law_b","_law_first"]) F λzq m d a o=>(Ba (Bt (i:=3) [] Ar a)
  (Ba (Bt (i:=4) [1,3] (At Cg Ar (At Ed (At Cg (At Er Ar (Ad 1)) Ar) (At an_8 (Ad 3) Ar))) a)
  (Ba (Bt (i:=5) [1,3] (At Ed (At Cg (At Er (At Er Ar (Ad 1)) (Ad 1)) (At Er Ar (Ad 1))) (Ad 3)) a)
  (Ba (Bt (i:=6) [0,3,4,5] (At Ed (At Cg (At Er (Ad 4) (Ad 0)) (Ad 5)) (Ad 3)) a)
  (Be (Bz [2,6] (At Ed (At Cg (Ad 6) (At l_2 (Ad 6) Ar)) (Ad 2))))))))
variable(b9:p "isinstance" =none)(l4:KitT K "int")
def bi_4:AH P w K p r f u "_law_stamp" 39 1 ["_law_key_here"] 1 e_9:=λF=>Ch (N:=["_law_key_here","_law_worth","_law_sign"]) F λzq m d a o=>(Ba (Du [0] (h_4 (r_2 l4 (Ad 0) b9 o9 N9))
   (Be (Bz [0] (At Er Ar (Ad 0))))
   Dx)
  (Ba (Bt (i:=1) [] Ar a)
  (Ba (j_3 [0] d_2 zq (o_0 (Ad 0)) (j_1 (i:=2) a)
   (Be (Bt (i:=1) [1,2] (At Cg (At Cg (At Er (Ad 1) Ar) (bx_5 ZC3 PySem.F.slot_str_index PySem.F.type_str_index ce_1 br_9 #v[2])) Ar) a)))
  (Be (Bz [1] (At Cg (At Er Ar (Ad 1)) Ar))))))
variable(d6:am_1 P w K p r)(j4:am_2 P w K p r)
def ah_2:AH P w K p r f u "_law_sorted_out" 44 2 L15 2 i_0:=λF=>Ch (N:=["_law_keys_here","_law_many_buckets","_law_found","_law_key_here"]) F λzq m d a o=>(Ba (db_7 (N':=["_law_keys_here","_law_many_buckets","_law_found","_law_key_here","_law_bucket"]) (i:=2) [1] zq (m_1 d9 #v[1]) rfl ∅ rfl (λC s0 H0 fp pn=>(gcM (i:=4))) a)
  (Ba (j_3 [0] d_2 zq (o_0 (Ad 0)) (j_1 (i:=3) a)
   (Be (db_8 (i:=2) (Bm m o d6 #v[Bm m o j4 #v[3],Ar,1]) (Bm m o j4 #v[3]))))
  (Be (m_9 2))))
variable(j9:p "reversed" =none)
def au_9:AH P w K p r f u "_law_in_turn" 45 1 ["_law_stamps_of"] 1 h_2:=λF=>Ch (N:=["_law_stamps_of","_law_order","_law_size"]) F λzq m d a o=>(Ba (Bt (i:=1) [] (l_7 An) a)
  (Ba (j_3 [0] d_2 zq (db_6 j9 d9 #v[(At Cg Ar (Dd (cf_2 zq) rfl v9 N8 #v[(o_7 (N':=["_law_stamps_of","_law_order","_law_size","_law_stamps"]) zq (Eb (o_0 (Ad 0))) ⟨rfl,by rfl',rfl,λC s0 H0 fp pn=>⟨(gcM (i:=3)),v_7,(Dd Fa rfl d4 D9 #v[3])⟩⟩)]))]) (j_1 (i:=2) a)
   (Be (Bt (i:=1) [0,1,2] (At Cg (Ad 1) (o_7 (N':=["_law_stamps_of","_law_order","_law_size","_law_bucket"]) zq (Eb (m_1 d9 #v[Dd Fa rfl d4 D9 #v[0]])) ⟨rfl,by rfl',rfl,λC s0 H0 fp pn=>⟨(gcM (i:=3)),(bs_8 (Dk (p_5 d) (Dd Fa rfl d4 D9 #v[Fg (Ad 0) (Ad 3)]) (Ad 2) (Dr _))),(Ad 3)⟩⟩)) a)))
  (Be (m_9 1))))
variable(ag1:p "set" =none)
def bq_5:AH P w K p r f u "_law_fits" 43 2 Lp 4 w_5:=λF=>Ch (N:=["_law_stamps","_law_number","_law_taken","_law_many","_law_rooms"]) F λzq m d a o=>(Ba (bx_4 (i:=4) [0,1,3] (N':=["_law_stamps","_law_number","_law_taken","_law_many","_law_rooms","_law_one"]) zq (Eb (o_0 (Ad 0))) ⟨rfl,by rfl',rfl,λC s0 H0 fp pn=>⟨(gcM (i:=5)),v_7,(Bm (i_7 m) o_6 d6 #v[5,At Cg (Ad 1) Ar,3])⟩⟩ a)
  (Ba (Du [4] (Dk bs_0 (ce_3 zq d4 ag1 (Ad 4)) (Dd Fa rfl d4 D9 #v[4]) (Dr _))
   (Be (Bz [] u_0))
   Dx)
  (Be (Bz [2,4] (ad_1 (p_5 d) (o_7 (N':=["_law_stamps","_law_number","_law_taken","_law_many","_law_rooms","_law_room"]) zq (Eb (o_0 (Ad 4))) ⟨rfl,by rfl',rfl,λC s0 H0 fp pn=>⟨(gcM (i:=5)),(bs_8 (Dk (be_8 d) (Ad 5) (Ad 2) (by with_unfolding_all rfl))),(Ad 5)⟩⟩) (l_7 An) (Dr _))))))
variable(j7:v_1 P w K p r)(n5:ac_7 P w K p r)(y3:au_7 P w K p r)
def bi_5:AH P w K p r f u "_law_dealt" 46 3 Lq 3 p_0:=λF=>Ch (N:=["_law_keys_here","_law_many_buckets","_law_most","_law_stamps_of","_law_taken","_law_found","_law_bucket","_law_number","_law_one"]) F λzq m d a o=>(Ba (Bt (i:=3) [0,1] (Bm m o j7 #v[0,1]) a)
  (Ba (Bt (i:=4) [] aa_2 a)
  (Ba (Bt (i:=5) [1] (dk_8 #v[Ar] (Ad 1)) a)
  (Ba (j_3 [3] d_2 zq (o_0 (Bm m o n5 #v[3])) (j_1 (i:=6) a)
   (Ba (Bt (i:=7) [] Ar a)
  (Ba (ck_4 [0,2,3,4,6,7] 3000 d_2 (td_w (dj_3 (Dk bs_0 (Ad 7) (Ad 2) (Dr _)) (cv_4 (ad_3 (h_4 (Bm m o y3 #v[Fg (Ad 3) (Ad 6),7,4,Dd Fa rfl d4 D9 #v[0]]))))))
   (Be (Bt (i:=7) [7] (At Cg (Ad 7) Ar) a)))
  (Ba (Du [2,7] (Dk (p_5 d) (Ad 7) (Ad 2) (Dr _))
   (Be (m_9 6))
   Dx)
  (Ba (cx_4 (i:=5) (Ad 7) (Ad 6))
  (Be (j_3 [3,6] d_2 zq (o_0 (Fg (Ad 3) (Ad 6))) (j_1 (i:=8) a)
   (Be (af_1 (i:=4) [] d u_0 (Bm m o d6 #v[8,At Cg (Ad 7) Ar,Dd Fa rfl d4 D9 #v[0]]))))))))))
  (Be (m_9 5))))))
variable(x9:p "bool" =none)(l9:KitT K "bool")
def bi_6:AH P w K p r f u "_law_whole" 41 1 ["_law_found"] 1 m_4:=λF=>Ch (N:=["_law_found"]) F λzq m d a o=>(Be (Bz [0] (ap_7 (r_2 l4 (Ad 0) b9 o9 N9) (bd_8 (dj_4 (r_2 l9 (Ad 0) b9 x9 ah_8))))))
variable{ah5:Tok}(y4:p "PRIME" =some (.int 2305843009213693951 ah5))
def ct_4:AH P w K p r f u "mixed" 16 1 ["number","salt","size"] 3 aa_5:=λF=>Ch (N:=["number","salt","size","factor","shift","first"]) F λzq m d a o=>(Ba (Du [2] (Dk (p_5 d) (Ad 2) Ar (Dr _))
   (Be (Bz [] Ar))
   Dx)
  (Ba (Bt (i:=3) [1] (At Cg Ar (At Ed (At Cg (At Er Ar (Ad 1)) Ar) (At an_8 (v_5 rfl y4) Ar))) a)
  (Ba (Bt (i:=4) [1] (At Ed (At Cg (At Er (At Er Ar (Ad 1)) (Ad 1)) (At Er Ar (Ad 1))) (v_5 rfl y4)) a)
  (Ba (Bt (i:=5) [0,3,4] (At Ed (At Cg (At Er (Ad 3) (Ad 0)) (Ad 4)) (v_5 rfl y4)) a)
  (Be (Bz [2,5] (At Ed (At Cg (Ad 5) (At l_2 (Ad 5) Ar)) (Ad 2))))))))
variable(y6:ca_9 P w K p r)
def bv_8:AH P w K p r f u "room_by" 25 2 Lo 3 o_4:=λF=>Ch (N:= Lo) F λzq m d a o=>(Be (Bz [0,1,2] (Bm m o y6 #v[0,At Cg (Ad 1) Ar,2])))
variable(ah3:p "all" =none){ac3:Tok}(o6:p "MOST_SIGNS" =some (.int 11 ac3)){ah8:Tok}(y7:p "SIGNS" =some (.str "abcdefghijklmnopqrstuvwxyz0123456789-_ " ah8))
def av_0:AH P w K p r f u "is_key_text" 12 1 ["text"] 1 k_9:=λF=>Ch (N:=["text"]) F λzq m d a o=>(Be (Bz [0] (ap_7 (ad_1 bs_1 (Dd Fa rfl d4 D9 #v[0]) (v_5 rfl o6) (Dr _)) (bd_8 (Dd (ce_0 zq) rfl ah3 PyProof.Rows.boot_all #v[(o_7 (N':=["text","sign"]) zq (Eb (o_0 (Ad 0))) ⟨rfl,by rfl',rfl,λC s0 H0 fp pn=>⟨(gcM (i:=1)),v_7,(ad_1 ck_1 (Ad 1) (bw_9 rfl y7) (by with_unfolding_all rfl))⟩⟩)])))))
variable(n6:ac_8 P w K p r)(ac6:p "str" =none)(z6:KitT K "str"){aa1:Tok}(j5:p "GREATEST_NUMBER" =some (.int 999999999999999999 aa1))
def cg_5:AH P w K p r f u "is_key" 13 2 ["thing"] 1 r_4:=λF=>Ch (N:=["thing"]) F λzq m d a o=>(Ba (Du [0] (h_4 (r_2 l9 (Ad 0) b9 x9 ah_8))
   (Be (Bz [] u_0))
   Dx)
  (Ba (Du [0] (h_4 (r_2 l4 (Ad 0) b9 o9 N9))
   (Be (Bz [0] (cj_2 bs_1 bs_1 Ar (Ad 0) (v_5 rfl j5))))
   Dx)
  (Be (Bz [0] (ap_7 (r_2 z6 (Ad 0) b9 ac6 PyProof.Rows.boot_str) (bd_8 (Bm m o n6 #v[0])))))))
def ct_5:AH P w K p r f u "worth" 14 1 ["text"] 1 af_8:=λF=>Ch (N:=["text","total","sign"]) F λzq m d a o=>(Ba (Bt (i:=1) [] Ar a)
  (Ba (j_3 [0] d_2 zq (o_0 (Ad 0)) (j_1 (i:=2) a)
   (Be (Bt (i:=1) [1,2] (At Cg (At Cg (At Er Ar (Ad 1)) (bx_5 ZC3 PySem.F.slot_str_find PySem.F.type_str_find cl_2 (bw_9 rfl y7) #v[2])) Ar) a)))
  (Be (m_9 1))))
variable(q8:bq_2 P w K p r)(ab8:cb_0 P w K p r){o8:Addr}(y9:XC P w K p r "NoKey" "at" o8)
def ct_6:AH P w K p r f u "stamp" 15 3 ["key"] 1 s_6:=λF=>Ch (N:=["key"]) F λzq m d a o=>(Ba (Du [0] (ad_3 (h_4 (Bm m o q8 #v[0])))
   (Be (af_4 [] y9 (RoomC.mono m ⋯) af_3 Ar))
   Dx)
  (Ba (Du [0] (h_4 (r_2 z6 (Ad 0) b9 ac6 PyProof.Rows.boot_str))
   (Be (Bz [0] (At Cg (At Er Ar (Bm m o ab8 #v[0])) Ar)))
   Dx)
  (Be (Bz [0] (At Er Ar (Ad 0))))))
variable(j6:OFld K ["Buckets"] "by_bucket")
def z_5:AI P w K p r f u "number_in" "Buckets.number_in" 30 3 1 ["self","bucket"] 2 c_4:=λF=>Ch (N:=["self","bucket"]) F λzq m d a o=>(Be (Bz [0,1] (cy_1 d (ai_2 j6 (Ad 0)) (Ad 1) Ar)))
variable{ab6:Tok}(m8:p "BUCKET_SALT" =some (.int 0 ab6))
def bi_7:AH P w K p r f u "bucket_of" 24 2 L16 2 j_6:=λF=>Ch (N:= L16) F λzq m d a o=>(Be (Bz [0,1] (Bm m o y6 #v[0,v_5 rfl m8,1])))
variable(k7:am_5 P w K p r)(o7:cb_1 P w K p r)(d5:OFld K ["Buckets"] "many_buckets")
abbrev Lv:List Str:=["self","key"]
def ah_3:AI P w K p r f u "bucket" "Buckets.bucket" 30 2 4 Lv 2 b_7:=λF=>Ch (N:= Lv) F λzq m d a o=>(Be (Bz [0,1] (Bm m o k7 #v[Bm m o o7 #v[1],ai_2 d5 (Ad 0)])))
variable(j8:bc_6 P w K p r)(d0:MethT P w K p r true 1 1 "number_in" [("Buckets",c_4)])(f8:MethT P w K p r true 4 1 "bucket" [("Buckets",b_7)])(f7:OFld K ["Buckets"] "how_many")
def z_6:AI P w K p r f u "number_of" "Buckets.number_of" 30 4 5 Lv 2 d_0:=λF=>Ch (N:= Lv) F λzq m d a o=>(Be (Bz [0,1] (Bm m o j8 #v[Bm m o o7 #v[1],n_2 d0 m o (Ad 0) #v[n_2 f8 m o (Ad 0) #v[1]],ai_2 f7 (Ad 0)])))
variable(i8:MethT P w K p r true 5 1 "number_of" [("Buckets",d_0)])
def an_4:AI P w K p r f u "room" "House.room" 21 2 6 Lv 2 c_7:=λF=>Ch (N:= Lv) F λzq m d a o=>(Be (Bz [0,1] (Dd (ah_7 zq) rfl ab7 W1 #v[n_2 i8 m o (Ad 0) #v[1],At an_8 (ai_2 f7 (Ad 0)) Ar])))
variable(k6:am_4 P w K p r)(g9:MethT P w K p r true 6 1 "room" [("Buckets",c_7)])(ag9:p "zip" =none)
def bq_6:AH P w K p r f u "_law_told" 47 7 Ll 4 o_5:=λF=>Ch (N:=["_law_house","_law_key_here","_law_dealt_here","_law_many","_law_number","_law_bucket","_law_room","_law_found","_law_due"]) F λzq m d a o=>(Ba (Bt (i:=4) [1] (Bm m o j4 #v[1]) a)
  (Ba (Bt (i:=5) [2,4] (Bm m o d6 #v[4,Ar,Dd Fa rfl d4 D9 #v[2]]) a)
  (Ba (Bt (i:=6) [2,3,4,5] (Bm m o d6 #v[4,At Cg (Fg (Ad 2) (Ad 5)) Ar,3]) a)
  (Ba (j_3 [0,1,5,6] d_2 zq (dl_1 ag9 #v[l_7 #v[n_2 f8 m o (Ad 0) #v[1],n_2 g9 m o (Ad 0) #v[1]],l_7 #v[5,6]]) (bs_6 (i:=7) (j:=8) zq a)
   (Be (Du [7,8] (td_w (Fh (ad_3 (h_4 (Bm m o k6 #v[7]))) (ad_2 (Dk (x_9 d) (Ad 7) (Ad 8) (Dr _)))))
   (Be (Bz [] v_4))
   Dx)))
  (Be (m_9 6))))))
variable(k9:p "enumerate" =none)
def aj_6:AH P w K p r f u "look_each_key" 17 3 ["keys"] 1 f_7:=λF=>Ch (N:=["keys","place","key"]) F λzq m d a o=>(Be (j_3 [0] d_2 zq (bx_8 k9 (Ad 0)) (bs_6 (i:=1) (j:=2) zq a)
   (Be (Du [2] (ad_3 (h_4 (Bm m o q8 #v[2])))
   (Be (af_4 [1] y9 (RoomC.mono m ⋯) af_3 (Ad 1)))
   Dx))))
variable(g8:x_4 P w K p r)
def aj_7:AI P w K p r f u "rooms" "House.rooms" 21 3 7 ["self","keys"] 2 b_2:=λF=>Ch (N:=["self","keys"]) F λzq m d a o=>(Ba (be_2 [1] (Bm m o g8 #v[1]))
  (Be (Bz [0,1] (o_7 (N':=["self","keys","key"]) zq (Eb (o_0 (Ad 1))) ⟨rfl,by rfl',rfl,λC s0 H0 fp pn=>⟨(gcM (i:=2)),v_7,(n_2 g9 (i_7 m) o_6 (Ad 0) #v[2])⟩⟩))))
def ae_1:AI P w K p r f u "numbers" "Buckets.numbers" 30 1 2 ["self"] 1 c_5:=λF=>Ch (N:=["self"]) F λzq m d a o=>(Be (Bz [0] (o_7 (N':=["self","bucket"]) zq (Eb (m_1 d9 #v[ai_2 d5 (Ad 0)])) ⟨rfl,by rfl',rfl,λC s0 H0 fp pn=>⟨(gcM (i:=1)),v_7,(n_2 d0 (i_7 m) o_6 (Ad 0) #v[1])⟩⟩)))
def an_5:AI P w K p r f u "many" "House.many" 21 1 1 ["self"] 1 f_4:=λF=>Ch (N:=["self"]) F λzq m d a o=>(Be (Bz [0] (ai_2 f7 (Ad 0))))
variable(d8:MethT P w K p r true 7 1 "rooms" [("Buckets",b_2)])(g7:MethT P w K p r true 2 0 "numbers" [("Buckets",c_5)])(l0:MethT P w K p r true 1 0 "many" [("Buckets",f_4)])(m9:p "list" =none)(u6:KitT K "list")
def bi_8:AH P w K p r f u "_law_lists" 48 8 Lm 4 j_7:=λF=>Ch (N:=["_law_house","_law_keys_here","_law_due","_law_dealt_here","_law_found"]) F λzq m d a o=>(Ba (Du [0,1,2] (td_w (Fh (Dk (x_9 d) (n_2 d8 m o (Ad 0) #v[aa_0 ak_0 rfl m9 N3 #v[1]]) (Ad 2) (Dr _)) (ad_2 (Dk (x_9 d) (n_2 d8 m o (Ad 0) #v[as_0 zq m9 j9 (Ad 1)]) (as_0 zq m9 j9 (Ad 2)) (Dr _)))))
   (Be (Bz [] u_0))
   Dx)
  (Ba (Bt (i:=4) [0] (ar_5 g7 m o (Ad 0)) a)
  (Ba (Du [3,4] (td_w (Fh (ad_3 (h_4 (r_2 u6 (Ad 4) b9 m9 N3))) (Fh (Dk (x_9 d) (Ad 4) (Ad 3) (Dr _)) (ad_2 (Dk (x_9 d) (o_7 (N':=["_law_house","_law_keys_here","_law_due","_law_dealt_here","_law_found","_law_one"]) zq (Eb (o_0 (Ad 4))) ⟨rfl,by rfl',rfl,λC s0 H0 fp pn=>⟨(gcM (i:=5)),(bs_8 (ad_3 (h_4 (Bm (i_7 m) o_6 k6 #v[5])))),(Ad 5)⟩⟩) (l_7 An) (Dr _))))))
   (Be (Bz [] u_0))
   Dx)
  (Ba (ck_8 (i:=4) Ar)
  (Ba (da_1 (n_2 d8 m o (Ad 0) #v[cl_1 (Ad 1) cw_9 (cx_0 Ar)]) Ar)
  (Be (Bz [0,1,3] (ap_7 (ad_1 (p_5 d) (ar_5 g7 m o (Ad 0)) (Ad 3) (Dr _)) (ap_7 (ad_1 (p_5 d) (n_2 d8 m o (Ad 0) #v[l_7 An]) (l_7 An) (Dr _)) (bd_8 (ad_1 (p_5 d) (ar_5 l0 m o (Ad 0)) (Dd Fa rfl d4 D9 #v[1]) (Dr _))))))))))))
variable{o5:Addr}(ac4:XC P w K p r "Twice" "at" o5)
def av_1:AH P w K p r f u "look_unlike" 18 3 ["keys"] 1 l_1:=λF=>Ch (N:=["keys","seen","place","key"]) F λzq m d a o=>(Ba (Bt (i:=1) [] aa_2 a)
  (Be (j_3 [0] d_2 zq (bx_8 k9 (Ad 0)) (bs_6 (i:=2) (j:=3) zq a)
   (Ba (Du [1,3] (Dk (be_8 d) (Ad 3) (Ad 1) (by with_unfolding_all rfl))
   (Be (af_4 [2] ac4 (RoomC.mono m ⋯) af_3 (Ad 2)))
   Dx)
  (Be (af_1 (i:=1) [] d u_0 (Ad 3)))))))
variable(m7:ac_9 P w K p r){l8:Addr}(aa5:XC0 K p "NoKeys" l8){ad0:Tok}(u0:p "MOST_KEYS" =some (.int 200 ad0))
def bi_9:AH P w K p r f u "look_keys" 19 4 ["keys"] 1 m_5:=λF=>Ch (N:=["keys"]) F λzq m d a o=>(Ba (Du [0] (td_w (Fh (Dk (p_5 d) (Dd Fa rfl d4 D9 #v[0]) Ar (Dr _)) (ad_2 (Dk ck_0 (Dd Fa rfl d4 D9 #v[0]) (v_5 rfl u0) (Dr _)))))
   (Be (cf_1 aa5 (RoomC.mono m ⋯) af_3))
   Dx)
  (Ba (be_2 [0] (Bm m o g8 #v[0]))
  (Ba (be_2 [0] (Bm m o m7 #v[0]))
  (Be (Bz [0] (Dd Fa rfl d4 D9 #v[0]))))))
def ab_2:AH P w K p r f u "stamps_by_bucket" 26 3 ["stamps","many_buckets"] 2 g_4:=λF=>Ch (N:=["stamps","many_buckets","found","number"]) F λzq m d a o=>(Ba (Bt (i:=2) [] aa_2 a)
  (Ba (j_3 [0] d_2 zq (o_0 (Ad 0)) (j_1 (i:=3) a)
   (Be (dm_3 (i:=2) (Bm m o k7 #v[3,1]) (Ad 3))))
  (Be (m_9 2))))
def bj_0:AH P w K p r f u "rooms_fit" 27 3 Lr 4 s_9:=λF=>Ch (N:=["stamps","bucket_number","how_many","taken","own","number","room"]) F λzq m d a o=>(Ba (Bt (i:=4) [] aa_2 a)
  (Ba (j_3 [0] d_2 zq (o_0 (Ad 0)) (j_1 (i:=5) a)
   (Ba (Bt (i:=6) [1,2,5] (Bm m o j8 #v[5,1,2]) a)
  (Ba (Du [3,4,6] (td_w (Fh (Dk (be_8 d) (Ad 6) (Ad 3) (by with_unfolding_all rfl)) (ad_2 (Dk (be_8 d) (Ad 6) (Ad 4) (by with_unfolding_all rfl)))))
   (Be (Bz [] u_0))
   Dx)
  (Be (af_1 (i:=4) [] d u_0 (Ad 6))))))
  (Be (Bz [] u_0))))
variable(r6:am_8 P w K p r)
def an_6:AH P w K p r f u "least_number" 28 4 L17 4 i_1:=λF=>Ch (N:=["stamps","how_many","taken","most","bucket_number"]) F λzq m d a o=>(Ba (j_3 [3] d_2 zq (m_1 d9 #v[3]) (j_1 (i:=4) a)
   (Be (Du [0,1,2,4] (h_4 (Bm m o r6 #v[0,4,1,2]))
   (Be (m_9 4))
   Dx)))
  (Be (Bz [] v_4)))
variable(j3:r_9 P w K p r)(l7:z_4 P w K p r)(p8:p "sorted" =none){i7:Addr}(ac0:XC P w K p r "NoFit" "at" i7){cT:Addr}{pT:Addr}(bh:PySem.W.tabIn K "numbers_by_bucket" =some (cT,pT))(ai0:PySem.W.codeHdIn K cT pT=true)
def z_7(F:Fun K "numbers_by_bucket" "numbers_by_bucket" (Bk 29) f u)(ah:u.code=.ref cT):FnX P w K p r true 5 f u ["stamps","many_buckets","most"] (Br K 3 d_1):=
 dr_5 (N:=["stamps","many_buckets","most","within","taken","numbers","bucket","found","number"]) F ah λzq m d a o=>(Ba (Bt (i:=3) [0,1] (Bm m o j3 #v[0,1]) a)
  (Ba (Bt (i:=4) [] aa_2 a)
  (Ba (Bt (i:=5) [] aa_2 a)
  (Ba (j_3 [3] d_2 zq (o_0 (cp_2 zq m p8 bh ai0 (Ad 3) ⟨rfl,rfl,rfl,rfl,rfl,rfl,by rfl',λ_ _ _ _ _=>rfl,λA f c s H zd d=>(cj_3 #v[dk_5 (Dd Fa rfl d4 D9 #v[be_9 d (Ad 3) (Ad 9)]),9])⟩)) (j_1 (i:=6) a)
   (Ba (da_6 (i:=7) (da_5 [4] (Bm m (Lk.lend o) l7 #v[be_9 d (Ad 3) (Ad 6),Dd Fa rfl d4 D9 #v[0],4,2])) a)
  (Ba (Du [7] (Dk be_5 (Ad 7) v_4 (Dr _))
   (Be (af_4 [6] ac0 (RoomC.mono m ⋯) af_3 (Ad 6)))
   Dx)
  (Ba (af_1 (i:=5) [7] d (Ad 7) (Ad 6))
  (Be (j_3 [3,6] d_2 zq (o_0 (be_9 d (Ad 3) (Ad 6))) (j_1 (i:=8) a)
   (Be (af_1 (i:=4) [] d u_0 (Bm m o j8 #v[8,7,Dd Fa rfl d4 D9 #v[0]])))))))))
  (Be (m_9 5))))))
def s_0(F:Fun K "__init__" "House.__init__" (inC 21 0) f u){CI:Addr}(hCI:ClsAt K "Buckets" CI):FnX P w K p r true 1 f u ["self","how_many"] (spI K CI 1 c_9):=
 df_0 (n:=1) (cn:= "Buckets") (N:=["self","how_many"]) F hCI ⋯ ⋯ λzq m d a o=>(Be (bf_1 (i:=0) [1] f7 (Ad 1)))
variable(u7:am_7 P w K p r)(i9:q_2 P w K p r)(f6:MakB P w K p r true "House" "Buckets" 1 1 c_9)
abbrev L14:List Str:=["self","keys","many_buckets","most"]
def ab_3(F:Fun K "__init__" "Buckets.__init__" (inC 30 0) f u){CI:Addr}(hCI:ClsAt K "Buckets" CI):FnX P w K p r true 6 f u L14 (spI K CI 3 m_6):=
 df_0 (n:=3) (cn:= "Buckets") (N:= L14) F hCI ⋯ ⋯ λzq m d a o=>(Ba (cn_8 (i:=0) [1] m o f6 (Bm m o u7 #v[1]))
  (Ba (bf_1 (i:=0) [2] d5 (Ad 2))
  (Be (bf_1 (i:=0) [1,2,3] j6 (Bm m o i9 #v[(o_7 (N':=["self","keys","many_buckets","most","key"]) zq (Eb (o_0 (Ad 1))) ⟨rfl,by rfl',rfl,λC s0 H0 fp pn=>⟨(gcM (i:=4)),v_7,(Bm (i_7 m) o_6 o7 #v[4])⟩⟩),2,3])))))
variable(y1:au_6 P w K p r)(q9:am_0 P w K p r)(p4:am_3 P w K p r)(n9:au_8 P w K p r)(m6:am_6 P w K p r)(y2:MakD P w K p r true "Buckets" 6 3 m_6)(y8:p "NoFit" =some (.ref i7))(ab0:Catches K i7 L46)(ag3:XGets K L13 "at")
def dn_1:AH P w K p r f u "law" 49 9 ["_law_script"] 1 cp_8:=λF=>Ch (N:=["_law_script","_law_keys_here","_law_dealt_here","_law_handed","_law_house","_law_bad","error","_law_rooms","_law_k","_law_buckets","_law_most"]) F λzq m d a o=>(Ba (Bt (i:=1) [0] (Bm m o y1 #v[0,Ar,Ar]) a)
  (Ba (dk_9 [0,1] (Bm m o q9 #v[Bm m o i6 #v[0,Ar],Dd Fa rfl d4 D9 #v[1]]) (cx_7 (i:=9) (j:=10) zq a))
  (Ba (Bt (i:=2) [1,9,10] (Bm m o p4 #v[1,9,10]) a)
  (Ba (Bt (i:=3) [1] (aa_0 ak_0 rfl m9 N3 #v[1]) a)
  (Ba (Bt (i:=4) [] v_4 a)
  (Ba (Bt (i:=5) [] v_4 a)
  (Ba (cz_7 a rfl rfl (λzd W EXB lkB=>(Be (Bt (i:=4) [3,9,10] (cy_4 (cn_4 m) lkB y2 #v[3,9,10]) a))) (HOk3.as_ (i:=6) y8 ab0 (λe=>(Be (Bt (i:=5) [6] (cz_4 ag3 (Ad 6)) a))) .nil))
  (Ba (Du [1,2,3,5] (td_w (Fh (Dk (x_9 d) (Ad 3) (Ad 1) (Dr _)) (Fh (Dk (x_9 d) (Ad 5) (Fg (l_7 #v[2,v_4]) (aa_0 aq_1 rfl o9 N9 #v[r_2 u6 (Ad 2) b9 m9 N3])) (Dr _)) (ad_2 (h_4 (r_2 l9 (Ad 5) b9 x9 ah_8))))))
   (Be (Bz [] u_0))
   Dx)
  (Ba (Du [4] (Dk be_5 (Ad 4) v_4 (Dr _))
   (Be (Bz [2] (r_2 l4 (Ad 2) b9 o9 N9)))
   Dx)
  (Ba (bx_4 (i:=7) [1,2,4] (N':=["_law_script","_law_keys_here","_law_dealt_here","_law_handed","_law_house","_law_bad","error","_law_rooms","_law_k","_law_buckets","_law_most","_law_key_here"]) zq (Eb (o_0 (Ad 1))) ⟨rfl,by rfl',rfl,λC s0 H0 fp pn=>⟨(gcM (i:=11)),v_7,(Bm (i_7 m) o_6 n9 #v[4,11,2,Dd Fa rfl d4 D9 #v[1]])⟩⟩ a)
  (Ba (Du [1,2,4,7] (td_w (Fh (Dk ck_1 v_4 (Ad 7) (by with_unfolding_all rfl)) (Fh (Dk (x_9 d) (Dd (bt_8 zq) rfl p8 Z9 #v[7]) (av_7 zq m9 d9 #v[Dd Fa rfl d4 D9 #v[1]]) (Dr _)) (ad_2 (ad_3 (h_4 (Bm m o m6 #v[4,1,7,2])))))))
   (Be (Bz [] u_0))
   Dx)
  (Ba (j_3 [] d_2 zq (m_1 d9 #v[Ar]) (j_1 (i:=8) a)
   (Be (Du [0,1,2,4,8] (Dk be_5 (Bm m o n9 #v[4,Bm m o l6 #v[Bm m o f9 #v[Bm m o k4 #v[0,Ar],8]],2,Dd Fa rfl d4 D9 #v[1]]) v_4 (Dr _))
   (Be (Bz [] u_0))
   Dx)))
  (Be (Bz [1,2,4,7] (Bm m o m6 #v[4,1,7,2])))))))))))))))
abbrev av_2:Stmt:=Bk 49
end
def dn_2{l:PySem.W.OpenLaw}{w:World}{K:Frag}{h:Heap}{p:AB}{fa:Addr}(X:K.In h)(G:h.Ns mainGlobals p)(hfa:p "law" =some (.ref fa))
  {ac5 c9 o8 o5 i7 l8:Addr}
  {f41:Addr} {aj9 ai5:Option Addr} {aj7:Array (Option Value)} {aj8 aj0 aj2 aj5 ai2 aj4:Value}
  {fT cT pT:Addr} {oT oc2:Value} {od2 oe2:Option Addr} {an2:Option Addr} {sl2 sm2:Array (Option Value)} {ar2:Arguments} {bd2:List Stmt} {sc2:Scope} {kV2 dc2 pm2 ct2:Value} {vs2:Array Value}
  {ag5 ab5 ag7 x8 ab3 ac2:Tok}
  (ah0:PySem.W.nsIn K mainGlobals "House" =some (some (.ref ac5)))
  (c6:PySem.W.nsIn K mainGlobals "Buckets" =some (some (.ref c9)))
  (d7:Cls K c9)
  (ad5:makesIn K c9=true)
  (ae1:keepIn K (.ref c9)=true)
  (p7:NoAttr K c9 "by_bucket")
  (n8:NoAttr K c9 "many_buckets")
  (v7:NoAttr K c9 "how_many")
  (w1:FnTop K "_law_raw" (Bk 33))
  (w2:FnTop K "_law_mix" (Bk 32))
  (w3:FnTop K "_law_cell" (Bk 34))
  (w4:FnTop K "_law_great" (Bk 36))
  (w5:FnTop K "_law_cells" (Bk 37))
  (w6:FnTop K "_law_key" (Bk 35))
  (w7:FnTop K "_law_keys" (Bk 38))
  (w8:FnTop K "_law_shape" (Bk 42))
  (w9:FnTop K "_law_mixed" (Bk 40))
  (w10:FnTop K "_law_stamp" (Bk 39))
  (w11:FnTop K "_law_sorted_out" (Bk 44))
  (w12:FnTop K "_law_in_turn" (Bk 45))
  (w13:FnTop K "_law_fits" (Bk 43))
  (w14:FnTop K "_law_dealt" (Bk 46))
  (w15:FnTop K "_law_whole" (Bk 41))
  (w16:FnTop K "mixed" (Bk 16))
  (w17:FnTop K "room_by" (Bk 25))
  (w18:FnTop K "is_key_text" (Bk 12))
  (w19:FnTop K "is_key" (Bk 13))
  (w20:FnTop K "worth" (Bk 14))
  (w21:FnTop K "stamp" (Bk 15))
  (w22:FnMet K c9 "number_in" "Buckets.number_in" (inC 30 3))
  (w23:FnTop K "bucket_of" (Bk 24))
  (w24:FnMet K c9 "bucket" "Buckets.bucket" (inC 30 2))
  (w25:FnMet K c9 "number_of" "Buckets.number_of" (inC 30 4))
  (w26:FnMet K c9 "room" "House.room" (inC 21 2))
  (w27:FnTop K "_law_told" (Bk 47))
  (w28:FnTop K "look_each_key" (Bk 17))
  (w29:FnMet K c9 "rooms" "House.rooms" (inC 21 3))
  (w30:FnMet K c9 "numbers" "Buckets.numbers" (inC 30 1))
  (w31:FnMet K c9 "many" "House.many" (inC 21 1))
  (w32:FnTop K "_law_lists" (Bk 48))
  (w33:FnTop K "look_unlike" (Bk 18))
  (w34:FnTop K "look_keys" (Bk 19))
  (w35:FnTop K "stamps_by_bucket" (Bk 26))
  (w36:FnTop K "rooms_fit" (Bk 27))
  (w37:FnTop K "least_number" (Bk 28))
  (w38:FnTop K "numbers_by_bucket" (Bk 29))
  (w39:FnBase K ac5 "House.__init__" (inC 21 0))
  (w40:FnMet K c9 "__init__" "Buckets.__init__" (inC 30 0))
  (a41:PySem.W.nsIn K mainGlobals "law" =some (some (.ref f41))) (l41:K.lookup f41=some ⟨aj8,aj9,.func (fnOf "law" "law" (i_3 av_2) (Fs av_2) (Cc av_2) .none aj0 aj2 aj5 ai5 ai2 aj4),aj7⟩) (c41:codeIn K ai2 "law" =true) (k41:keepIn K (.ref f41)=true)
  (aj3:PySem.W.nsIn K mainGlobals "len" =some none)
  (ai7:PySem.W.nsIn K mainGlobals "max" =some none)
  (ah4:PySem.W.nsIn K mainGlobals "range" =some none)
  (ai8:PySem.W.nsIn K mainGlobals "min" =some none)
  (ai9:PySem.W.nsIn K mainGlobals "int" =some none)
  (ac1:PySem.W.nsIn K mainGlobals "isinstance" =some none)
  (ad9:PySem.W.nsIn K mainGlobals "reversed" =some none)
  (ai6:PySem.W.nsIn K mainGlobals "set" =some none)
  (ai3:PySem.W.nsIn K mainGlobals "bool" =some none)
  (aj6:PySem.W.nsIn K mainGlobals "all" =some none)
  (aj1:PySem.W.nsIn K mainGlobals "str" =some none)
  (ai4:PySem.W.nsIn K mainGlobals "zip" =some none)
  (ac8:PySem.W.nsIn K mainGlobals "enumerate" =some none)
  (ah9:PySem.W.nsIn K mainGlobals "list" =some none)
  (ag8:PySem.W.nsIn K mainGlobals "sorted" =some none)
  (af0:kitOne K (.type "NoneType") (.type "int")=some false)
  (ag2:kitOne K (.type "bool") (.type "int")=some true)
  (ae7:kitOne K (.type "int") (.type "int")=some true)
  (af5:kitOne K (.type "str") (.type "int")=some false)
  (af4:kitOne K (.type "list") (.type "int")=some false)
  (af6:kitOne K (.type "tuple") (.type "int")=some false)
  (ae0:kitOne K (.type "NoneType") (.type "bool")=some false)
  (ag0:kitOne K (.type "bool") (.type "bool")=some true)
  (ad7:kitOne K (.type "int") (.type "bool")=some false)
  (ae6:kitOne K (.type "str") (.type "bool")=some false)
  (ad8:kitOne K (.type "list") (.type "bool")=some false)
  (ae5:kitOne K (.type "tuple") (.type "bool")=some false)
  (af3:kitOne K (.type "NoneType") (.type "str")=some false)
  (ah2:kitOne K (.type "bool") (.type "str")=some false)
  (af2:kitOne K (.type "int") (.type "str")=some false)
  (af9:kitOne K (.type "str") (.type "str")=some true)
  (af8:kitOne K (.type "list") (.type "str")=some false)
  (af1:kitOne K (.type "tuple") (.type "str")=some false)
  (ad3:kitOne K (.type "NoneType") (.type "list")=some false)
  (ae8:kitOne K (.type "bool") (.type "list")=some false)
  (ad4:kitOne K (.type "int") (.type "list")=some false)
  (ae4:kitOne K (.type "str") (.type "list")=some false)
  (ae2:kitOne K (.type "list") (.type "list")=some true)
  (ad6:kitOne K (.type "tuple") (.type "list")=some false)
  (ah7:PySem.W.nsIn K mainGlobals "PRIME" =some (some (.int 2305843009213693951 ag5)))
  (ab9:PySem.W.nsIn K mainGlobals "MOST_SIGNS" =some (some (.int 11 ab5)))
  (ah6:PySem.W.nsIn K mainGlobals "SIGNS" =some (some (.str "abcdefghijklmnopqrstuvwxyz0123456789-_ " ag7)))
  (z9:PySem.W.nsIn K mainGlobals "GREATEST_NUMBER" =some (some (.int 999999999999999999 x8)))
  (ab4:PySem.W.nsIn K mainGlobals "BUCKET_SALT" =some (some (.int 0 ab3)))
  (ad2:PySem.W.nsIn K mainGlobals "MOST_KEYS" =some (some (.int 200 ac2)))
  (z8:PySem.W.nsIn K mainGlobals "NoKey" =some (some (.ref o8)))
  (aa2:PySem.W.nsIn K mainGlobals "Twice" =some (some (.ref o5)))
  (z7:PySem.W.nsIn K mainGlobals "NoFit" =some (some (.ref i7)))
  (aa3:PySem.W.nsIn K mainGlobals "NoKeys" =some (some (.ref l8)))
  (ac9:XB K o8 "NoKey.__init__" "at" x_0)
  (u9:XInst K o8)
  (ab1:exmOne K (.ref o8) (.ref i7)=some false)
  (ac7:XB K o5 "Twice.__init__" "at" w_9)
  (v6:XInst K o5)
  (ab2:exmOne K (.ref o5) (.ref i7)=some false)
  (ad1:XB K i7 "NoFit.__init__" "at" w_8)
  (v5:XInst K i7)
  (aa9:exmOne K (.ref i7) (.ref i7)=some true)
  (ae9:XB9 K l8)
  (ai1:XInst K l8)
  (aa8:exmOne K (.ref l8) (.ref i7)=some false)
  (tA:PySem.W.nsIn K mainGlobals "numbers_by_bucket" =some (some (.ref fT)))
  (tL:K.lookup fT=some ⟨oT,od2,.func (fnOf "numbers_by_bucket" "numbers_by_bucket" ar2 bd2 sc2 .none kV2 dc2 pm2 an2 (.ref cT) ct2),sl2⟩)
  (tC:K.lookup cT=some ⟨oc2,oe2,.fields vs2,sm2⟩)
  (tE:vs2[11]? =some (.ref pT))
  (ai0:PySem.W.codeHdIn K cT pT=true):
  ∃u:FuncData,(∀(s:Shared) (v:Value),BindsTo s u ⟨[v],[]⟩ [("_law_script",v)])/\∀r:Heap,K.In r->r.Ns mainGlobals p->FnOk l.prog w K p r CX0 9 fa u ["_law_script"] (aq_7 K):=by
 have ag6:=mg_of X G ah0;have ae3:=mg_of X G c6;have j6:OFld K ["Buckets"] "by_bucket" :=(.one c6 d7 p7 .nil);have d5:OFld K ["Buckets"] "many_buckets" :=(.one c6 d7 n8 .nil);have f7:OFld K ["Buckets"] "how_many" :=(.one c6 d7 v7 .nil);have ah1:=mg_of X G z8;have ag4:=mg_of X G aa2;have y8:=mg_of X G z7;have af7:=mg_of X G aa3;have aa5:XC0 K p "NoKeys" l8:=dm_2 aa3 af7 ae9;have ab0:Catches K i7 L46:=(.one z7 aa9 (.one z8 ab1 (.one aa3 aa8 (.one aa2 ab2 .nil))));have ag3:XGets K L13 "at" :=(.one z7 ⟨v5.ga,v5.gt,v5.be,v5.hd,ad1.2.2.1⟩ (.one z8 ⟨u9.ga,u9.gt,u9.be,u9.hd,ac9.2.2.1⟩ (.one aa2 ⟨v6.ga,v6.gt,v6.be,v6.hd,ac7.2.2.1⟩ .nil)));have e:=hfa.symm.trans (mg_of X G a41);cases e;have d4:=M4 X G aj3;have v9:=M4 X G ai7;have d9:=M4 X G ah4;have ab7:=M4 X G ai8;have o9:=M4 X G ai9;have b9:=M4 X G ac1;have j9:=M4 X G ad9;have ag1:=M4 X G ai6;have x9:=M4 X G ai3;have ah3:=M4 X G aj6;have ac6:=M4 X G aj1;have ag9:=M4 X G ai4;have k9:=M4 X G ac8;have m9:=M4 X G ah9;have p8:=M4 X G ag8;have l4:KitT K "int" :=⟨af0,ag2,ae7,af5,af4,af6⟩;have l9:KitT K "bool" :=⟨ae0,ag0,ad7,ae6,ad8,ae5⟩;have z6:KitT K "str" :=⟨af3,ah2,af2,af9,af8,af1⟩;have u6:KitT K "list" :=⟨ad3,ae8,ad4,ae4,ae2,ad6⟩;have y4:=mg_of X G ah7;have o6:=mg_of X G ab9;have y7:=mg_of X G ah6;have j5:=mg_of X G z9;have m8:=mg_of X G ab4;have u0:=mg_of X G ad2;have bh:=cp_4 tA tL tC tE;obtain⟨f39,a39,⟨d39,F39⟩⟩:=w39;have F41:=br_7 (st:=av_2) l41 c41 k41;refine⟨fnOf "law" "law" (i_3 av_2) (Fs av_2) (Cc av_2) .none aj0 aj2 aj5 ai5 ai2 aj4,λs v=> .of_eq rfl,λr _ _=> ?_⟩
 let lMd:=MethD l.prog w K p r true
 let lMt:=MethT l.prog w K p r true
 let lMk:=MakD l.prog w K p r true
 let lXC:=XC l.prog w K p r
 let lT:=λt:Program->World->Frag->(AB)->Heap->Prop=>t l.prog w K p r
 have y9:lXC "NoKey" "at" o8:=co_2 z8 ah1 ac9 λF y z=>⟨ax_3 F y z,bn2 F⟩;have ac4:lXC "Twice" "at" o5:=co_2 aa2 ag4 ac7 λF y z=>⟨ax_1 F y z,bn2 F⟩;have ac0:lXC "NoFit" "at" i7:=co_2 z7 y8 ad1 λF y z=>⟨aw_9 F y z,bn2 F⟩;have i6:lT bc_3:=Di X G w1 λF=>⟨bv_5 d4 F,bn2 F⟩;have f9:lT bc_4:=Di X G w2 λF=>⟨bv_6 F,bn2 F⟩;have k4:lT au_5:=Di X G w3 λF=>⟨bq_3 f9 i6 F,bn2 F⟩;have p9:lT al_8:=Di X G w4 λF=>⟨bi_0 f9 F,bn1 F⟩;have p5:lT al_9:=Di X G w5 λF=>⟨bi_1 d4 f9 i6 k4 p9 v9 d9 ab7 F,bn3 F⟩;have l6:lT bc_5:=Di X G w6 λF=>⟨bv_7 d9 o9 F,bn1 F⟩;have y1:lT au_6:=Di X G w7 λF=>⟨bq_4 i6 p5 l6 F,bn3 F⟩;have q9:lT am_0:=Di X G w8 λF=>⟨bi_2 v9 F,bn2 F⟩;have d6:lT am_1:=Di X G w9 λF=>⟨bi_3 F,bn3 F⟩;have j4:lT am_2:=Di X G w10 λF=>⟨bi_4 o9 b9 l4 F,bn1 F⟩;have j7:lT v_1:=Di X G w11 λF=>⟨ah_2 d9 d6 j4 F,bn2 F⟩;have n5:lT ac_7:=Di X G w12 λF=>⟨au_9 d4 v9 d9 j9 F,bn1 F⟩;have y3:lT au_7:=Di X G w13 λF=>⟨bq_5 d4 d6 ag1 F,bn4 F⟩;have p4:lT am_3:=Di X G w14 λF=>⟨bi_5 d4 d6 j7 n5 y3 F,bn3 F⟩;have k6:lT am_4:=Di X G w15 λF=>⟨bi_6 o9 b9 l4 x9 l9 F,bn1 F⟩;have y6:lT ca_9:=Di X G w16 λF=>⟨ct_4 y4 F,bn3 F⟩;have j8:lT bc_6:=Di X G w17 λF=>⟨bv_8 y6 F,bn3 F⟩;have n6:lT ac_8:=Di X G w18 λF=>⟨av_0 d4 ah3 o6 y7 F,bn1 F⟩;have q8:lT bq_2:=Di X G w19 λF=>⟨cg_5 o9 b9 l4 x9 l9 n6 ac6 z6 j5 F,bn1 F⟩;have ab8:lT cb_0:=Di X G w20 λF=>⟨ct_5 y7 F,bn1 F⟩;have o7:lT cb_1:=Di X G w21 λF=>⟨ct_6 b9 ac6 z6 q8 ab8 y9 F,bn1 F⟩;have r9:lMd 1 1 "number_in" "Buckets" c_4:=as_1 c6 d7 w22 λF=>⟨z_5 j6 F,bn2 F⟩;have k7:lT am_5:=Di X G w23 λF=>⟨bi_7 y6 m8 F,bn2 F⟩;have aa0:lMd 4 1 "bucket" "Buckets" b_7:=as_1 c6 d7 w24 λF=>⟨ah_3 k7 o7 d5 F,bn2 F⟩;have d0:lMt 1 1 "number_in" [("Buckets",c_4)]:=(mto r9 mtn);have f8:lMt 4 1 "bucket" [("Buckets",b_7)]:=(mto aa0 mtn);have p6:lMd 5 1 "number_of" "Buckets" d_0:=as_1 c6 d7 w25 λF=>⟨z_6 o7 j8 d0 f8 f7 F,bn2 F⟩;have i8:lMt 5 1 "number_of" [("Buckets",d_0)]:=(mto p6 mtn);have aa6:lMd 6 1 "room" "Buckets" c_7:=as_1 c6 d7 w26 λF=>⟨an_4 ab7 f7 i8 F,bn2 F⟩;have g9:lMt 6 1 "room" [("Buckets",c_7)]:=(mto aa6 mtn);have n9:lT au_8:=Di X G w27 λF=>⟨bq_6 d4 d6 j4 f8 k6 g9 ag9 F,bn4 F⟩;have g8:lT x_4:=Di X G w28 λF=>⟨aj_6 q8 y9 k9 F,bn1 F⟩;have aa4:lMd 7 1 "rooms" "Buckets" b_2:=as_1 c6 d7 w29 λF=>⟨aj_7 g9 g8 F,bn2 F⟩;have y0:lMd 2 0 "numbers" "Buckets" c_5:=as_1 c6 d7 w30 λF=>⟨ae_1 d9 d5 d0 F,bn1 F⟩;have aa7:lMd 1 0 "many" "Buckets" f_4:=as_1 c6 d7 w31 λF=>⟨an_5 f7 F,bn1 F⟩;have d8:lMt 7 1 "rooms" [("Buckets",b_2)]:=(mto aa4 mtn);have g7:lMt 2 0 "numbers" [("Buckets",c_5)]:=(mto y0 mtn);have l0:lMt 1 0 "many" [("Buckets",f_4)]:=(mto aa7 mtn);have m6:lT am_6:=Di X G w32 λF=>⟨bi_8 d4 b9 j9 k6 d8 g7 l0 m9 u6 F,bn4 F⟩;have m7:lT ac_9:=Di X G w33 λF=>⟨av_1 k9 ac4 F,bn1 F⟩;have u7:lT am_7:=Di X G w34 λF=>⟨bi_9 d4 g8 m7 aa5 u0 F,bn1 F⟩;have j3:lT r_9:=Di X G w35 λF=>⟨ab_2 k7 F,bn2 F⟩;have r6:lT am_8:=Di X G w36 λF=>⟨bj_0 j8 F,bn4 F⟩;have l7:lT z_4:=Di X G w37 λF=>⟨an_6 d9 r6 F,bn4 F⟩;have i9:lT q_2:=db_4 X G w38 bh λF hc=>⟨z_7 d4 j8 j3 l7 p8 ac0 bh ai0 F hc,bn3 F⟩;have f6:MakB l.prog w K p r true "House" "Buckets" 1 1 c_9:=⟨ac5,c9,_,_,_,c6,ag6,a39,s_0 f7 F39 c6,(bn2 F39)⟩;have y2:lMk "Buckets" 6 3 m_6:=dr_1 c6 ae3 ad5 ae1 w40 λF=>⟨ab_3 j6 o7 d5 u7 i9 f6 F c6,bn4 F⟩;exact dk_3 (dn_1 (P:=l.prog) (w:=w) (r:=r) d4 f9 i6 k4 d9 o9 l6 b9 l4 x9 l9 m9 u6 p8 y1 q9 p4 n9 m6 y2 y8 ab0 ag3 F41) ct_3
end My


open PySem PySem.W PyProof.Rows
set_option maxRecDepth 100000 in
set_option maxHeartbeats 0 in
theorem PySem.Challenge.cw_lodge_k61_buckets_by_rule_holds : PySem.Challenge.rw_lodge_k61_buckets_by_rule.Holds := by
 w_on; o_law; k_head; (case hw => w_witness2)
 k_fill
 refine L3.dq_5 (l := PySem.Challenge.rw_lodge_k61_buckets_by_rule) (x := "_law_script") (k := 9) rfl rfl ⟨rfl, by decide, by decide⟩ (λw h Y => PySem.W.km_in_of Y) ?T ?F
 case T =>
  intro w h Y
  have KX := PySem.W.km_in_of Y
  refine' L3.cp_6 KX ?t1 ?t2 ?t3 ?t4 ?t5 ?t6 (PySem.W.km_tabs_of Y _ ?t7)
  (case t1 | t2 | t3 => k_is)
  (case t4 => rfl)
  (case t5 | t6 => rfl')
  (case t7 => simp)
 case F =>
  intro w mg fa h KX G hmg
  refine' My.dn_2 KX G hmg ?c1 ?c2 ?c3 ?c4 ?c5 ?c6 ?c7 ?c8 ?c9 ?c10 ?c11 ?c12 ?c13 ?c14 ?c15 ?c16 ?c17 ?c18 ?c19 ?c20 ?c21 ?c22 ?c23 ?c24 ?c25 ?c26 ?c27 ?c28 ?c29 ?c30 ?c31 ?c32 ?c33 ?c34 ?c35 ?c36 ?c37 ?c38 ?c39 ?c40 ?c41 ?c42 ?c43 ?c44 ?c45 ?c46 ?c47 ?c48 ?c49 ?c50 ?c51 ?c52 ?c53 ?c54 ?c55 ?c56 ?c57 ?c58 ?c59 ?c60 ?c61 ?c62 ?c63 ?c64 ?c65 ?c66 ?c67 ?c68 ?c69 ?c70 ?c71 ?c72 ?c73 ?c74 ?c75 ?c76 ?c77 ?c78 ?c79 ?c80 ?c81 ?c82 ?c83 ?c84 ?c85 ?c86 ?c87 ?c88 ?c89 ?c90 ?c91 ?c92 ?c93 ?c94 ?c95 ?c96 ?c97 ?c98 ?c99 ?c100 ?c101 ?c102 ?c103 ?c104 ?c105 ?c106 ?c107 ?c108 ?c109 ?c110 ?c111 ?c112 ?c113 ?c114 ?c115 ?c116 ?c117 ?c118
  (case c1|c2|c4|c5|c49|c50|c51|c52|c53|c54|c55|c56|c57|c58|c59|c60|c61|c62|c63|c64|c65|c66|c67|c92|c93|c94|c95|c96|c97|c98|c99|c100|c101|c114|c115|c116=>k_is)
  (case c3=>(refine' L2.Cls.mk ?z0 ?z1 ?z2 ?z3;(case z0=>k_is);(case z1=>k_is);(case z2=>k_is);(case z3=>k_is)))
  (case c6|c7|c8=>(refine' L3.NoAttr.mk ?z0;(case z0=>k_is)))
  (case c9|c10|c11|c12|c13|c14|c15|c16|c17|c18|c19|c20|c21|c22|c23|c24|c25|c26|c27|c28|c29|c31|c35|c36|c40|c41|c42|c43|c44|c45|c46=>(refine' L3.FnTop.mk ?a ?l ?c ?k;(case a=>k_is);(case l=>k_is);(case c=>k_is);(case k=>k_is)))
  (case c30|c32|c33|c34|c37|c38|c39|c48=>(refine' L3.FnMet.mk ?a ?l ?c ?k ?i;(case a=>k_is);(case l=>k_is);(case c=>k_is);(case k=>k_is);(case i=>k_is)))
  (case c47=>(refine' L3.FnBase.mk ?s ?r ?a ?l ?c ?k;(case s=>k_is);(case r=>k_is);(case a=>k_is);(case l=>k_is);(case c=>k_is);(case k=>k_is)))
  (case c68|c69|c70|c71|c72|c73|c74|c75|c76|c77|c78|c79|c80|c81|c82|c83|c84|c85|c86|c87|c88|c89|c90|c91=>kit_is)
  (case c102|c105|c108=>(refine' L3.XB.mk ?z0 ?z1 ?z2 ?z3 ?z4 ?z5 ?z6 ?z7 ?z8 ?z9 ?z10 ?z11 ?z12 ?z13 ?z14;(case z0=>k_is);(case z1=>k_is);(case z2=>k_is);(case z3=>rfl);(case z4=>rfl);(case z5=>k_is);(case z6=>k_is);(case z7=>rfl);(case z8=>rfl);(case z9=>k_is);(case z10=>k_is);(case z11=>k_is);(case z12=>k_is);(case z13=>k_is);(case z14=>k_is)))
  (case c103|c106|c109|c112=>(refine' L3.XInst.mk ?z0 ?z1 ?z2 ?z3 ?z4 ?z5 ?z6 ?z7;(case z0=>k_is);(case z1=>k_is);(case z2=>k_is);(case z3=>k_is);(case z4=>k_is);(case z5=>k_is);(case z6=>k_is);(case z7=>k_is)))
  (case c104|c107|c110|c113=>kts_exm)
  (case c111=>(refine' L3.XB0 ?z0 ?z1 ?z2 ?z3 ?z4 ?z5 ?z6 ?z7 ?z8;(case z0=>k_is);(case z1=>k_is);(case z2=>rfl);(case z3=>rfl);(case z4=>k_is);(case z5=>k_is);(case z6=>rfl);(case z7=>rfl);(case z8=>k_is)))
  (case c117=>rfl)
  (case c118=>rfl')

end
