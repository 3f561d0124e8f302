import PyProof.Rows.All
import Wide.All
import OpenK.AllK
import Wide.FinOn
import Lean
import PyProof.EqAt
import PyProof.EqKinds
import PyProof.TupleCall
import PySem.Challenge.RW_lodge_k72_fewest_changes
set_option Elab.async false
set_option linter.all false
set_option maxRecDepth 100000
set_option genSizeOf false
def A3:=@List.length_map
def A4:=@PySem.Heap.get?_push_of_some
def A5:=@PySem.Heap.lt_size
def A6:=@Bool.false_ne_true
def A7:=@PySem.wpAny_bind
def A8:=@List.map_cons
def A9:=@List.getElem?_map
def B3:=@List.getElem?_eq_getElem
def B4:=@List.length_cons
def B5:=@Nat.le_refl
def B6:=@List.getElem?_eq_some_iff
def B7:=@List.mem_append_right
def B8:=@List.length_append
def B9:=@PySem.Heap.get?_push_size
def C1:=@List.getElem?_set_ne
def C4:=@Nat.lt_of_lt_of_le
def C5:=@Nat.le_trans
def C6:=@List.mem_cons
def C7:=@List.mem_cons_of_mem
def C8:=@Bool.and_eq_true
def C9:=@Nat.ne_of_lt
def D0:=@List.size_toArray
def D1:=@List.mem_singleton
def D2:=@decide_eq_false
def D3:=@List.mem_map
def D4:=@List.append_nil
def D5:=@List.mem_cons_self
def D6:=@PySem.sizeLine_eq
def D7:=@Nat.lt_irrefl
def D8:=@List.getElem?_append_left
def D9:=@decide_eq_true
def E4:=@PySem.wpAny_mono
def E7:=@PySem.wpAny_pure
def E8:=@List.map_append
def E9:=@List.lookup_cons
def F0:=@List.all_eq_true
def F3:=@List.length_set
def F4:=@List.getElem?_set_self
def F5:=@List.mem_append
def F6:=@Int.emod_lt_of_pos
def F7:=@PySem.boot_len
def F8:=@List.map_map
def F9:=@Option.map_eq_some_iff
def G6:=@List.getElem?_append_right
def J6:=@Option.bind_eq_some_iff
def J7:=@Option.some.inj
def J8:=@List.length_nil
def J9:=@List.mem_append_left
def K0:=@List.mem_of_getElem?
def K1:=@PySem.Heap.get?_update_other
def K2:=@Int.emod_nonneg
def K3:=@List.getElem?_replicate
def K4:=@congrArg
def K5:=@List.replicate_succ
def K6:=@List.length_replicate
def K7:=@List.getElem?_eq_none
def K8:=@of_decide_eq_true
def K9:=@List.mem_range
def L0:=@Nat.zero_le
def L1:=@Int.add_mul_emod_self_left
def L4:=@List.mem_filter
def L5:=@Option.map_some
def L6:=@Nat.le_succ
def L7:=@PySem.Heap.size_push
def L8:=@Option.isSome_iff_exists
def L9:=@Bool.and_self
def M3:=@PySem.W.mg_none_of
def M4:=@PySem.wpAny_Call_Name_kw
def M5:=@List.contains_cons
def M6:=@List.zip_cons_cons
def M7:=@List.getElem?_cons_zero
def M8:=@beq_iff_eq
def M9:=@PySem.Calls.callWith_builtin
def N0:=@List.map_nil
def N1:=@PySem.wpAny_loadPart_at
def N2:=@List.getD_eq_getElem?_getD
def N3:=@PySem.mem_of_lookup
def N4:=@List.nodup_cons
def N5:=@beq_self_eq_true
def N6:=@Bool.false_eq_true
def N7:=@List.all_cons
def N8:=@List.flatten_cons
def N9:=@List.append_assoc
def O0:=@PySem.F.plainAttrs_dict
def O4:=@List.length_range
def O5:=@List.getElem?_cons_succ
def O6:=@Int.emod_eq_of_lt
def O7:=@beq_eq_false_iff_ne
def O8:=@PyProof.Rows.callWith_type1
def O9:=@PySem.Calls.spliced_cons
def P2:=@Array.getElem?_eq_some_iff
def P3:=@List.pairwise_cons
def P4:=@List.length_filter_le
def P5:=@PySem.wpAny_passesOwn
def P6:=@Bool.eq_iff_iff
def P7:=@PySem.wpAny_loadPart'
def P8:=@List.nil_append
def P9:=@List.find?_cons
def Q0:=@Nat.le_of_lt
def Q1:=@PySem.Heap.get?_none_of_le
def Q2:=@PySem.wpAny_truthy_bool
def Q3:=@Nat.zero_add
def Q4:=@List.any_cons
def Q5:=@Array.length_toList
def Q6:=@List.filter_eq_self
def Q7:=@List.map_congr_left
def Q8:=@Nat.lt_succ_self
def Q9:=@List.cons_append
def R0:=@List.filter_cons
def R1:=@Option.getD_some
def R3:=@PySem.codeAny_mono
def R4:=@PySem.tupleKind_room_in1
def R5:=@List.find?_cons_of_pos
def R6:=@List.find?_cons_of_neg
def R7:=@List.cons.injEq
def R8:=@PySem.wpAny_standAt
def R9:=@PySem.Heap.get?_update_self
def S3:=@List.contains_iff_mem
def S4:=@Int.emod_add_mul_ediv
def S5:=@Nat.lt_succ_of_lt
def S6:=@PySem.Calls.evalArgs_plain
def S7:=@List.mem_iff_getElem
def S8:=@Nat.le_of_eq
def S9:=@List.take_length
def T3:=@List.not_mem_nil
def T4:=@List.mem_flatMap
def T5:=@PySem.F.args_tuple_add_2
def T6:=@if_false
def T7:=@PySem.wpAny_execs_nil
def T8:=@Bool.or_eq_true
def T9:=@List.mem_filterMap
def U1:=@PySem.Code.quiet_builtin
def U2:=@PySem.F.entry_tuple_add
def U3:=@PySem.F.plainAttrs_list
def U4:=@PySem.Calls.spliced_nil
def U5:=@PySem.F.slot_tuple_add
def U6:=@PySem.call_meetsIn
def U7:=@List.ext_getElem?
def U8:=@PySem.wpAny_pyIter_list
def U9:=@List.drop_eq_nil_of_le
def V0:=@PySem.wpAny_pyIter_enum
def V1:=@List.take_add_one
def V2:=@PySem.plainObj_wpAny_Assign_Attribute
def V3:=@Array.getElem?_toList
def V4:=@PySem.Obj.isFreed_of_fields
def V5:=@PySem.F.slot_dict_get
def V6:=@PyProof.Rows.boot_max
def V7:=@List.length_take
def V8:=@PySem.wpAny_call
def V9:=@List.getElem_mem
def W0:=@List.perm_middle
def W1:=@PySem.Paired.length
def W2:=@PySem.wpAny_holding
def W3:=@List.eq_nil_of_length_eq_zero
def W4:=@Bool.or_eq_false_iff
def W5:=@decide_true
def W6:=@List.of_mem_zip
def W7:=@List.length_zip
def W8:=@PySem.F.slot_dict_setdefault
def W9:=@List.dropLast_concat_getLast
def X0:=@List.filter_map
def X1:=@List.countP_eq_length_filter
def X2:=@List.filterMap_cons
def X3:=@PySem.wpAny_isSubtype_exc
def X4:=@List.getElem?_range
def X5:=@List.mem_map_of_mem
def X6:=@Nat.ne_of_gt
def X7:=@decide_false
def X8:=@PySem.W.callWith_K
def X9:=@PySem.Calls.Name_function_global
def Y0:=@PySem.Obj.data_mapFields
def Y1:=@PySem.wpAny_letOwnedTupleGo_enum
def Y2:=@PySem.F.excBase_ValueError
def Y3:=@List.set_cons_zero
def Y4:=@decide_eq_true_iff
def Y5:=@List.perm_ext_iff_of_nodup
def Y6:=@PySem.codeAny_call_builtin_code
def Y7:=@PySem.wpAny_check_type_call_sub
def Y8:=@PySem.wpAny_newObj_type
def Y9:=@Option.isSome_map
def Z0:=@PySem.wpAny_Call_method
def Z1:=@Int.toNat_natCast
def Z2:=@PySem.F.slot_list_append
def Z3:=@PySem.F.type_list_append
def Z4:=@PySem.wpAny_comprehension_free
def Z5:=@PySem.noFill_tuple_add
def Z6:=@Nat.succ_le_succ
def Z7:=@PySem.codeAny_call_builtin_at
def Z8:=@PySem.F.args_dict_get_3
def Z9:=@PySem.wpAny_pyNext_enum_itemD
def ZA0:=@List.filter_cons_of_neg
def ZA1:=@List.filter_cons_of_pos
def ZA2:=@PySem.wpAny_Call_method0_late
def ZA3:=@PySem.F.plain_list_iadd
def ZA4:=@PySem.F.slot_dict_items
def ZA5:=@List.length_eq_zero_iff
def ZA6:=@PySem.concat_meets
def ZA7:=@PyProof.Rows.subscriptTail_builtinR
def ZA8:=@PySem.F.entry_dict_get
def ZA9:=@PySem.wpAny_pyNext_enum_endD
def ZB0:=@Nat.min_self
def ZB1:=@Nat.not_lt
def ZB2:=@PySem.F.slot_dict_keys
def ZB3:=@PyProof.Rows.boot_list
def ZB4:=@PySem.F.plainAttrs_str
def ZB5:=@Nat.min_le_left
def ZB6:=@PySem.W.cellsFrom_some
def ZB7:=@PySem.W.looks_clsIn
def ZB8:=@PySem.W.plainGet_of
def ZB9:=@Bool.false_and
def ZC0:=@PySem.wpAny_setField
def ZC1:=@PySem.wpAny_field
def ZC2:=@Bool.not_false
def ZC3:=@and_self
def ZC4:=@PySem.W.methodCall_KW
def ZC5:=@PySem.seq_tuple_add
def ZC6:=@Bool.not_true
def ZC7:=@PySem.W.Looks.here
def ZC8:=@PySem.call_meets
def ZC9:=@PySem.W.looks_findIn
def ZD0:=@Bool.or_true
def ZD1:=@Int.le_trans
local macro_rules|`(tactic|trivial)=>`(tactic|first|exact Or.inl rfl|exact Or.inr rfl|exact Or.inr (Or.inl rfl)|exact Or.inr (Or.inr rfl))
namespace PySem.W.Fast
def tw13286853104641768597:=0
def tw5669238144735672982:=0
def tw8729731118714338479:=0
def tw2032133036614853835:=0
def tw10082067879441502011:=0
def tw4207375445988884582:=0
def tw2445261861618766203:=0
def tw10667265596635010449:=0
def tw11233841278280377277:=0
def tw13003709483122282810:=0
def tw17022925335597423233:=0
def tw11838751912214593516:=0
def tw4397203622081119837:=0
def tw1615497810424081980:=0
def tw11231583202891865898:=0
def tw14721211882807431118:=0
def tw202064110906861483:=0
def tw15223987152019800384:=0
def tw11286974088213917050:=0
def tw17501503437020842573:=0
def tw3563277954983240406:=0
def tw6526974132545317527:=0
def tw828866925475843067:=0
def tw977738246826525321:=0
def tw1109451699451064891:=0
def tw10387545143194724782:=0
def tw16146059204008174571:=0
def tw10391914157580535091:=0
def tw8335590120760361035:=0
def tw12138711507622095413:=0
def tw17105702945727266916:=0
def tw10459496912749377697:=0
def tw15558133976465197480:=0
def tw5165277412327762429:=0
def tw16940709731678484473:=0
def tw16936370694492896417:=0
def tw16134742109250935146:=0
def tw3474319777809124357:=0
def tw2345963125259447389:=0
def tw9819498787955253522:=0
def tw8326847027412247091:=0
def tw9468780532949699060:=0
def tw1038011536665867603:=0
def tw17852257375225059933:=0
def tw14371629959181014408:=0
def tw5005542773568200712:=0
def tw4346908077265595226:=0
def tw11668710676267636732:=0
def tw16953745288025153105:=0
def tw16057576645844568245:=0
def tw1069844460049029753:=0
def tw1341519378329431456:=0
def tw15709432409183577011:=0
def tw4243468152326034190:=0
def tw2123168750535628124:=0
def tw11480081049868593827:=0
def tw14344291780665021098:=0
def tw11004495143681041010:=0
def tw13604788958599688230:=0
def tw2134847236347956081:=0
def tw4782373068870359607:=0
def tw3001144048786357795:=0
def tw10946690648604926502:=0
def tw837038025329463821:=0
def tw4800944856158333592:=0
def tw11314915014076286178:=0
def tw17215864484371012800:=0
def tw10887238777738047956:=0
def tw15198835985031928799:=0
def tw7221806316846813092:=0
def tw14752684640408562968:=0
def tw17326673923236505784:=0
def tw8233428827518400138:=0
def tw1052901843505020431:=0
def tw9767709205146250825:=0
def tw14245064540375351797:=0
def tw16242253271543833899:=0
def tw15418146984697639205:=0
def tw3255154454765792381:=0
def tw5632151678788091736:=0
def tw16667968468017898653:=0
def tw5293295443338824443:=0
def tw2854362779934289625:=0
def tw4105252024621544402:=0
def tw8900141102619148658:=0
def tw11223601752844349419:=0
def tw2668557418339940381:=0
def tw9016889767091111386:=0
def tw11775082591299525282:=0
def tw9206965390952307668:=0
def tw14342374154819318756:=0
def tw8003299714629258207:=0
def tw9001584859460907405:=0
def tw307490233079415195:=0
def tw14623105613996130647:=0
def tw1891041727709530004:=0
def tw7822514228320980514:=0
def tw18048628410230414763:=0
def tw15542388430153197111:=0
def tw12106489924991513731:=0
def tw3199974344929588027:=0
def tw15766503040136407220:=0
def tw3669822783778445365:=0
def tw3858696431866513985:=0
def tw16564879428846146654:=0
def tw10069900024789725984:=0
def tw14797567358453319030:=0
def tw4257150888946780232:=0
def tw11241638739279471113:=0
def tw14527751522860381203:=0
def tw4961283426715971042:=0
def tw15415889268632480647:=0
def tw8176159639886893122:=0
def tw8926059738321979860:=0
def tw4829088496274347999:=0
def tw15581784782142039767:=0
def tw2968917543970839259:=0
def tw534805998008198893:=0
def tw7625219563706549632:=0
def tw8838552272751293350:=0
def tw3564408364260131549:=0
def tw14800934451872697243:=0
def tw9618826484671525368:=0
def tw16881655541271080538:=0
def tw14985703246335417866:=0
def tw11435955230049967126:=0
def tw13770564625252556985:=0
def tw13571534615323273526:=0
def tw10086207496150729049:=0
def tw4209188478266514077:=0
def tw7977794380164898481:=0
def tw18091760116984174378:=0
def tw892849618126783558:=0
def tw5430499647617257095:=0
def tw1446669883567346579:=0
def tw5045439073691343248:=0
def tw10018613009374306653:=0
def tw5877952379524324612:=0
def tw6235519016081238981:=0
def tw8687285888967557474:=0
def tw8709676494683085038:=0
def tw1508866701885678278:=0
def tw10694334733777761481:=0
def tw10938315346609020698:=0
def tw15768875346664134083:=0
def tw426395068699630326:=0
def tw2933833905685123315:=0
def tw9408793788152067900:=0
def tw9482257198823237452:=0
def tw1767291430434921739:=0
def tw18400857491964718751:=0
def tw5444370720151394562:=0
def tw1976802758324806514:=0
def tw8481747965850855084:=0
def tw4867838977456906795:=0
def tw483894673006269738:=0
def tw12932515331467450674:=0
def tw15215860101979516619:=0
def tw9303603572986410925:=0
def tw975490486588781858:=0
def tw9844253256637275938:=0
def tw9968648327610143794:=0
def tw13237410291706414219:=0
def tw7183439245730358722:=0
def tw11536029116171301781:=0
def tw5287161816787522601:=0
def tw4484456401158386735:=0
def tw15294963689991183516:=0
def tw17536454742745598155:=0
def tw10463449580854722222:=0
def tw18342947290033507134:=0
def tw8373100056638008754:=0
def tw4158081401628076055:=0
def tw9027609524177513516:=0
def tw16534719846604062255:=0
def tw11735413782509837715:=0
def tw8079276313986470203:=0
def tw11787239805707104597:=0
def tw17602253341909041602:=0
def tw13944142491285007941:=0
def tw8923334327021999307:=0
def tw3711217674067007479:=0
def tw13867428341619005042:=0
def tw3790569789038443495:=0
def tw5313848607763643591:=0
def tw18006887579231854633:=0
def tw6288200629147980130:=0
def tw12815982321299029097:=0
def tw755291426357364272:=0
def tw4860479941138756734:=0
def tw11434361779504954076:=0
def tw5354366971712638750:=0
def tw2201118172585234566:=0
def tw3144949980919195905:=0
def tw4152181747857944041:=0
def tw4485432830583194603:=0
def tw16501898649058525673:=0
def tw3242128623944660749:=0
def tw2143001942253109168:=0
def tw16014922135134469708:=0
def tw14057891860681656148:=0
def tw15140822453298344673:=0
def tw9027282066612876445:=0
def tw17040528687688330317:=0
def tw13560535041996022258:=0
def tw12929620973407725944:=0
def tw6965538753498541041:=0
def tw5113216215607679590:=0
def tw2193491061470998574:=0
def tw3271157400497283988:=0
def tw13629731429733102807:=0
def tw9782311864177943518:=0
def tw2091314800764240529:=0
def tw16562874093524812007:=0
def tw15386192497439048471:=0
def tw14318923285591639812:=0
def tw4010679683833290110:=0
def tw15358344881855434224:=0
def tw4055602347999406928:=0
def tw16225750389819982359:=0
def tw9790851797060844969:=0
def tw11919606238324877195:=0
def tw17948969689035142017:=0
def tw2985461827600555800:=0
def tw16136817639532678490:=0
def tw9220920567944482148:=0
def tw12947248129843484125:=0
def tw15730737164674436403:=0
def tw4046641683059226909:=0
def tw3992820571958823656:=0
def tw6871772078601259642:=0
def tw17007364656032547990:=0
def tw10827559831253855116:=0
def tw14448524576723982517:=0
def tw8336565047983403:=0
def tw17770591155698464279:=0
def tw534681923584443499:=0
def tw6720088306989881994:=0
def tw6691981128916285634:=0
def tw10677570791096814800:=0
def tw2217773928002736451:=0
def tw6001825055851194739:=0
def tw11240156399056253443:=0
def tw3161570639863826333:=0
def tw11497375310381852668:=0
def tw17940829033349131747:=0
def tw16921587200323867608:=0
def tw2495940473733229481:=0
def tw2087408433415353400:=0
def tw16815378762412966482:=0
def tw15559274383674136778:=0
def tw2090553419037293086:=0
def tw6762128016707445014:=0
end PySem.W.Fast
noncomputable section
open PySem.W (Frag InitBack InstAt KdlKeysView Looks any_some bind_fn callWith_K callWith_K0 cellsFrom_some check_slot clsIn codeIn codeRec_of emptyDict eq_bytes exmOne exm_one findCls findIn findObj_own fnOf get_value handedIn hasDictIn hideAll hideAll_get hideAll_none hideAll_size instObj isFn kcp_self kdl_call kdl_dict kdl_keys kdl_meets_keys keepIn keq_ne kia_one kitOne kitx_bool kitx_int kitx_list kitx_none kitx_str kitx_tuple kun_itemsOf lookIn looks_clsIn looks_findIn looks_mroIn make_core makesIn makes_of methodCall_KW methodObj method_fn mg_none_of mg_of mroIn ne_bytes nsIn of_hideAll osa_eq osa_open plainGet plainGet_of plainOver readsIn set_plain specialIn takerIn takesIn truthy_bytes typeIn)
local macro_rules
 | `(tactic| rfl') => `(tactic| kernel_rfl)
local macro_rules
 | `(tactic| simp![$xs,*] $[$l:location]?) => `(tactic| simp only[Nat.reduceAdd, Nat.reduceSub, Nat.reduceLeDiff, ↓reduceIte, reduceCtorEq, $xs,*] $[$l:location]?)
local macro_rules|`(())=>`(by omega)
local macro_rules|`(⋯)=>`(by decide)|`(nofun)=>`(by decide +kernel)|`(∅)=>`(by rfl')
abbrev AG(x:PySem.Str):Prop:=(x==("__debug__" :PySem.Str))=false
abbrev AE:=List (PySem.Addr×PySem.Obj)
abbrev AB:=PySem.Str->Option PySem.Value
abbrev AA:=PySem.Value->PySem.Shared->Prop
namespace L2
open PySem PySem.Spec PyProof.Rows
abbrev Ae:=Sum Int Str
def az_9:Ae->Value->Bool
 | .inl k,v=>Value.isInt k v
 | .inr x,v=>Value.isStrOf x v
def keyH(w:World):Ae->Int
 | .inl k=>hashInt k
 | .inr x=>hashStr w x
def g_5:∀{k:Ae} {v:Value},az_9 k v=true->(∃i t,k=Sum.inl i/\v=Value.int i t)\/(∃x t,k=Sum.inr x/\v=Value.str x t)
 | .inl i,v,h=>by
  obtain⟨t,e⟩:=Value.isInt_shape (k:=i) (v:=v) h;exact .inl ⟨i,t,rfl,e⟩
 | .inr x,v,h=>by
  obtain⟨t,e⟩:=Value.isStrOf_shape (x:=x) (v:=v) h;exact .inr ⟨x,t,rfl,e⟩
def ce_5(i:Int)(t:Tok):az_9 (.inl i) (.int i t)=true:=by simp[az_9,Value.isInt]
def ce_6(x:Str)(t:Tok):az_9 (.inr x) (.str x t)=true:=by simp[az_9,Value.isStrOf]
def dj_6(a b:Int):decide ((Sum.inl a:Ae)=Sum.inl b)=(a ==b):=by
 by_cases e:a=b
 ·subst e;simp
 ·have h:¬(Sum.inl a:Ae)=Sum.inl b:=λq=>e (Sum.inl.inj q);rw[D2 h];exact(O7.mpr e).symm
def dj_7(a b:Str):decide ((Sum.inr a:Ae)=Sum.inr b)=decide (a=b):=by
 by_cases e:a=b
 ·subst e;simp
 ·have h:¬(Sum.inr a:Ae)=Sum.inr b:=λq=>e (Sum.inr.inj q);rw[D2 h,D2 e]
def dj_8(a:Int)(b:Str):decide ((Sum.inl a:Ae)=Sum.inr b)=false:=D2 (λq=>nomatch q)
def dj_9(a:Str)(b:Int):decide ((Sum.inr a:Ae)=Sum.inl b)=false:=D2 (λq=>nomatch q)
def Dw(prog:Program)(w:World):PySem.KeyKind prog w Ae where
 is:=az_9
 hash:=keyH w
 inj:=λv a b ha hb=>by
  rcases g_5 ha with⟨i,t,rfl,rfl⟩|⟨x,t,rfl,rfl⟩
  ·rcases g_5 hb with⟨j,u,rfl,e⟩|⟨y,u,rfl,e⟩
   ·injection e with e1 _;rw[e1]
   ·exact nomatch e
  ·rcases g_5 hb with⟨j,u,rfl,e⟩|⟨y,u,rfl,e⟩
   ·exact nomatch e
   ·injection e with e1 _;rw[e1]
 byValue:=λk v h=>by
  rcases g_5 h with⟨i,t,rfl,rfl⟩|⟨x,t,rfl,rfl⟩ <;> rfl
 pyHash:=λhv h=>by
  rcases g_5 hv with⟨i,t,rfl,rfl⟩|⟨x,t,rfl,rfl⟩
  ·exact wpAny_pyHash_int h
  ·exact wpAny_pyHash_str h
 eqBool:=λhu hv h=>by
  rcases g_5 hu with⟨i,t,rfl,rfl⟩|⟨x,t,rfl,rfl⟩
  ·rcases g_5 hv with⟨j,u,rfl,rfl⟩|⟨y,u,rfl,rfl⟩
   ·rw[dj_6]at h;exact wpAny_eqBool_int h
   ·rw[dj_8]at h;exact SeqAt.EqAt.int_str i t y u _ _ _ _ h
  ·rcases g_5 hv with⟨j,u,rfl,rfl⟩|⟨y,u,rfl,rfl⟩
   ·rw[dj_9]at h;exact SeqAt.EqAt.str_int x t j u _ _ _ _ h
   ·rw[dj_7]at h;exact wpAny_eqBool_str h
 «strs»:=λk x t v h=>by
  rcases g_5 h with⟨i,u,rfl,e⟩|⟨y,u,rfl,e⟩
  ·exact nomatch e
  ·injection e with e1 _
   subst e1;cases v <;> rfl
def bk_0(prog:Program)(w:World)(i:Int)(t:Tok):(Dw prog w).is (.inl i) (.int i t)=true:=ce_5 i t
def bk_1(prog:Program)(w:World)(x:Str)(t:Tok):(Dw prog w).is (.inr x) (.str x t)=true:=ce_6 x t
inductive V where
 |non|bl (b:Bool)|int (i:Int)|str (x:Str)|byt (b:Array UInt8)|flt (b:UInt64)|ref (a:Addr)|ty (n:String)
 deriving DecidableEq
def RelV:V->Value->Prop
 | .non,u=>u=Value.none
 | .bl b,u=>u=Value.bool b
 | .int i,u=>∃t,u=Value.int i t
 | .str x,u=>∃t,u=Value.str x t
 | .byt b,u=>∃t,u=Value.bytes b t
 | .flt b,u=>∃t,u=Value.float b t
 | .ref a,u=>u=Value.ref a
 | .ty n,u=>u=Value.type n
abbrev Vals:List V->List Value->Prop:=Paired RelV
theorem Vals.length{xs:List V}{us:List Value}(r:Vals xs us):xs.length=us.length:=W1 r
theorem Vals.get:∀{xs:List V} {us:List Value} {i:Nat} {x:V},Vals xs us->xs[i]? =some x->∃u,us[i]? =some u/\RelV x u
 |_,_,_,_,.nil,e=>by simp at e
 |_,_,0,_,.cons r _,e=>by simp at e;subst e;exact⟨_,rfl,r⟩
 |_,_,i + 1,x,.cons _ t,e=>by
  obtain⟨u,h1,h2⟩:=Vals.get (i:=i) (x:=x) t (by simpa using e);exact⟨u,by simpa using h1,h2⟩
theorem Vals.set{x:V}{u:Value}(r:RelV x u):∀{xs:List V} {us:List Value} (i:Nat),Vals xs us->Vals (xs.set i x) (us.set i u)
 |_,_,_,.nil=> .nil
 |_,_,0,.cons _ t=> .cons r t
 |_,_,i + 1,.cons q t=> .cons q (Vals.set r i t)
theorem Vals.append:∀{xs ys:List V} {us ws:List Value},Vals xs us->Vals ys ws->Vals (xs ++ ys) (us ++ ws)
 |_,_,_,_,.nil,s=>s
 |_,_,_,_,.cons r t,s=> .cons r (Vals.append t s)
theorem Vals.take:∀{xs:List V} {us:List Value} (n:Nat),Vals xs us->Vals (xs.take n) (us.take n)
 |_,_,0,_=> .nil
 |_,_,_ + 1,.nil=> .nil
 |_,_,n + 1,.cons r t=> .cons r (Vals.take n t)
def RelO:Option V->Option Value->Prop
 |some v,some u=>RelV v u
 |none,none=>True
 |_,_=>False
def KV{κ:Type}:List (κ×V)->List (κ×Value)->Prop:=Paired λ(p:κ×V) (q:κ×Value)=>p.1=q.1/\RelV p.2 q.2
def kV:Ae->V
 | .inl i=> .int i
 | .inr x=> .str x
inductive HO where
  |lst (xs:List V)
  |tup (xs:List V)
  |dK (kvs:List (Ae×V))|dT (kvs:List (List Ae×V))
  |set (S:Int->Bool) (n:Nat)
  |ins (C dx:Addr) (fs:List (Str×V))
  |own (x:Addr)
  |xd (fs:List (Str×V))
  |met (f x:Addr)
  |rng (lo hi:Int)
  |frz (o:Obj) (u:HO)
  |tbl (ps:Array Value)
  |ext (φ:Heap->Prop)
abbrev Hp:=Addr->Option HO
def upd(H:Hp)(a:Addr)(o:HO):Hp:=λb=>if b=a then some o else H b
def Bj{H:Hp}{a:Addr}{o:HO}:upd H a o a=some o:=by unfold upd;rw[if_pos rfl]
def Aq{H:Hp}{a b:Addr}{o:HO}(h:b≠a):upd H a o b=H b:=by unfold upd;rw[if_neg h]
def dr_7{H:Hp}{a b:Addr}{o u:HO}(h:H a=some o)(h':H b=some u)(d:o≠u):a≠b:=by
 intro e;subst e;rw[h]at h';exact d (J7 h')
def Ej{H:Hp}{a b:Addr}{o:HO}(h:H a=some o)(h':H b=none):a≠b:=by
 intro e;subst e;rw[h]at h';cases h'
section
variable(P:Program)(w:World)
def ObjOk(H:Hp)(h:Heap)(a:Addr):HO->Prop
 | .lst xs=>xs.length<=sizeLine/\∃(its:List Value) (n:Nat),Vals xs its/\h.get? a=some {cls:=.type "list",data:=.seq its.toArray n}
 | .tup xs=>xs.length<=sizeLine/\∃its:List Value,Vals xs its/\IsTup h a its.toArray
 | .dK kvs=>kvs.length<=sizeLine/\(a ==sysModules)=false/\∃vs,KV kvs vs/\h.DictOf (Dw P w) a vs
 | .dT kvs=>kvs.length<=sizeLine/\(a ==sysModules)=false/\∃xs:List (List Ae×Addr×Value),
   Paired (λ(p:List Ae×V) (q:List Ae×Addr×Value)=>p.1=q.1/\H q.2.1=some (.tup (p.1.map kV))/\RelV p.2 q.2.2) kvs xs/\
   ∃o es ep,h.get? a=some o/\o.ExactDict/\o.data=.dict es ep/\es.toList=xs.map (entryOfKey (tupleKind (Dw P w)))/\(xs.map (·.1)).Nodup
 | .set S n=>h.SetOf (intKind P w) a S n
 | .ins C dx fs=>H dx=some (.own a)/\fs.length<=1000/\dx≠a/\h.get? a=some (instObj C dx)/\
   ∃mA,h.Ns1 dx mA/\(∀f,RelO (fs.lookup f) (mA f))/\PySem.Within mA (fs.map (·.1))
 | .own _=>∃o,h.get? a=some o
 | .xd fs=>∃mA,h.Ns1 a mA/\∀f,RelO (fs.lookup f) (mA f)
 | .rng lo hi=>∃t u v,h.get? a=some {cls:=.type "range",data:=.fields #[.int lo t,.int hi u,.int 1 v]}
 | .frz o u=>h.get? a=some o/\ObjOk H h a u
 | .tbl ps=>h.get? a=some {cls:=.none,data:=.fields ps}
 | .met f x=>h.get? a=some (methodObj (.ref f) (.ref x))
 | .ext φ=>φ h/\(∃o,h.get? a=some o)/\∀h1 h2:Heap,φ h1->(∀o,h1.get? a=some o->h2.get? a=some o)->φ h2
def HOk(H:Hp)(h:Heap):Prop:=∀a o,H a=some o->ObjOk P w H h a o
end
section
variable{P:Program}{w:World}{H H':Hp}{h h':Heap}{a:Addr}{o:HO}
theorem ObjOk.lt(x:ObjOk P w H h a o):a < h.objs.size:=by
 cases o with
 |lst xs=>obtain⟨_,_,_,_,e⟩:=x;exact A5 e
 |tup xs=>obtain⟨_,_,_,p⟩:=x;exact p.lt
 |dK kvs=>obtain⟨_,_,_,_,o,_,_,e,_⟩:=x;exact A5 e
 |dT kvs=>obtain⟨_,_,_,_,o,_,_,e,_⟩:=x;exact A5 e
 |set S n=>obtain⟨o,_,_,_,e,_⟩:=x;exact A5 e
 |ins C dx fs=>obtain⟨_,_,_,e,_⟩:=x;exact A5 e
 |own y=>obtain⟨_,e⟩:=x;exact A5 e
 |xd fs=>obtain⟨_,⟨_,_,_,e,_⟩,_⟩:=x;exact A5 e
 |rng lo hi=>obtain⟨_,_,_,e⟩:=x;exact A5 e
 |frz ob u=>obtain⟨e,_⟩:=x;exact A5 e
 |tbl ps=>exact A5 (show h.get? a=some _ from x)
 |met f y=>exact A5 (show h.get? a=some _ from x)
 |ext φ=>obtain⟨_,⟨_,e⟩,_⟩:=x;exact A5 e
theorem Paired.mapP{α β:Type}{F G:α->β->Prop}:∀{l₁:List α} {l₂:List β},Paired F l₁ l₂->(∀a b,F a b->G a b)->Paired G l₁ l₂
 |_,_,.nil,_=> .nil
 |_,_,.cons r t,f=> .cons (f _ _ r) (Paired.mapP t f)
def ObjOk.stay(x:ObjOk P w H h a o)(k:∀b u,(b=a\/H b=some (.own a))->h.get? b=some u->h'.get? b=some u)
  (ho:∀b,H b=some (.own a)->H' b=some (.own a)) (ht:∀b xs,H b=some (.tup xs)->H' b=some (.tup xs)):ObjOk P w H' h' a o:=by
 induction o with
 |lst xs=>obtain⟨z,its,n,r,e⟩:=x;exact⟨z,its,n,r,k _ _ (.inl rfl) e⟩
 |tup xs=>obtain⟨z,its,r,ob,e,c⟩:=x;exact⟨z,its,r,ob,k _ _ (.inl rfl) e,c⟩
 |dK kvs=>obtain⟨z,y,vs,r,ob,es,ep,e,c⟩:=x;exact⟨z,y,vs,r,ob,es,ep,k _ _ (.inl rfl) e,c⟩
 |dT kvs=>
  obtain⟨z,y,xs,r,ob,es,ep,e,c⟩:=x;exact⟨z,y,xs,Paired.mapP r λp q z=>⟨z.1,ht _ _ z.2.1,z.2.2⟩,ob,es,ep,k _ _ (.inl rfl) e,c⟩
 |set S n=>obtain⟨ob,es,ep,t,e,c⟩:=x;exact⟨ob,es,ep,t,k _ _ (.inl rfl) e,c⟩
 |ins C dx fs=>
  obtain⟨d,z,ne,e,mA,⟨od,es,ep,e2,c⟩,r⟩:=x;exact⟨ho _ d,z,ne,k _ _ (.inl rfl) e,mA,⟨od,es,ep,k _ _ (.inr d) e2,c⟩,r⟩
 |own y=>obtain⟨ob,e⟩:=x;exact⟨ob,k _ _ (.inl rfl) e⟩
 |xd fs=>obtain⟨mA,⟨od,es,ep,e,c⟩,r⟩:=x;exact⟨mA,⟨od,es,ep,k _ _ (.inl rfl) e,c⟩,r⟩
 |rng lo hi=>obtain⟨t,u,v,e⟩:=x;exact⟨t,u,v,k _ _ (.inl rfl) e⟩
 |frz ob u ih=>obtain⟨e,q⟩:=x;exact⟨k _ _ (.inl rfl) e,ih q⟩
 |tbl ps=>
  have e:h.get? a=some {cls:=.none,data:=.fields ps}:=x;show h'.get? a=some {cls:=.none,data:=.fields ps};exact k a _ (.inl rfl) e
 |met f y=>
  have e:h.get? a=some (methodObj (.ref f) (.ref y)):=x;show h'.get? a=some (methodObj (.ref f) (.ref y));exact k a _ (.inl rfl) e
 |ext φ=>obtain⟨p,⟨o,e⟩,st⟩:=x;exact⟨st _ _ p λo q=>k _ _ (.inl rfl) q,⟨o,k _ _ (.inl rfl) e⟩,st⟩
theorem HOk.lt(x:HOk P w H h)(e:H a=some o):a < h.objs.size:=(x a o e).lt
def HOk.fresh(x:HOk P w H h)(e:h.objs.size<=a):H a=none:=by
 cases q:H a with
 |none=>rfl
 |some u=>exact absurd (C4 (x.lt q) e) (D7 _)
def HOk.kept(x:HOk P w H h)(k:∀b u,h.get? b=some u->h'.get? b=some u):HOk P w H h':=λa o e=>
 (x a o e).stay (λb u _ q=>k b u q) (λ_ q=>q) λ_ _ q=>q
def HOk.laid(x:HOk P w H h)(k:∀b u,h.get? b=some u->h'.get? b=some u)(hp:h.objs.size<=a)(new:ObjOk P w (upd H a o) h' a o):HOk P w (upd H a o) h':=λb u e=>by
 have hn:=x.fresh hp
 by_cases hb:b=a
 ·subst hb;rw[Bj]at e;cases e;exact new
 ·rw[Aq hb]at e;exact(x b u e).stay (λc v _ q=>k c v q) (λc q=>by rw[Aq (Ej q hn)];exact q) λc xs q=>by rw[Aq (Ej q hn)];exact q
end
def Rd(H:Hp)(a:Addr)(u:HO):Prop:=H a=some u\/∃o,H a=some (.frz o u)
def Rd.ok{P:Program}{w:World}{H:Hp}{h:Heap}{a:Addr}{u:HO}(r:Rd H a u)(x:HOk P w H h):ObjOk P w H h a u:=by
 rcases r with r|⟨o,r⟩
 ·exact x a u r
 ·obtain⟨_,q⟩:=x a _ r;exact q
def Mut:Option HO->Prop
 |some (.lst _)=>True
 |some (.dK _)=>True
 |some (.dT _)=>True
 |some (.set _ _)=>True
 |some (.ins _ _ _)=>True
 |some (.ext _)=>True
 |_=>False
section
variable{P:Program}{w:World}{H:Hp}{h h':Heap}{x e:Addr}{o':HO}
def HOk.write(ok:HOk P w H h)(mu:Mut (H x))(he:e=x\/H e=some (.own x))(k:∀b u,b≠e->h.get? b=some u->h'.get? b=some u)(heo:∃u,h'.get? e=some u)
  (new:ObjOk P w (upd H x o') h' x o'):HOk P w (upd H x o') h':=λb u q=>by
 have cy:∀c y,H c=some (.own y)->c≠x:=λc y r z=>by subst z;rw[r]at mu;exact mu
 have eg:∀c xs,H c=some (.tup xs)->c≠x:=λc xs r z=>by subst z;rw[r]at mu;exact mu
 by_cases hb:b=x
 ·subst hb;rw[Bj]at q;cases q;exact new
 ·rw[Aq hb]at q
  by_cases hbe:b=e
  ·have q':H b=some (.own x):=by
    rcases he with z|z
    ·exact absurd (hbe.trans z) hb
    ·rw[hbe];exact z
   rw[q]at q';cases q';obtain⟨v,hv⟩:=heo;exact⟨v,by rw[hbe];exact hv⟩
  ·refine(ok b u q).stay (λc v hc r=>k c v ?_ r) (λc r=>by rw[Aq (cy c b r)];exact r) λc xs r=>by rw[Aq (eg c xs r)];exact r
   rcases hc with rfl|hc
   ·exact hbe
   ·rintro rfl
    rcases he with z|z
    ·exact cy c b hc z
    ·rw[hc]at z;cases z;exact hb rfl
end
structure Un(fs ex:List Addr)(H H':Hp)(h h':Heap):Prop where
 keep:∀b o,h.get? b=some o->H b=none->b∉fs->b∉ex->h'.get? b=some o
 slot:∀b o,h.get? b=some o->H b=none->b∈fs->b∉ex->∃sl,h'.get? b=some {o with slots:=sl}
 free:∀b o,h.get? b=some o->H b=none->b∉ex->H' b=none
 there:∀b o,h.get? b=some o->b∉ex->∃o',h'.get? b=some o'
 tups:∀b xs,H b=some (.tup xs)->H' b=some (.tup xs)
 frzs:∀b o u,H b=some (.frz o u)->H' b=some (.frz o u)
 tbls:∀b ps,H b=some (.tbl ps)->∃more,H' b=some (.tbl (ps ++ more))
section
variable{fs fs' ex ex':List Addr}{H H1 H2:Hp}{h h1 h2 h':Heap}{a x e:Addr}{o:HO}
def Un.any(u:Un fs ex H H1 h h1){b:Addr}{ob:Obj}(q:h.get? b=some ob)(n:H b=none)(hx:b∉ex):∃sl,h1.get? b=some {ob with slots:=sl}:=by
 by_cases hb:b∈fs
 ·exact u.slot b ob q n hb hx
 ·exact⟨ob.slots,u.keep b ob q n hb hx⟩
def Un.kept(k:∀b u,h.get? b=some u->h'.get? b=some u):Un fs ex H H h h':=
 ⟨λb ob q _ _ _=>k b ob q,λb ob q _ _ _=>⟨ob.slots,k b ob q⟩,λ_ _ _ n _=>n,λb ob q _=>⟨ob,k b ob q⟩,λ_ _ q=>q,λ_ _ _ q=>q,λ_ ps q=>⟨#[],by rw[q];simp⟩⟩
def Un.refl:Un fs ex H H h h:=Un.kept λ_ _ q=>q
def Un.laid(k:∀b u,h.get? b=some u->h'.get? b=some u)(hp:h.objs.size<=a)(hn:H a=none):Un fs ex H (upd H a o) h h' where
 keep:=λb u q _ _ _=>k b u q
 slot:=λb u q _ _ _=>⟨u.slots,k b u q⟩
 free:=λb u q n _=>by rw[Aq (C9 (C4 (A5 q) hp))];exact n
 there:=λb u q _=>⟨u,k b u q⟩
 tups:=λb xs q=>by rw[Aq (Ej q hn)];exact q
 frzs:=λb u xs q=>by rw[Aq (Ej q hn)];exact q
 tbls:=λb ps q=>⟨#[],by rw[Aq (Ej q hn),q];simp⟩
def Un.write(mu:Mut (H x))(he:e=x\/H e=some (.own x))(k:∀b u,b≠e->h.get? b=some u->h'.get? b=some u)(heo:∃u,h'.get? e=some u):Un fs ex H (upd H x o) h h':=by
 have hx:∀b,H b=none->b≠x:=λb n z=>by subst z;rw[n]at mu;exact mu
 have hb:∀b,H b=none->b≠e:=λb n z=>by
  subst z;rcases he with r|r
  ·exact hx b n r
  ·rw[n]at r;cases r
 have hm:∀b u,H b=some u->¬Mut (some u)->b≠x:=λb u q nm z=>by subst z;rw[q]at mu;exact nm mu
 refine⟨λb u q n _ _=>k b u (hb b n) q,λb u q n _ _=>⟨u.slots,k b u (hb b n) q⟩,λb u q n _=>by rw[Aq (hx b n)];exact n,λb u q _=> ?_,
  λb xs q=>by rw[Aq (hm b _ q λz=>z)];exact q,λb u xs q=>by rw[Aq (hm b _ q λz=>z)];exact q,λb ps q=>⟨#[],by rw[Aq (hm b _ q λz=>z),q];simp⟩⟩
 by_cases hbe:b=e
 ·subst hbe;exact heo
 ·exact⟨u,k b u hbe q⟩
end
def trk(h:Heap)(H:Hp):List Addr:=(List.range h.objs.size).filter λa=>(H a).isSome
def hidT(h:Heap)(H:Hp):Heap:=hideAll h (trk h H)
def ce_7(h:Heap)(H:Hp):(hidT h H).objs.size=h.objs.size:=hideAll_size _ _
def cl_1{h:Heap}{H:Hp}{b:Addr}{o:Obj}(e:h.get? b=some o)(n:H b=none):(hidT h H).get? b=some o:=
 hideAll_get _ e λhm=>by
  have q:(H b).isSome=true:=(L4.mp hm).2;rw[n]at q;simp at q
def cy_2{h:Heap}{H:Hp}{b:Addr}{o:Obj}(e:(hidT h H).get? b=some o):h.get? b=some o/\H b=none:=by
 have e':h.get? b=some o:=of_hideAll (trk h H) e;refine⟨e', ?_⟩;cases q:H b with
 |none=>rfl
 |some x=>
  have hm:b∈trk h H:=L4.mpr ⟨K9.mpr (A5 e'),by simp[q]⟩;have z:(hidT h H).get? b=none:=hideAll_none (trk h H) hm;rw[z]at e;cases e
def cy_3(g h:Heap)(L:Addr):AE:=(List.range h.objs.size).filterMap λa=>if a=L\/(g.get? a).isSome=true then none else(h.get? a).map λo=>(a,o)
def z_7(g h:Heap)(L d:Addr):AE:=(cy_3 g h L).filter λp=>decide (p.1≠d)
structure Mod(K:Frag)(mg:AB)(base:Heap):Prop where
 kin:K.In base
 glob:base.Ns mainGlobals mg
 blt:∃mb,base.Ns builtinsNs mb/\∀x:Str,x≠ "__name__" ->mb x=bootBuiltins x
 nolimit:base.NoLimit
structure Cx where
 prog:Program
 w:World
 K:Frag
 mg:Str->Option Value
 base:Heap
 A:Around
 N:List Str
 s₀:Shared
 H₀:Hp
 env:Env
 outer:List Env
 stack:List Env
 ex:List Addr
 fn:Str->Bool
 calm:Bool
 pn:AE
 xe:Value->Shared->Prop
def frs(l:List Env):List Addr:=l.filterMap (·.frame)
abbrev Cx.fs(X:Cx):List Addr:=frs X.outer
def Fg(sc:Scope)(x:Str):Prop:=sc.names.lookup x=some .local\/sc.names.lookup x=some .cell\/sc.names.lookup x=some .free
def Ep(sc:Scope)(x:Str):Prop:=sc.names.lookup x=some .local\/sc.names.lookup x=some .cell
def Look(env:Env)(h:Heap)(m:AB)(x:Str)(u:Value):Prop:=
 (env.kindOf x=some .local/\m x=some u)\/((env.kindOf x=some .cell\/env.kindOf x=some .free)/\∃c,env.cells.lookup x=some c/\h.IsCell c (some u))
structure Cx.Ok(X:Cx):Prop where
 mod:Mod X.K X.mg X.base
 kind:X.env.scope.kind=.function
 glob:X.env.globals=mainGlobals
 blt:X.env.builtins=builtinsNs
 above:X.s₀.heap.objs.size<=X.env.locals
 inj:∀x y c,X.env.cells.lookup x=some c->X.env.cells.lookup y=some c->x=y
 has:∀x,(X.env.kindOf x=some .cell\/X.env.kindOf x=some .free)->∃c,X.env.cells.lookup x=some c
 cab:∀x c,X.fn x=true->X.env.cells.lookup x=some c->X.s₀.heap.objs.size<=c
 hd:X.calm=true->X.A.handled=none
 frames:X.A.frames=some X.stack
 stk:X.stack=X.outer\/(X.stack=X.env::X.outer/\X.env.frame=some X.env.locals)
 exf:∀b∈X.ex,b≠X.env.locals/\∀x c,X.env.cells.lookup x=some c->c≠b
 bs:∀b o,X.base.get? b=some o->X.s₀.heap.get? b=some o/\X.H₀ b=none
 bsz:X.base.objs.size<=X.s₀.heap.objs.size
 noex:∀b o,X.base.get? b=some o->b∉X.ex
 exfs:∀b∈X.ex,b∉X.fs
 funs:X.s₀.heap.FunFrames X.base X.outer
 frf:∀b∈X.fs,X.H₀ b=none
structure Inv(X:Cx)(zd:AE)(σ:List (Option V))(H:Hp)(s:Shared):Prop where
 ok:X.Ok
 os:s.os=X.s₀.os
 bare:AllBare s.gens
 base:Un X.fs X.ex X.H₀ H X.s₀.heap s.heap
 loc:∃m,s.heap.Ns X.env.locals m/\∀(i:Nat) (x:Str) (v:V),X.N[i]? =some x->σ[i]? =some (some v)->Fg X.env.scope x->∃u,RelV v u/\Look X.env s.heap m x u
 cell:∀x c,X.env.cells.lookup x=some c->∃v,s.heap.IsCell c v
 free:H X.env.locals=none
 freeC:∀x c,X.env.cells.lookup x=some c->H c=none
 pin:∀p∈X.pn ++ zd,s.heap.get? p.1=some p.2/\H p.1=none/\p.1≠X.env.locals/\p.1∉X.fs/\∀v,p.2.data≠ .cell v
 hok:HOk X.prog X.w H s.heap
 len:σ.length=X.N.length
section
variable{X:Cx}{zd:AE}{σ:List (Option V)}{H H':Hp}{s:Shared}{h':Heap}
def Cx.Ok.nofr(ok:X.Ok){b:Addr}{o:Obj}(e:X.base.get? b=some o):b∉X.fs:=λhb=>by
 have:=(ok.funs.mem hb).1;rw[e]at this;cases this
theorem Inv.bs(I:Inv X zd σ H s):∀b o,X.base.get? b=some o->s.heap.get? b=some o/\H b=none:=λb o e=>
 ⟨I.base.keep b o (I.ok.bs b o e).1 (I.ok.bs b o e).2 (I.ok.nofr e) (I.ok.noex b o e),I.base.free b o (I.ok.bs b o e).1 (I.ok.bs b o e).2 (I.ok.noex b o e)⟩
def Inv.bk(I:Inv X zd σ H s):∀b o,X.base.get? b=some o->s.heap.get? b=some o:=λb o e=>(I.bs b o e).1
theorem Inv.mod(I:Inv X zd σ H s):Mod X.K X.mg X.base:=I.ok.mod
def Inv.kIn(I:Inv X zd σ H s):X.K.In s.heap:=I.ok.mod.kin.keeps I.bk
theorem Inv.nolimit(I:Inv X zd σ H s):s.heap.NoLimit:=I.ok.mod.nolimit.keeps I.bk
def Inv.fr(I:Inv X zd σ H s):∃m,Fr X.base X.env.locals s.heap m:=
 let⟨m,hn,_⟩:=I.loc
 ⟨m,hn,I.bk,C5 I.ok.bsz I.ok.above⟩
theorem Inv.lt(I:Inv X zd σ H s):X.env.locals < s.heap.objs.size:=let⟨_,hn,_⟩:=I.loc;hn.lt
def Inv.sz(I:Inv X zd σ H s):X.s₀.heap.objs.size<=s.heap.objs.size:=C5 I.ok.above (Q0 I.lt)
def Inv.nofs(I:Inv X zd σ H s){a:Addr}(h:s.heap.objs.size<=a):a∉X.fs:=λhb=>by
 obtain⟨_,o,ho,_⟩:=I.ok.funs.mem hb;exact absurd (C4 (A5 ho) (C5 I.sz h)) (D7 _)
def Inv.cne(I:Inv X zd σ H s):∀x c,X.env.cells.lookup x=some c->c≠X.env.locals:=λx c e z=>by
 obtain⟨v,o,ho,hd⟩:=I.cell x c e;obtain⟨m,⟨o',es,ep,ho',hd',_⟩,_⟩:=I.loc;rw[z,ho']at ho;cases ho;rw[hd']at hd;cases hd
theorem Inv.funs(I:Inv X zd σ H s):s.heap.FunFrames X.base X.outer:=by
 have all:∀(l:List Env),(∀b∈frs l,b∈X.fs)->X.s₀.heap.FunFrames X.base l->s.heap.FunFrames X.base l:=by
  intro l
  induction l with
  |nil=>intro _ _;trivial
  |cons env r ih=>
   intro hs hl;obtain⟨hk,⟨L,o,hf,hn,ho,hd⟩,hr⟩:=hl;have hL:L∈X.fs:=hs L (by unfold frs;rw[X2,hf];exact D5);obtain⟨sl,e⟩:=I.base.slot L o ho (I.ok.frf L hL) hL λz=>I.ok.exfs L z hL;exact⟨hk,⟨L,_,hf,hn,e,hd⟩,ih (λb hb=>hs b (by unfold frs;rw[X2,hf];exact C7 _ hb)) hr⟩
 exact all X.outer (λ_ hb=>hb) I.ok.funs
theorem Inv.stack(I:Inv X zd σ H s):s.heap.FunFrames X.base X.stack:=by
 rcases I.ok.stk with e|⟨e,hf⟩
 ·rw[e];exact I.funs
 ·rw[e];obtain⟨m,hn,_⟩:=I.loc;refine .cons (by rw[I.ok.kind];decide) hf hn ?_ I.funs;exact Q1 (C5 I.ok.bsz I.ok.above)
def Inv.stkSub(I:Inv X zd σ H s):∀b∈frs X.stack,b∈X.env.locals::X.fs:=λb hb=>by
 rcases I.ok.stk with e|⟨e,hf⟩
 ·rw[e]at hb;exact C7 _ hb
 ·rw[e]at hb;unfold frs at hb;rw[X2,hf]at hb;exact hb
def Inv.stkFree(I:Inv X zd σ H s):∀b∈frs X.stack,H b=none:=λb hb=>by
 rcases C6.mp (I.stkSub b hb) with e|hb
 ·rw[e];exact I.free
 ·obtain⟨_,o,ho,_⟩:=I.ok.funs.mem hb;exact I.base.free b o ho (I.ok.frf b hb) λz=>I.ok.exfs b z hb
def Inv.step{g':Array GenState}{t':Nat}{d':Drawn}{ch:List Addr}(I:Inv X zd σ H s)
  (hch:∀b∈ch,(b∈X.ex\/X.s₀.heap.objs.size<=b)/\b≠X.env.locals/\(∀x c,X.env.cells.lookup x=some c->c≠b)/\∀p∈X.pn ++ zd,p.1≠b)
  (keep:∀b o,b≠X.env.locals->b∉X.fs->b∉ch->s.heap.get? b=some o->H b=none->h'.get? b=some o)
  (slot:∀b o,b≠X.env.locals->b∈X.fs->b∉ch->s.heap.get? b=some o->H b=none->∃sl,h'.get? b=some {o with slots:=sl}) (free:∀b o,b∉ch->s.heap.get? b=some o->H b=none->H' b=none)
  (there:∀b o,b∉ch->s.heap.get? b=some o->∃o',h'.get? b=some o')
  (tups:∀b xs,H b=some (.tup xs)->H' b=some (.tup xs)) (frzs:∀b o u,H b=some (.frz o u)->H' b=some (.frz o u)) (tbls:∀b ps,H b=some (.tbl ps)->∃more,H' b=some (.tbl (ps ++ more)))
  (ns:∀m,s.heap.Ns X.env.locals m->h'.Ns X.env.locals m) (hok:HOk X.prog X.w H' h') (hg:AllBare g'):
  Inv X zd σ H' {s with heap:=h',gens:=g',drawn:=d',toks:=t'}:=by
 have neL:∀b o,X.s₀.heap.get? b=some o->b≠X.env.locals:=λb o e=>C9 (C4 (A5 e) I.ok.above);have neC:∀b o,X.s₀.heap.get? b=some o->b∉X.ex->b∉ch:=λb o e hx hb=>by
  rcases(hch b hb).1 with z|z
  ·exact hx z
  ·exact absurd (C4 (A5 e) z) (D7 _)
 have cellK:∀x c,X.env.cells.lookup x=some c->∀v,s.heap.IsCell c v->h'.IsCell c v:=λx c e v ⟨o,ho,hd⟩=>by
  have nch:c∉ch:=λz=>(hch c z).2.2.1 x c e rfl
  by_cases hc:c∈X.fs
  ·obtain⟨sl,q⟩:=slot c o (I.cne x c e) hc nch ho (I.freeC x c e);exact⟨_,q,hd⟩
  ·exact⟨o,keep c o (I.cne x c e) hc nch ho (I.freeC x c e),hd⟩
 refine⟨I.ok,I.os,hg,⟨λb o e n hb hx=> ?_,λb o e n hb hx=> ?_,λb o e n hx=> ?_,λb o e hx=> ?_,λb xs e=>tups b xs (I.base.tups b xs e),λb o xs e=>frzs b o xs (I.base.frzs b o xs e),λb ps e=> ?_⟩, ?_,λx c e=> ?_, ?_,λx c e=> ?_,λp hp=> ?_,hok,I.len⟩
 ·exact keep b o (neL b o e) hb (neC b o e hx) (I.base.keep b o e n hb hx) (I.base.free b o e n hx)
 ·obtain⟨sl,e1⟩:=I.base.slot b o e n hb hx;obtain⟨sl',e2⟩:=slot b _ (neL b o e) hb (neC b o e hx) e1 (I.base.free b o e n hx);exact⟨sl',e2⟩
 ·obtain⟨o',e1⟩:=I.base.there b o e hx;exact free b o' (neC b o e hx) e1 (I.base.free b o e n hx)
 ·obtain⟨o',e1⟩:=I.base.there b o e hx;exact there b o' (neC b o e hx) e1
 ·obtain⟨m1,e1⟩:=I.base.tbls b ps e;obtain⟨m2,e2⟩:=tbls b _ e1;exact⟨m1 ++ m2,by rw[e2,Array.append_assoc]⟩
 ·obtain⟨m,hn,hl⟩:=I.loc;refine⟨m,ns m hn,λi x v e1 e2 e3=> ?_⟩;obtain⟨u,r,l⟩:=hl i x v e1 e2 e3;refine⟨u,r, ?_⟩;rcases l with l|⟨k,c,e,z⟩
  ·exact .inl l
  ·exact .inr ⟨k,c,e,cellK x c e _ z⟩
 ·obtain⟨v,z⟩:=I.cell x c e;exact⟨v,cellK x c e v z⟩
 ·obtain⟨m,⟨o,_,_,ho,_⟩,_⟩:=I.loc;exact free _ o (λz=>(hch _ z).2.1 rfl) ho I.free
 ·obtain⟨v,o,ho,hd⟩:=I.cell x c e;exact free c o (λz=>(hch c z).2.2.1 x c e rfl) ho (I.freeC x c e)
 ·obtain⟨e,n,ne,nf,d⟩:=I.pin p hp;have nch:p.1∉ch:=λz=>(hch p.1 z).2.2.2 p hp rfl;exact⟨keep p.1 p.2 ne nf nch e n,free p.1 p.2 nch e n,ne,nf,d⟩
def Inv.un{t':Nat}(I:Inv X zd σ H s)(u:Un X.fs [] H H' s.heap h')(hok:HOk X.prog X.w H' h'):Inv X zd σ H' {s with heap:=h',toks:=t'}:=by
 obtain⟨m,⟨o,es,ep,ho,r⟩,_⟩:=id I.loc;obtain⟨sl,hL⟩:=u.any ho I.free (by simp);exact I.step (g':=s.gens) (d':=s.drawn) (ch:=[]) (λ_ z=>nomatch z) (λb o _ hb _ e n=>u.keep b o e n hb (by simp)) (λb o _ hb _ e n=>u.slot b o e n hb (by simp)) (λb o _ e n=>u.free b o e n (by simp)) (λb o _ e=>u.there b o e (by simp)) u.tups u.frzs u.tbls (λm' hm=>by
  obtain⟨o',es',ep',ho',r'⟩:=hm;rw[ho]at ho';cases ho';exact⟨_,es',ep',hL,r'⟩) hok I.bare
def Inv.call{g':Array GenState}{t':Nat}{d':Drawn}{ch:List Addr}(I:Inv X zd σ H s)(u:Un (frs X.stack) ch H H' s.heap h')(hok:HOk X.prog X.w H' h')(hg:AllBare g')
  (hch:∀b∈ch,(b∈X.ex\/X.s₀.heap.objs.size<=b)/\b≠X.env.locals/\(∀x c,X.env.cells.lookup x=some c->c≠b)/\∀p∈X.pn ++ zd,p.1≠b):
  Inv X zd σ H' {s with heap:=h',gens:=g',drawn:=d',toks:=t'}:=by
 obtain⟨m,⟨o,es,ep,ho,r⟩,_⟩:=id I.loc;obtain⟨sl,hL⟩:=u.any ho I.free λz=>(hch _ z).2.1 rfl;exact I.step (ch:=ch) hch (λb o hL hb hc e n=>u.keep b o e n (λz=>(C6.mp (I.stkSub b z)).elim hL hb) hc) (λb o _ _ hc e n=>u.any e n hc) (λb o hc e n=>u.free b o e n hc) (λb o hc e=>u.there b o e hc) u.tups u.frzs u.tbls (λm' hm=>by
  obtain⟨o',es',ep',ho',r'⟩:=hm;rw[ho]at ho';cases ho';exact⟨_,es',ep',hL,r'⟩) hok hg
def Inv.turned{t':Nat}{it:Addr}(I:Inv X zd σ H s)(k:∀b o,b≠it->s.heap.get? b=some o->h'.get? b=some o)(hn:H it=none)(hL:it≠X.env.locals)
  (h1:it∈X.ex\/X.s₀.heap.objs.size<=it) (h2:∀x c,X.env.cells.lookup x=some c->c≠it) (h3:∀p∈X.pn ++ zd,p.1≠it):Inv X zd σ H {s with heap:=h',toks:=t'}:=by
 have nit:∀b u,H b=some u->b≠it:=λb u e z=>by rw[z,hn]at e;cases e
 refine I.step (g':=s.gens) (d':=s.drawn) (ch:=[it]) (λb hb=> ?_) (λb o _ _ hc e _=>k b o (λz=>hc (by simp[z])) e) (λb o _ _ hc e _=>⟨o.slots,k b o (λz=>hc (by simp[z])) e⟩) (λ_ _ _ _ n=>n)
  (λb o hc e=>⟨o,k b o (λz=>hc (by simp[z])) e⟩) (λ_ _ e=>e) (λ_ _ _ e=>e) (λb ps e=>⟨#[],by rw[e];simp⟩) (λm hm=> ?_) (λb u e=> ?_) I.bare
 ·have e:b=it:=by simpa using hb
  subst e;exact⟨h1,hL,h2,h3⟩
 ·obtain⟨o,es,ep,ho,r⟩:=hm;exact⟨o,es,ep,k _ o (Ne.symm hL) ho,r⟩
 ·refine(I.hok b u e).stay (λc v hc q=>k c v ?_ q) (λ_ q=>q) λ_ _ q=>q;rcases hc with z|z
  ·rw[z];exact nit b u e
  ·exact nit c _ z
def Inv.tok(I:Inv X zd σ H s)(t:Nat):Inv X zd σ H {s with toks:=t}:=I.un (h':=s.heap) (t':=t) Un.refl I.hok
theorem Inv.kept{t':Nat}(I:Inv X zd σ H s)(k:∀b u,s.heap.get? b=some u->h'.get? b=some u):Inv X zd σ H {s with heap:=h',toks:=t'}:=I.un (Un.kept k) (I.hok.kept k)
theorem Inv.laid{a:Addr}{o:HO}{t':Nat}(I:Inv X zd σ H s)(k:∀b u,s.heap.get? b=some u->h'.get? b=some u)(hp:s.heap.objs.size<=a)(new:ObjOk X.prog X.w (upd H a o) h' a o):
  Inv X zd σ (upd H a o) {s with heap:=h',toks:=t'}:=I.un (Un.laid k hp (I.hok.fresh hp)) (I.hok.laid k hp new)
theorem Inv.write{x e:Addr}{o:HO}{t':Nat}(I:Inv X zd σ H s)(mu:Mut (H x))(he:e=x\/H e=some (.own x))(k:∀b u,b≠e->s.heap.get? b=some u->h'.get? b=some u)(heo:∃u,h'.get? e=some u)
  (new:ObjOk X.prog X.w (upd H x o) h' x o):Inv X zd σ (upd H x o) {s with heap:=h',toks:=t'}:=I.un (Un.write mu he k heo) (I.hok.write mu he k heo new)
def Inv.pins_of{aj:AE}(I:Inv X zd σ H s)(h:∀p∈aj,s.heap.get? p.1=some p.2/\H p.1=none/\p.1≠X.env.locals/\p.1∉X.fs/\∀v,p.2.data≠ .cell v):Inv X aj σ H s:=
 ⟨I.ok,I.os,I.bare,I.base,I.loc,I.cell,I.free,I.freeC,λp hp=>(F5.mp hp).elim (λz=>I.pin p (J9 _ z)) (h p),I.hok,I.len⟩
def ar_8{N:List Str}(hN:N.Nodup){i j:Nat}{x:Str}(a:N[i]? =some x)(b:N[j]? =some x):i=j:=by
 obtain⟨h1,e1⟩:=B6.mp a;obtain⟨h2,e2⟩:=B6.mp b;exact(List.getElem_inj hN).mp (e1.trans e2.symm)
def ba_0{M:Model}{A:Around}{E:AA}{i:Nat}{x:Str}{v:V}{u:Value}{Q:Unit->Shared->Prop}(I:Inv X zd σ H s)(hN:X.N.Nodup)(hi:X.N[i]? =some x)(hx:Ep X.env.scope x)(r:RelV v u)
  (h:∀s',Inv X zd (σ.set i (some v)) H s'->(∃a,Heap.SameBut a s.heap s'.heap/\(a=X.env.locals\/X.env.cells.lookup x=some a))->Q .unit s') (hf:X.fn x=true\/X.env.scope.names.lookup x=some .local:=by trivial):wpAny M A (storeName X.env x u) Q E s:=by
 obtain⟨m,hn,hl⟩:=id I.loc;have bu:(X.env.scope.kind == .class || (X.env.scope.kind == .module && X.env.locals != X.env.globals))=false:=by rw[I.ok.kind];rfl
 have hiσ:i < σ.length:=by rw[I.len];exact(B6.mp hi).1
 have cne:=I.cne;have tracked:∀{a:Addr} {h':Heap},(∃o,s.heap.get? a=some o/\H a=none)->Heap.SameBut a s.heap h'->HOk X.prog X.w H h':=λ{a h'} ha hs b ob e=>by
  obtain⟨_,_,aq⟩:=ha;refine(I.hok b ob e).stay (λc w' hc q=>(hs.2 c ?_).trans q) (λ_ q=>q) λ_ _ q=>q
  rintro rfl
  rcases hc with rfl|hc
  ·rw[aq]at e;cases e
  ·rw[aq]at hc;cases hc
 rcases hx with hk|hk
 ·refine wpAny_storeName_local hk hn (λh' hn' hs=> ?_) bu;obtain⟨oL,_,_,hoL,_⟩:=id hn;refine h _ ⟨I.ok,I.os,I.bare,⟨λb o e n hb hx=> ?_,λb o e n hb hx=> ?_,I.base.free,λb o e hx=> ?_,I.base.tups,I.base.frzs,I.base.tbls⟩,⟨_,hn',λj y v' e1 e2 e3=> ?_⟩,λy c e=> ?_,I.free,I.freeC,λp hp=> ?_,tracked ⟨oL,hoL,I.free⟩ hs,by simpa using I.len⟩ ⟨_,hs,.inl rfl⟩
  ·exact(hs.2 b (C9 (C4 (A5 e) I.ok.above))).trans (I.base.keep b o e n hb hx)
  ·obtain⟨sl,e1⟩:=I.base.slot b o e n hb hx;exact⟨sl,(hs.2 b (C9 (C4 (A5 e) I.ok.above))).trans e1⟩
  ·obtain⟨o',e1⟩:=I.base.there b o e hx;exact⟨o',(hs.2 b (C9 (C4 (A5 e) I.ok.above))).trans e1⟩
  ·by_cases hj:j=i
   ·subst hj;rw[hi]at e1;cases e1;rw[F4 hiσ]at e2;cases e2;exact⟨u,r,.inl ⟨hk,by simp⟩⟩
   ·rw[C1 (Ne.symm hj)]at e2;obtain⟨u',r',q⟩:=hl j y v' e1 e2 e3;refine⟨u',r', ?_⟩;rcases q with⟨k,e⟩|⟨k,c,e,z⟩
    ·refine .inl ⟨k, ?_⟩;have:y≠x:=λe=>hj (ar_8 hN e1 (e▸hi));simp[this,e]
    ·exact .inr ⟨k,c,e,z.sameBut hs (cne y c e)⟩
  ·obtain⟨w',z⟩:=I.cell y c e;exact⟨w',z.sameBut hs (cne y c e)⟩
  ·obtain⟨e,n,ne,nf,d⟩:=I.pin p hp;exact⟨(hs.2 p.1 ne).trans e,n,ne,nf,d⟩
 ·have hfn:X.fn x=true:=by
   rcases hf with z|z
   ·exact z
   ·rw[z]at hk;cases hk
  obtain⟨c,hc⟩:=I.ok.has x (.inl hk);obtain⟨w',z⟩:=I.cell x c hc;refine wpAny_storeName_cell I.ok.kind hk hc z (λh' hc' hs=> ?_);obtain⟨oc,hoc,dz⟩:=id z;refine h {s with heap:=h'} ⟨I.ok,I.os,I.bare,⟨λb o e n hb hx=> ?_,λb o e n hb hx=> ?_,I.base.free,λb o e hx=> ?_,I.base.tups,I.base.frzs,I.base.tbls⟩,⟨m,hn.sameBut hs (Ne.symm (cne x c hc)),λj y v' e1 e2 e3=> ?_⟩,λy c' e=> ?_,I.free,I.freeC,λp hp=> ?_,tracked ⟨oc,hoc,I.freeC x c hc⟩ hs,by simpa using I.len⟩ ⟨c,hs,.inr hc⟩
  ·exact(hs.2 b (C9 (C4 (A5 e) (I.ok.cab x c hfn hc)))).trans (I.base.keep b o e n hb hx)
  ·obtain⟨sl,e1⟩:=I.base.slot b o e n hb hx;exact⟨sl,(hs.2 b (C9 (C4 (A5 e) (I.ok.cab x c hfn hc)))).trans e1⟩
  ·obtain⟨o',e1⟩:=I.base.there b o e hx;exact⟨o',(hs.2 b (C9 (C4 (A5 e) (I.ok.cab x c hfn hc)))).trans e1⟩
  ·by_cases hj:j=i
   ·subst hj;rw[hi]at e1;cases e1;rw[F4 hiσ]at e2;cases e2;exact⟨u,r,.inr ⟨.inl hk,c,hc,hc'⟩⟩
   ·rw[C1 (Ne.symm hj)]at e2;obtain⟨u',r',q⟩:=hl j y v' e1 e2 e3;refine⟨u',r', ?_⟩;rcases q with q|⟨k,c',e,z'⟩
    ·exact .inl q
    ·refine .inr ⟨k,c',e,z'.sameBut hs ?_⟩
     rintro rfl
     exact hj (ar_8 hN e1 (I.ok.inj _ _ _ e hc▸hi))
  ·by_cases hcc:c'=c
   ·subst hcc;exact⟨_,hc'⟩
   ·obtain⟨w2,z2⟩:=I.cell y c' e;exact⟨w2,z2.sameBut hs hcc⟩
  ·obtain⟨e,n,ne,nf,d⟩:=I.pin p hp;refine⟨(hs.2 p.1 ?_).trans e,n,ne,nf,d⟩;intro q;rw[q,hoc]at e;have q':oc=p.2:=J7 e;exact d w' (by rw[<-q'];exact dz)
def ar_9{M:Model}{A:Around}{E:AA}{i:Nat}{x:Str}{v:V}{u:Value}{Q:Unit->Shared->Prop}(I:Inv X zd σ H s)(hN:X.N.Nodup)(hi:X.N[i]? =some x)(hx:Ep X.env.scope x)(r:RelV v u)
  (h:∀s',Inv X zd (σ.set i (some v)) H s'->Q .unit s') (hf:X.fn x=true\/X.env.scope.names.lookup x=some .local:=by trivial):wpAny M A (storeName X.env x u) Q E s:=
 ba_0 I hN hi hx r (λs' I' _=>h s' I') hf
def Inv.call'{s':Shared}{ch:List Addr}(I:Inv X zd σ H s)(ho:s'.os=s.os)(u:Un (frs X.stack) ch H H' s.heap s'.heap)(hok:HOk X.prog X.w H' s'.heap)(hg:AllBare s'.gens)
  (hch:∀b∈ch,(b∈X.ex\/X.s₀.heap.objs.size<=b)/\b≠X.env.locals/\(∀x c,X.env.cells.lookup x=some c->c≠b)/\∀p∈X.pn ++ zd,p.1≠b):Inv X zd σ H' s':=by
 obtain⟨h',g',d',t',o'⟩:=s';have e:o'=s.os:=ho;subst e;exact I.call (g':=g') (t':=t') (d':=d') u hok hg hch
end
abbrev XK:=Value->Option Addr->Hp->Prop
abbrev St:=List (Option V)
abbrev VK:=V->Hp->Prop
abbrev TE:=St->Hp->VK->Prop
abbrev TT:=St->Hp->(Bool->Hp->Prop)->Prop
abbrev TA:=St->Hp->(List V->Hp->Prop)->Prop
structure Ends where
 nx:St->Hp->Prop
 rt:VK
 bk:St->Hp->Prop:=λ_ _=>False
 ct:St->Hp->Prop:=λ_ _=>False
abbrev TS:=Ends->St->Hp->Prop
def EP(X:Cx)(zd:AE)(σ:St)(Q:VK)(u:Value)(s':Shared):Prop:=∃v H',Inv X zd σ H' s'/\RelV v u/\Q v H'
def TP(X:Cx)(zd:AE)(σ:St)(Q:Bool->Hp->Prop)(b:Bool)(s':Shared):Prop:=∃H',Inv X zd σ H' s'/\Q b H'
def AP(X:Cx)(zd:AE)(σ:St)(Q:List V->Hp->Prop)(us:List Value)(s':Shared):Prop:=∃vs H',Inv X zd σ H' s'/\Vals vs us/\Q vs H'
def SP(X:Cx)(zd:AE)(D:Ends)(f:Flow)(s':Shared):Prop:=
 match f with
 | .next=>∃σ' H',Inv X zd σ' H' s'/\D.nx σ' H'
 | .brk=>∃σ' H',Inv X zd σ' H' s'/\D.bk σ' H'
 | .cont=>∃σ' H',Inv X zd σ' H' s'/\D.ct σ' H'
 | .ret u=>∃v σ' H',Inv X zd σ' H' s'/\RelV v u/\D.rt v H'
def PE(X:Cx)(e:Expr)(t:TE):Prop:=
 ∀(zd:AE) (s:Shared) (σ:St) (H:Hp) (Q:VK),Inv X zd σ H s->t σ H Q->wpAny (model X.prog X.w) X.A (eval e X.env) (EP X zd σ Q) X.xe s
def PT(X:Cx)(e:Expr)(t:TT):Prop:=
 ∀(zd:AE) (s:Shared) (σ:St) (H:Hp) (Q:Bool->Hp->Prop),Inv X zd σ H s->t σ H Q->wpAny (model X.prog X.w) X.A (isTrue e X.env (eval e X.env)) (TP X zd σ Q) X.xe s
def PW(X:Cx)(e:Expr)(t:TT):Prop:=
 ∀(whole:Sem Value) (zd:AE) (s:Shared) (σ:St) (H:Hp) (Q:Bool->Hp->Prop),Inv X zd σ H s->t σ H Q->wpAny (model X.prog X.w) X.A (isTrue e X.env whole) (TP X zd σ Q) X.xe s
def PW.pt{X:Cx}{e:Expr}{t:TT}(h:PW X e t):PT X e t:=h _
def PA(X:Cx)(es:List Expr)(t:TA):Prop:=
 ∀(pos:Pos) (zd:AE) (s:Shared) (σ:St) (H:Hp) (Q:List V->Hp->Prop),Inv X zd σ H s->t σ H Q->wpAny (model X.prog X.w) X.A (spliced (backTo pos (starEach es X.env))) (AP X zd σ Q) X.xe s
def PS(X:Cx)(st:Stmt)(t:TS):Prop:=
 ∀(zd:AE) (s:Shared) (σ:St) (H:Hp) (D:Ends),Inv X zd σ H s->t D σ H->wpAny (model X.prog X.w) X.A (exec st X.env) (SP X zd D) X.xe s
def PSs(X:Cx)(st:List Stmt)(t:TS):Prop:=
 ∀(zd:AE) (s:Shared) (σ:St) (H:Hp) (D:Ends),Inv X zd σ H s->t D σ H->wpAny (model X.prog X.w) X.A (execs st X.env) (SP X zd D) X.xe s
def Ay{α:Type}{t:Sem α}{Q Q':α->Shared->Prop}{M:Model}{A:Around}{E:AA}{s:Shared}(h:wpAny M A t Q E s)(hQ:∀a s,Q a s->Q' a s):wpAny M A t Q' E s:=E4 h hQ λ_ _ x=>x
section
variable{X:Cx}
def tVar(i:Nat):TE:=λ σ H Q=>∃v,σ[i]? =some (some v)/\Q v H
def tC(v:V):TE:=λ_ H Q=>Q v H
def Fh{i:Nat}{x:Str}{pos:Pos}(hN:X.N[i]? =some x)(hv:Fg X.env.scope x)(hd:AG x:=by decide)(hcd:(x ==("__classdict__" :Str))=false:=by decide):PE X (.Name x pos) (tVar i):=by
 intro zd s σ H Q I h;obtain⟨v,e,h⟩:=h;obtain⟨m,hn,hl⟩:=I.loc;obtain⟨u,r,l⟩:=hl i x v hN e hv;have fin:EP X zd σ Q u s:=⟨v,H,I,r,h⟩;rcases l with⟨hk,hm⟩|⟨hk,c,hc,hcell⟩
 ·exact wpAny_Name (wpAny_loadName_local I.ok.kind hk hn hm fin) hd
 ·rcases hk with hk|hk
  ·exact wpAny_Name (wpAny_loadName_cell I.ok.kind hk hc hcell fin) hd
  ·exact wpAny_Name (wpAny_loadName_free I.ok.kind hk hc hcell fin hcd) hd
def dk_0{i j pos}:PE X (.Constant (.int i) j pos) (tC (.int i)):=λ_ _ _ H _ I h=>wpAny_Constant_int ⟨.int i,H,I.tok _,⟨_,rfl⟩,h⟩
def dr_8{b j pos}:PE X (.Constant (.bool b) j pos) (tC (.bl b)):=λ_ _ _ H _ I h=>Constant_bool ⟨.bl b,H,I,rfl,h⟩
def dk_1{j pos}:PE X (.Constant .none j pos) (tC .non):=λ_ _ _ H _ I h=>Constant_none ⟨.non,H,I,rfl,h⟩
def dk_2{x j pos}:PE X (.Constant (.str x) j pos) (tC (.str x)):=λ_ _ _ H _ I h=>Calls.Constant_str ⟨.str x,H,I.tok _,⟨_,rfl⟩,h⟩
def Gl(X:Cx)(x:Str):Prop:=X.env.kindOf x=some .globalImplicit
def r_9{E:AA}{zd:AE}{s:Shared}{σ:St}{H:Hp}{x:Str}{u:Value}{pos:Pos}{Q:AA}(I:Inv X zd σ H s)(hg:Gl X x)(hm:X.mg x=some u)(h:Q u s)
  (hd:AG x:=by decide):wpAny (model X.prog X.w) X.A (eval (.Name x pos) X.env) Q E s:=
 X9 I.ok.kind hg (Calls.loadGlobal_global (by rw[I.ok.glob];exact I.mod.glob.keeps I.bk) hm h) hd
def ae_7{E:AA}{zd:AE}{s:Shared}{σ:St}{H:Hp}{x:Str}{u:Value}{pos:Pos}{Q:AA}(I:Inv X zd σ H s)(hg:Gl X x)(hm:X.mg x=none)(hv:bootBuiltins x=some u)(h:Q u s)
  (hn:x≠ "__name__" :=by decide) (hd:AG x:=by decide):wpAny (model X.prog X.w) X.A (eval (.Name x pos) X.env) Q E s:=by
 obtain⟨mb,h1,h2⟩:=I.mod.blt;exact X9 I.ok.kind hg (Calls.loadGlobal_builtin (by rw[I.ok.glob];exact I.mod.glob.keeps I.bk) hm (by rw[I.ok.blt];exact h1.keeps I.bk) ((h2 x hn).trans hv) h) hd
def by_1{x:Str}{v:V}{u:Value}{pos:Pos}(hg:Gl X x)(hm:X.mg x=some u)(r:RelV v u)(hd:AG x:=by decide):PE X (.Name x pos) (tC v):=
 λ_ _ _ H _ I h=>r_9 I hg hm ⟨v,H,I,r,h⟩ hd
def cy_5{x:Str}{v:V}{u:Value}{pos:Pos}(hg:Gl X x)(hm:X.mg x=none)(hv:bootBuiltins x=some u)(r:RelV v u)(hn:x≠ "__name__" :=by decide)(hd:AG x:=by decide):PE X (.Name x pos) (tC v):=
 λ_ _ _ H _ I h=>ae_7 I hg hm hv ⟨v,H,I,r,h⟩ hn hd
variable{a b:Expr}{ta tb:TE}{pos:Pos}
variable{tA tB':TT}{z_7:List Expr}
def tAnd(t u:TT):TT:=λ σ H Q=>t σ H λc H1=>if c=true then u σ H1 Q else Q false H1
def tOr(t u:TT):TT:=λ σ H Q=>t σ H λc H1=>if c=true then Q true H1 else u σ H1 Q
def tNot(t:TT):TT:=λ σ H Q=>t σ H λc H1=>Q (!c) H1
def cy_6(ha:PT X a tA):PW X (.BoolOp .And [a] pos) tA:=by
 intro wh zd s σ H Q I h;refine isTrue_and (Ay (ha zd s σ H Q I h) λc s1 e=> ?_);cases c with
 |true=>exact isTrue_and_nil e
 |false=>exact e
def dk_3(ha:PT X a tA):PW X (.BoolOp .Or [a] pos) tA:=by
 intro wh zd s σ H Q I h;refine isTrue_or (Ay (ha zd s σ H Q I h) λc s1 e=> ?_);cases c with
 |false=>exact isTrue_or_nil e
 |true=>exact e
def dk_4(ha:PT X a tA)(hb:PW X (.BoolOp .And (b::z_7) pos) tB'):PW X (.BoolOp .And (a::b::z_7) pos) (tAnd tA tB'):=by
 intro wh zd s σ H Q I h;refine isTrue_and (Ay (ha zd s σ H _ I h) λc s1 ⟨H1,I1,q1⟩=> ?_);cases c with
 |true=>exact hb wh zd s1 σ H1 Q I1 q1
 |false=>exact⟨H1,I1,q1⟩
def dr_9(ha:PT X a tA)(hb:PW X (.BoolOp .Or (b::z_7) pos) tB'):PW X (.BoolOp .Or (a::b::z_7) pos) (tOr tA tB'):=by
 intro wh zd s σ H Q I h;refine isTrue_or (Ay (ha zd s σ H _ I h) λc s1 ⟨H1,I1,q1⟩=> ?_);cases c with
 |true=>exact⟨H1,I1,q1⟩
 |false=>exact hb wh zd s1 σ H1 Q I1 q1
def cl_2(ha:PT X a tA):PT X (.UnaryOp .Not a pos) (tNot tA):=by
 intro zd s σ H Q I h;exact isTrue_not (ha zd s σ H (λc H1=>Q (!c) H1) I h)
def ds_0(ta tb:TE):TE:=λ σ H Q=>ta σ H λx H1=>∃c,x=.bl c/\if c=true then tb σ H1 Q else Q (.bl false) H1
def ds_1(ta:TE):TE:=λ σ H Q=>ta σ H λx H1=>∃c,x=.bl c/\Q (.bl (!c)) H1
def dk_5{op}{t:TE}(h:PE X a t):PE X (.BoolOp op [a] pos) t:=λzd s σ H Q I hw=>BoolOp_one (h zd s σ H Q I hw)
def dk_6(ha:PE X a ta)(hb:PE X (.BoolOp .And (b::z_7) pos) tb):PE X (.BoolOp .And (a::b::z_7) pos) (ds_0 ta tb):=by
 intro zd s σ H Q I h;refine BoolOp_and (Ay (ha zd s σ H _ I h) λv s1 ⟨x,H1,I1,r1,q1⟩=> ?_);obtain⟨c,rfl,q1⟩:=q1;cases r1;refine Q2 ?_;cases c with
 |true=>exact hb zd s1 σ H1 Q I1 q1
 |false=>exact⟨.bl false,H1,I1,rfl,q1⟩
def dk_7(ha:PE X a ta):PE X (.UnaryOp .Not a pos) (ds_1 ta):=by
 intro zd s σ H Q I h;refine UnaryOp_ (Ay (ha zd s σ H _ I h) λv s1 ⟨x,H1,I1,r1,q1⟩=> ?_);obtain⟨c,rfl,q1⟩:=q1;cases r1;exact not_of (Q2 ⟨.bl (!c),H1,I1,rfl,q1⟩)
def tIf(t:TT)(ta tb:TE):TE:=λ σ H Q=>t σ H λc H1=>if c=true then ta σ H1 Q else tb σ H1 Q
def cl_3{c:Expr}(hc:PT X c tA)(ha:PE X a ta)(hb:PE X b tb):PE X (.IfExp c a b pos) (tIf tA ta tb):=by
 intro zd s σ H Q I h;refine wpAny_IfExp (Ay (hc zd s σ H _ I h) λd s1 ⟨H1,I1,q1⟩=> ?_);cases d with
 |true=>exact ha zd s1 σ H1 Q I1 q1
 |false=>exact hb zd s1 σ H1 Q I1 q1
end
def SqL(K:Frag)(H:Hp)(a:Addr)(xs:List V):Prop:=
 Rd H a (.lst xs)\/
  ∃(o:Obj) (its:Array Value) (n:Nat),K.lookup a=some o/\o.cls=.type "list" /\o.dict=none/\o.data=.seq its n/\its.size<=sizeLine/\Vals xs its.toList
def SqT(K:Frag)(H:Hp)(a:Addr)(xs:List V):Prop:=
 Rd H a (.tup xs)\/
  ∃(o:Obj) (its:Array Value) (n:Nat),K.lookup a=some o/\o.cls=.type "tuple" /\o.data=.seq its n/\its.size<=sizeLine/\Vals xs its.toList
def absV:Value->Option V
 | .none=>some .non
 | .bool b=>some (.bl b)
 | .int i _=>some (.int i)
 | .str x _=>some (.str x)
 | .bytes b _=>some (.byt b)
 | .float b _=>some (.flt b)
 | .ref a=>some (.ref a)
 | .type n=>some (.ty n)
 |_=>none
def RelV.abs{x:V}{u:Value}(r:RelV x u):absV u=some x:=by
 cases x with
 |non=>cases r;rfl
 |bl _=>cases r;rfl
 |int _=>obtain⟨t,rfl⟩:=r;rfl
 |str _=>obtain⟨t,rfl⟩:=r;rfl
 |byt _=>obtain⟨t,rfl⟩:=r;rfl
 |flt _=>obtain⟨t,rfl⟩:=r;rfl
 |ref _=>cases r;rfl
 |ty _=>cases r;rfl
theorem RelV.inj{x y:V}{u:Value}(r:RelV x u)(q:RelV y u):x=y:=J7 (r.abs.symm.trans q.abs)
theorem Vals.inj:∀{xs ys:List V} {us:List Value},Vals xs us->Vals ys us->xs=ys
 |_,_,_,.nil,.nil=>rfl
 |_,_,_,.cons r t,.cons r' t'=>by rw[r.inj r',Vals.inj t t']
section
variable{X:Cx}{zd:AE}{σ:St}{H:Hp}{s:Shared}{a:Addr}{xs ys:List V}
def SqL.of{K:Frag}(h:H a=some (.lst xs)):SqL K H a xs:=.inl (.inl h)
def SqT.of{K:Frag}(h:H a=some (.tup xs)):SqT K H a xs:=.inl (.inl h)
def Inv.list(I:Inv X zd σ H s)(h:SqL X.K H a xs):∃its:List Value,Vals xs its/\PlainL s.heap a its.toArray/\xs.length<=sizeLine:=by
 rcases h with h|⟨o,its,n,hk,hc,hd,hs,hz,r⟩
 ·obtain⟨z,its,n,r,e⟩:=h.ok I.hok;exact⟨its,r,⟨_,n,e,rfl,rfl,rfl⟩,z⟩
 ·refine⟨its.toList,r,⟨o,n,I.kIn a o hk,hc,hd,by simpa using hs⟩, ?_⟩;have e:=r.length;simp only[Q5]at e;omega
def Inv.tuple(I:Inv X zd σ H s)(h:SqT X.K H a xs):∃its:List Value,Vals xs its/\IsTup s.heap a its.toArray/\xs.length<=sizeLine:=by
 rcases h with h|⟨o,its,n,hk,hc,hs,hz,r⟩
 ·obtain⟨z,its,r,p⟩:=h.ok I.hok;exact⟨its,r,p,z⟩
 ·refine⟨its.toList,r,⟨o,I.kIn a o hk,hc,n,by simpa using hs⟩, ?_⟩;have e:=r.length;simp only[Q5]at e;omega
def Inv.list_inj(I:Inv X zd σ H s)(h:SqL X.K H a xs)(h':SqL X.K H a ys):xs=ys:=by
 obtain⟨its,r,⟨o,n,e,_,_,d⟩,_⟩:=I.list h;obtain⟨its',r',⟨o',n',e',_,_,d'⟩,_⟩:=I.list h';rw[e]at e';cases e';rw[d]at d';injection d' with d1 _
 have:its=its':=by simpa using K4 Array.toList d1
 subst this;exact r.inj r'
def Inv.tuple_inj(I:Inv X zd σ H s)(h:SqT X.K H a xs)(h':SqT X.K H a ys):xs=ys:=by
 obtain⟨its,r,⟨o,e,_,n,d⟩,_⟩:=I.tuple h;obtain⟨its',r',⟨o',e',_,n',d'⟩,_⟩:=I.tuple h';rw[e]at e';cases e';rw[d]at d';injection d' with d1 _
 have:its=its':=by simpa using K4 Array.toList d1
 subst this;exact r.inj r'
end
abbrev Cx.wish(X:Cx)(E:AA):Cx:={X with xe:=E}
abbrev Cx.nox(X:Cx):Cx:=X.wish λ_ _=>False
theorem Cx.Ok.wish{X:Cx}(ok:X.Ok)(E:AA):(X.wish E).Ok:=
 ⟨ok.mod,ok.kind,ok.glob,ok.blt,ok.above,ok.inj,ok.has,ok.cab,ok.hd,ok.frames,ok.stk,ok.exf,ok.bs,ok.bsz,ok.noex,ok.exfs,ok.funs,ok.frf⟩
def Cx.Ok.unwish{X:Cx}{E:AA}(ok:(X.wish E).Ok):X.Ok:=
 ⟨ok.mod,ok.kind,ok.glob,ok.blt,ok.above,ok.inj,ok.has,ok.cab,ok.hd,ok.frames,ok.stk,ok.exf,ok.bs,ok.bsz,ok.noex,ok.exfs,ok.funs,ok.frf⟩
section
variable{X:Cx}{zd:AE}{σ:St}{H:Hp}{s:Shared}{E:AA}
theorem Inv.wish(I:Inv X zd σ H s)(E:AA):Inv (X.wish E) zd σ H s:=⟨I.ok.wish E,I.os,I.bare,I.base,I.loc,I.cell,I.free,I.freeC,I.pin,I.hok,I.len⟩
theorem Inv.unwish(I:Inv (X.wish E) zd σ H s):Inv X zd σ H s:=⟨I.ok.unwish,I.os,I.bare,I.base,I.loc,I.cell,I.free,I.freeC,I.pin,I.hok,I.len⟩
theorem SP.unwish{D:Ends}{f:Flow}{s':Shared}(h:SP (X.wish E) zd D f s'):SP X zd D f s':=by
 cases f with
 |next=>obtain⟨σ',H',I,q⟩:=h;exact⟨σ',H',I.unwish,q⟩
 |brk=>obtain⟨σ',H',I,q⟩:=h;exact⟨σ',H',I.unwish,q⟩
 |cont=>obtain⟨σ',H',I,q⟩:=h;exact⟨σ',H',I.unwish,q⟩
 |ret u=>obtain⟨v,σ',H',I,r,q⟩:=h;exact⟨v,σ',H',I.unwish,r,q⟩
theorem PE.nox{e:Expr}{t:TE}(h:PE X.nox e t):PE X e t:=λzd s σ H Q I hw=>
 E4 (h zd s σ H Q (I.wish _) hw) (λ_ _ ⟨v,H',I',r,q⟩=>⟨v,H',I'.unwish,r,q⟩) λ_ _ z=>False.elim z
end
section
variable{X:Cx}{st:Stmt}{z_7:List Stmt}{t u:TS}{e:Expr}{te:TE}{pos:Pos}
def ds_2:TS:=λD σ H=>D.nx σ H
def tSeq(t u:TS):TS:=λD σ H=>t {D with nx:=u D} σ H
def cy_7:PSs X [] ds_2:=λ_ _ σ H _ I h=>T7 ⟨σ,H,I,h⟩
def cl_4(h1:PS X st t)(h2:PSs X z_7 u):PSs X (st::z_7) (tSeq t u):=by
 intro zd s σ H D I h;refine wpAny_execs_cons (Ay (h1 zd s σ H {D with nx:=u D} I h) λf s1 q=> ?_);cases f with
 |next=>
  obtain⟨σ',H',I',q⟩:=q;exact h2 zd s1 σ' H' D I' q
 |ret v=>exact q
 |brk=>exact q
 |cont=>exact q
def be_6(h1:PS X st t):PSs X [st] t:=by
 intro zd s σ H D I h;refine wpAny_execs_cons (Ay (h1 zd s σ H D I h) λf s1 q=> ?_);cases f with
 |next=>exact T7 q
 |ret v=>exact q
 |brk=>exact q
 |cont=>exact q
def Inv.quiet{zd:AE}{σ:St}{H:Hp}{s:Shared}(I:Inv X zd σ H s):interactive X.env=false:=by simp[interactive,I.ok.kind]
def ds_3(te:TE):TS:=λD σ H=>te σ H λ_ H1=>D.nx σ H1
def ac_1(he:PE X e te)(hs:swapsWith e none pos.line X.env=pure false:=by rfl):PS X (.Expr e pos) (ds_3 te):=by
 intro zd s σ H D I h;exact wpAny_Expr_any (Ay (he zd s σ H _ I h) λv s1 ⟨x,H1,I1,r1,q1⟩=>⟨σ,H1,I1,q1⟩) I.quiet hs
def tRet(te:TE):TS:=λD σ H=>te σ H D.rt
def bs_5(he:PE X e te):PS X (.Return (some e) pos) (tRet te):=by
 intro zd s σ H D I h;exact wpAny_Return_some (Ay (he zd s σ H _ I h) λv s1 ⟨x,H1,I1,r1,q1⟩=>⟨x,σ,H1,I1,r1,q1⟩)
def tIfS(c:TT)(t u:TS):TS:=λD σ H=>c σ H λb H1=>if b=true then t D σ H1 else u D σ H1
def dh_8{c:Expr}{a b:List Stmt}{tc:TT}(hc:PT X c tc)(ha:PSs X a t)(hb:PSs X b u):PS X (.If c a b pos) (tIfS tc t u):=by
 intro zd s σ H D I h;refine wpAny_If (Ay (hc zd s σ H _ I h) λd s1 ⟨H1,I1,q1⟩=> ?_);cases d with
 |true=>exact ha zd s1 σ H1 D I1 q1
 |false=>exact hb zd s1 σ H1 D I1 q1
end
abbrev TG:=V->St->Hp->(St->Hp->Prop)->Prop
abbrev TGs:=List V->St->Hp->(St->Hp->Prop)->Prop
def PG(X:Cx)(target:Expr)(t:TG):Prop:=
 ∀(zd:AE) (s:Shared) (σ:St) (H:Hp) (v:V) (u:Value) (Q:St->Hp->Prop),Inv X zd σ H s->RelV v u->t v σ H Q->
  wpAny (model X.prog X.w) X.A (assign target X.env u) (λ_ s'=>∃σ' H',Inv X zd σ' H' s'/\Q σ' H') X.xe s
def PGs(X:Cx)(ts:List Expr)(t:TGs):Prop:=
 ∀(zd:AE) (s:Shared) (σ:St) (H:Hp) (vs:List V) (us:List Value) (Q:St->Hp->Prop),Inv X zd σ H s->Vals vs us->t vs σ H Q->
  wpAny (model X.prog X.w) X.A (assignInOrder ((assignEach ts X.env).map (·.2)) us) (λ_ s'=>∃σ' H',Inv X zd σ' H' s'/\Q σ' H') X.xe s
section
variable{X:Cx}{pos:Pos}
def ba_1(i:Nat):TG:=λv σ H Q=>Q (σ.set i (some v)) H
def m_2{i:Nat}{x:Str}(hN:X.N.Nodup)(hi:X.N[i]? =some x)(hx:Ep X.env.scope x)(hf:X.fn x=true\/X.env.scope.names.lookup x=some .local:=by trivial):PG X (.Name x pos) (ba_1 i):=by
 intro zd s σ H v u Q I r h;exact wpAny_assign_Name (ar_9 I hN hi hx r (λs' I'=>⟨_,H,I',h⟩) hf)
def gNil:TGs:=λvs σ H Q=>vs= []/\Q σ H
def ds_4(t:TG)(u:TGs):TGs:=λvs σ H Q=>∃v r,vs=v::r/\t v σ H λ σ' H'=>u r σ' H' Q
def ag_1:PGs X [] gNil:=by
 intro zd s σ H vs us Q I r h;obtain⟨e,h⟩:=h;subst e;cases r;exact assignInOrder_nil ⟨σ,H,I,h⟩
def l_8{e:Expr}{es:List Expr}{t:TG}{u:TGs}(h1:PG X e t)(h2:PGs X es u)
  (hs:(assignEach (e::es) X.env).map (·.2)=assign e X.env::(assignEach es X.env).map (·.2):=by rfl):PGs X (e::es) (ds_4 t u):=by
 intro zd s σ H vs us Q I r h;obtain⟨v,vr,e1,h⟩:=h;subst e1;cases r with
 |cons r rr=>
  rw[hs];refine assignInOrder_cons (Ay (h1 zd s σ H _ _ _ I r h) λ_ s1 ⟨σ1,H1,I1,q1⟩=> ?_);exact h2 zd s1 σ1 H1 _ _ Q I1 rr q1
def gTup(K:Frag)(n:Nat)(t:TGs):TG:=λv σ H Q=>∃a xs,v=.ref a/\SqT K H a xs/\xs.length=n/\t xs σ H Q
def bs_6{es:List Expr}{k:Nat}{t:TGs}{n:Nat}(hc:X.calm=true)(h:PGs X es t)
  (hn:(assignEach es X.env).length=n:=by rfl) (hst:(assignEach es X.env).findIdx? (·.1)=none:=by rfl):PG X (.Tuple es k pos) (gTup X.K n t):=by
 intro zd s σ H v u Q I r hw;obtain⟨a,xs,e1,hq,hl,hw⟩:=hw;subst e1;cases r;obtain⟨its,rv,ht,hz⟩:=I.tuple hq;refine assign_Tuple_tuple (I.ok.hd hc) ht (by simp[hn,<-hl,rv.length]) hst λh' hx=> ?_;have I1:Inv X zd σ H {s with heap:=h'}:=I.kept (t':=s.toks) λb o e=>hx b o (C9 (A5 e)) e;exact h zd _ σ H xs _ Q I1 (by simpa using rv) hw
def tAsg(te:TE)(g:TG):TS:=λD σ H=>te σ H λx H1=>g x σ H1 D.nx
def cl_5{tg e:Expr}{te:TE}{g:TG}(he:PE X e te)(hg:PG X tg g)(hs:swapsWithSole [tg] e pos.line X.env=pure false:=by rfl)(hw:swappedStores [tg] e X.env=pure none:=by rfl)
  (h1:(assignEach [tg] X.env).map (·.2)= [assign tg X.env]:=by rfl):PS X (.Assign [tg] e pos) (tAsg te g):=by
 intro zd s σ H D I h;refine wpAny_Assign_stores (Ay (he zd s σ H _ I h) λv s1 ⟨x,H1,I1,r1,q1⟩=> ?_) hs hw;rw[h1];exact Ay (hg zd s1 σ H1 x v _ I1 r1 q1) λ_ s2 q=>q
def be_7{i:Nat}{x:Str}{e:Expr}{te:TE}{pos':Pos}(hN:X.N.Nodup)(hi:X.N[i]? =some x)(hx:Ep X.env.scope x)(he:PE X e te)(hs:swapsWith e (some (.Name x pos')) pos.line X.env=pure false:=by rfl)(hf:X.fn x=true\/X.env.scope.names.lookup x=some .local:=by trivial):
  PS X (.Assign [.Name x pos'] e pos) (tAsg te (ba_1 i)):=by
 intro zd s σ H D I h;refine wpAny_Assign_Name (Ay (he zd s σ H _ I h) λv s1 ⟨y,H1,I1,r1,q1⟩=> ?_) hs;exact ar_9 I1 hN hi hx r1 (λs2 I2=>⟨_,H1,I2,q1⟩) hf
end
section
variable{X:Cx}{pos:Pos}
def dk_8(c:TT)(tb:TS):TS:=λD σ H=>∃W:Nat->St->Hp->Prop,(∃m,W m σ H)/\∀m σ H,W m σ H->
 c σ H λb H1=>if b=true then∃N:St->Hp->Prop,(∀σ' H',N σ' H'->∃m',m' < m/\W m' σ' H')/\tb {D with nx:=N,ct:=N,bk:=D.nx} σ H1 else D.nx σ H1
def cl_6{c:Expr}{body:List Stmt}{tc:TT}{tb:TS}(hp:PassesOwn (model X.prog X.w) X.A X.env X.xe)(hc:PT X c tc)(hb:PSs X body tb):PS X (.While c body [] pos) (dk_8 tc tb):=by
 intro zd s σ H D I h;obtain⟨W,⟨m0,w0⟩,turn⟩:=h;refine wpAny_While (codeAny_whileLoop (λn s'=>∃σ' H',Inv X zd σ' H' s'/\W n σ' H') ?_ m0 ⟨σ,H,I,w0⟩)
 rintro n s1 ⟨σ1,H1,I1,w1⟩
 refine P5 hp (Ay (hc zd s1 σ1 H1 _ I1 (turn n σ1 H1 w1)) λb s2 ⟨H2,I2,q2⟩=> ?_);cases b with
 |true=>
  obtain⟨N,hN,q2⟩:=q2;rw[if_pos rfl];refine P5 hp (Ay (hb zd s2 σ1 H2 _ I2 q2) λf s3 q3=> ?_);cases f with
  |next=>
   obtain⟨σ3,H3,I3,n3⟩:=q3;obtain⟨m',hm,w3⟩:=hN σ3 H3 n3;exact⟨m',hm,σ3,H3,I3,w3⟩
  |cont=>
   obtain⟨σ3,H3,I3,n3⟩:=q3;obtain⟨m',hm,w3⟩:=hN σ3 H3 n3;exact⟨m',hm,σ3,H3,I3,w3⟩
  |brk=>exact q3
  |ret v=>exact q3
 |false=>
  rw[if_neg A6];exact T7 ⟨σ1,H2,I2,q2⟩
end
structure It where
 go:Nat->Hp->Prop
 yld:Nat->Hp->V->Hp->Prop
 stop:Nat->Hp->Prop
def Fc(X:Cx)(zd:AE)(H:Hp)(b:Addr):Prop:=
 H b=none/\b≠X.env.locals/\b∉X.fs/\(b∈X.ex\/X.s₀.heap.objs.size<=b)/\(∀x c,X.env.cells.lookup x=some c->c≠b)/\∀p∈X.pn ++ zd,p.1≠b
def Inv.fpOk{X:Cx}{zd:AE}{σ:St}{H H':Hp}{s:Shared}{b:Addr}(I:Inv X zd σ H s)(hb:s.heap.objs.size<=b)(hn:H' b=none):Fc X zd H' b:=by
 refine⟨hn,X6 (C4 I.lt hb),I.nofs hb,.inr (C5 I.sz hb),λx c e z=> ?_,λp hp z=> ?_⟩
 ·obtain⟨v,q⟩:=I.cell x c e;exact absurd (C4 q.lt (by rw[z];exact hb)) (D7 _)
 ·exact absurd (C4 (A5 (I.pin p hp).1) (by rw[z];exact hb)) (D7 _)
structure Turn(P:Program)(w:World)(K:Frag)(tg:Expr)(J:It)(fp:List Addr)(it:Addr)(tn:Nat->Heap->Prop):Prop where
 mem:it∈fp
 obj:∀i h,tn i h->∀b∈fp,∃o,h.get? b=some o/\∀v,o.data≠ .cell v
 keep:∀i h h',tn i h->(∀b∈fp,∀o,h.get? b=some o->h'.get? b=some o)->tn i h'
 item:∀(X:Cx),X.prog=P->X.w=w->X.K=K->X.calm=true->∀(i:Nat) (zd:AE) (s:Shared) (σ:St) (H:Hp) (E:AA),Inv X zd σ H s->(∀b∈fp,Fc X zd H b)->tn i s.heap->J.go i H->
  wpAny (model P w) X.A (pyNext (.ref it)) (λr s1=>∃u,r=some u/\
   wpAny (model P w) X.A (letOwnedTupleGo tg (.ref it) u) (λ_ s2=>∃x H',Inv X zd σ H' s2/\RelV x u/\J.yld i H x H'/\tn (i + 1) s2.heap/\∀b∈fp,H' b=none) E s1) E s
 done:∀(X:Cx),X.prog=P->X.w=w->X.K=K->X.calm=true->∀(i:Nat) (zd:AE) (s:Shared) (σ:St) (H:Hp) (E:AA),Inv X zd σ H s->(∀b∈fp,Fc X zd H b)->tn i s.heap->J.stop i H->
  wpAny (model P w) X.A (pyNext (.ref it)) (λr s1=>r=none/\Inv X zd σ H s1) E s
 self:∀(A:Around) (i:Nat) (s:Shared) (Q:AA) (E:AA),tn i s.heap->Q (.ref it) s->wpAny (model P w) A (pyIter (.ref it)) Q E s
abbrev TI:=St->Hp->(It->Hp->Prop)->Prop
def PIE(X:Cx)(zd:AE)(σ:St)(tg:Expr)(R:It->Hp->Prop)(itv:Value)(s2:Shared):Prop:=
 ∃(it:Addr) (fp:List Addr) (tn:Nat->Heap->Prop) (J:It) (H':Hp),itv=.ref it/\Inv X zd σ H' s2/\Turn X.prog X.w X.K tg J fp it tn/\tn 0 s2.heap/\(∀b∈fp,Fc X zd H' b)/\R J H'
def PI(X:Cx)(tg iter:Expr)(wi:TI):Prop:=
 ∀(zd:AE) (s:Shared) (σ:St) (H:Hp) (R:It->Hp->Prop),Inv X zd σ H s->wi σ H R->
  wpAny (model X.prog X.w) X.A (eval iter X.env) (λv s1=>wpAny (model X.prog X.w) X.A (pyIter v) (PIE X zd σ tg R) X.xe s1) X.xe s
def bk_2{M:Model}{A:Around}{E:AA}{s:Shared}{tg:Expr}{it:Addr}{u:Value}{o:Obj}{n:String}{vs:Array Value}{Q:Unit->Shared->Prop}(ho:s.heap.get? it=some o)(hc:o.cls=.type n)(hd:o.data=.fields vs)
  (hn: ["enumerate","zip","dict_itemiterator","dict_reverseitemiterator","odict_iterator","itertools.zip_longest","itertools.pairwise"].contains n=false) (hQ:Q .unit s):wpAny M A (letOwnedTupleGo tg (.ref it) u) Q E s:=by
 unfold letOwnedTupleGo;cases tg <;> first
  |exact E7 hQ
  | (cases u <;> first
    |exact E7 hQ
    | (refine A7 (wpAny_load ho ?_)
       rw[hc,hd];show wpAny M A (if(["enumerate","zip","dict_itemiterator","dict_reverseitemiterator","odict_iterator","itertools.zip_longest","itertools.pairwise"].contains n && vs[0]? ==some (rawInt _))=true then _ else _) Q E s;rw[if_neg (by intro h;rw[hn,ZB9]at h;cases h)];exact E7 hQ))
def Itl(K:Frag)(a:Addr):It:=
 ⟨λi H=>∃xs x,SqL K H a xs/\xs[i]? =some x,λi H x H'=>H'=H/\∀xs,SqL K H a xs->xs[i]? =some x,λi H=>∃xs,SqL K H a xs/\xs.length<=i⟩
def Itt(K:Frag)(a:Addr):It:=
 ⟨λi H=>∃xs x,SqT K H a xs/\xs[i]? =some x,λi H x H'=>H'=H/\∀xs,SqT K H a xs->xs[i]? =some x,λi H=>∃xs,SqT K H a xs/\xs.length<=i⟩
def Itr(lo:Int)(n:Nat):It:=⟨λi _=>i < n,λi H x H'=>H'=H/\x=.int (lo + i),λi _=>n<=i⟩
def ce_9{P:Program}{w:World}{K:Frag}{tg:Expr}(a it:Addr):Turn P w K tg (Itl K a) [it] it (λi h=>h.IsListIter it a i) where
 mem:=by simp
 obj:=λi h st b hb=>by
  have e:b=it:=by simpa using hb
  subst e;obtain⟨o,e,c,d⟩:=st;exact⟨o,e,λv z=>by rw[d]at z;cases z⟩
 keep:=λi h h' st k=>st.at λo e=>k it (by simp) o e
 item:=by
  intro X hP hw hK hc i zd s σ H E I hf st hg;subst hP hw hK;obtain⟨xs,x,hq,hx⟩:=hg;obtain⟨its,rv,p,hz⟩:=I.list hq;obtain⟨u,hu,ru⟩:=rv.get hx;obtain⟨f0,f1,f2,f3,f4,f5⟩:=hf it (by simp);refine wpAny_pyNext_list_item st p.isList (x:=u) (by simpa using hu) λh' st' sb=> ?_;have I1:Inv X zd σ H {s with heap:=h'}:=I.turned (t':=s.toks) (λb o hb e=>(sb.2 b hb).trans e) f0 f1 f3 f4 f5;obtain⟨o,e,c,d⟩:=id st';exact⟨u,rfl,bk_2 (s:={s with heap:=h'}) e c d ⋯ ⟨x,H,I1,ru,⟨rfl,λys hy=>by rw[I.list_inj hy hq];exact hx⟩,st',λb hb=>(hf b hb).1⟩⟩
 done:=by
  intro X hP hw hK hc i zd s σ H E I hf st hg;subst hP hw hK;obtain⟨xs,hq,hx⟩:=hg;obtain⟨its,rv,p,hz⟩:=I.list hq;obtain⟨f0,f1,f2,f3,f4,f5⟩:=hf it (by simp);have hl:=rv.length;exact wpAny_pyNext_list_end (I.ok.hd hc) st p.isList (by simp;omega) λh' eb=>⟨rfl,I.turned (t':=s.toks) (λb o hb e=>eb b o hb e) f0 f1 f3 f4 f5⟩
 self:=λ_ _ _ _ _ st h=>wpAny_pyIter_listiter st h
def bs_7{P:Program}{w:World}{K:Frag}{tg:Expr}(a it:Addr):Turn P w K tg (Itt K a) [it] it (λi h=>h.IsTupleIter it a i) where
 mem:=by simp
 obj:=λi h st b hb=>by
  have e:b=it:=by simpa using hb
  subst e;obtain⟨o,e,c,d⟩:=st;exact⟨o,e,λv z=>by rw[d]at z;cases z⟩
 keep:=λi h h' st k=>st.at λo e=>k it (by simp) o e
 item:=by
  intro X hP hw hK hc i zd s σ H E I hf st hg;subst hP hw hK;obtain⟨xs,x,hq,hx⟩:=hg;obtain⟨its,rv,p,hz⟩:=I.tuple hq;obtain⟨u,hu,ru⟩:=rv.get hx;obtain⟨f0,f1,f2,f3,f4,f5⟩:=hf it (by simp);refine wpAny_pyNext_tuple_item st (show s.heap.IsTuple a its.toArray from p) (x:=u) (by simpa using hu) λh' st' sb=> ?_;have I1:Inv X zd σ H {s with heap:=h'}:=I.turned (t':=s.toks) (λb o hb e=>(sb.2 b hb).trans e) f0 f1 f3 f4 f5;obtain⟨o,e,c,d⟩:=id st';exact⟨u,rfl,bk_2 (s:={s with heap:=h'}) e c d ⋯ ⟨x,H,I1,ru,⟨rfl,λys hy=>by rw[I.tuple_inj hy hq];exact hx⟩,st',λb hb=>(hf b hb).1⟩⟩
 done:=by
  intro X hP hw hK hc i zd s σ H E I hf st hg;subst hP hw hK;obtain⟨xs,hq,hx⟩:=hg;obtain⟨its,rv,p,hz⟩:=I.tuple hq;obtain⟨f0,f1,f2,f3,f4,f5⟩:=hf it (by simp);have hl:=rv.length;exact wpAny_pyNext_tuple_end (I.ok.hd hc) st (show s.heap.IsTuple a its.toArray from p) (by simp;omega) λh' eb=>⟨rfl,I.turned (t':=s.toks) (λb o hb e=>eb b o hb e) f0 f1 f3 f4 f5⟩
 self:=λ_ _ _ _ _ st h=>wpAny_pyIter_tupleiter st h
def bs_8{P:Program}{w:World}{K:Frag}{tg:Expr}(it:Addr)(lo:Int)(n:Nat):Turn P w K tg (Itr lo n) [it] it (λi h=>IsRangeIter h it (lo + (i:Nat) * 1) ((n:Int) - (i:Nat)) 1) where
 mem:=by simp
 obj:=λi h st b hb=>by
  have e:b=it:=by simpa using hb
  subst e;exact⟨_,st,λv z=>by
   have z':Data.fields _=Data.cell v:=z;cases z'⟩
 keep:=λi h h' st k=>k it (by simp) _ st
 item:=by
  intro X hP hw hK hc i zd s σ H E I hf st hg;subst hP hw hK;obtain⟨f0,f1,f2,f3,f4,f5⟩:=hf it (by simp);have W:=Walks.range (prog:=X.prog) (w:=X.w) (I.ok.hd hc) it lo 1 n;refine W.item i s _ _ hg st λv h' tk hv st' kk=> ?_;obtain⟨t,rfl⟩:=hv;have I1:Inv X zd σ H {s with heap:=h',toks:=tk}:=I.turned (λb o hb e=>kk b o (by simpa using hb) e) f0 f1 f3 f4 f5;refine⟨_,rfl,bk_2 (s:={s with heap:=h',toks:=tk}) (n:= "range_iterator") st' rfl rfl ⋯ ⟨.int (lo + i),H,I1,⟨t, ?_⟩,⟨rfl,rfl⟩,st',λb hb=>(hf b hb).1⟩⟩;rw[Int.mul_one]
 done:=by
  intro X hP hw hK hc i zd s σ H E I hf st hg;subst hP hw hK;obtain⟨f0,f1,f2,f3,f4,f5⟩:=hf it (by simp);exact wpAny_pyNext_range_end (I.ok.hd hc) st (by have:n<=i:=hg;omega) λh' eb=>⟨rfl,I.turned (t':=s.toks) (λb o hb e=>eb b o hb e) f0 f1 f3 f4 f5⟩
 self:=λ_ _ _ _ _ st h=>wpAny_pyIter_rangeiter st h
section
variable{X:Cx}{tg:Expr}
def cl_7{zd:AE}{σ:St}{H:Hp}{s:Shared}{R:It->Hp->Prop}{E:AA}{lo hi:Int}{t u v:Tok}{tk:Nat}(I:Inv X zd σ H s)(h1: -(2 ^ 62)<=lo)(h2:lo < 2 ^ 62)(h3: -(2 ^ 62)<=hi)(h4:hi < 2 ^ 62)
  (q:R (Itr lo (hi - lo).toNat) H):wpAny (model X.prog X.w) X.A (pyIter (.ref s.heap.objs.size)) (PIE X zd σ tg R) E {s with heap:=s.heap.push {cls:=.type "range",data:=.fields #[.int lo t,.int hi u,.int 1 v]},toks:=tk}:=by
 refine wpAny_pyIter_range (IsRange.new ..) (small_one h1 h2 h3 h4) ?_;have I1:Inv X zd σ H {s with heap:=s.heap.push {cls:=.type "range",data:=.fields #[.int lo t,.int hi u,.int 1 v]},toks:=tk}:=I.kept λb o e=>A4 _ e;refine⟨(s.heap.push {cls:=.type "range",data:=.fields #[.int lo t,.int hi u,.int 1 v]}).objs.size,[(s.heap.push {cls:=.type "range",data:=.fields #[.int lo t,.int hi u,.int 1 v]}).objs.size],_,_,H,rfl,
  I1.kept (t':=tk) λb o e=>A4 _ e,bs_8 _ lo (hi - lo).toNat, ?_,λb hb=> ?_,q⟩
 ·have e1:lo + ((0:Nat):Int) * 1=lo:=by simp
  have e2:(((hi - lo).toNat:Nat):Int) - ((0:Nat):Int)=Builtin.Range.rangeSize lo hi 1:=by rw[rangeSize_one];split <;> omega
  show IsRangeIter _ _ (lo + ((0:Nat):Int) * 1) ((((hi - lo).toNat:Nat):Int) - ((0:Nat):Int)) 1;rw[e1,e2];exact B9 _ rfl
 ·have e:b=(s.heap.push {cls:=.type "range",data:=.fields #[.int lo t,.int hi u,.int 1 v]}).objs.size:=by simpa using hb
  subst e;exact I1.fpOk (B5 _) (I1.hok.fresh (B5 _))
def ds_5(ta:TA):TI:=λ σ H R=>ta σ H λvs H1=>∃j:Int,vs= [.int j]/\ -(2 ^ 62)<=j/\j < 2 ^ 62/\R (Itr 0 j.toNat) H1
def cf_0{a:Expr}{ta:TA}{p pos:Pos}(hg:Gl X "range")(hm:X.mg "range" =none)(ha:PA X [a] ta)(hs:starEach [a] X.env= [(false,eval a X.env)]:=by rfl):PI X tg (.Call (.Name "range" p) [a] [] pos) (ds_5 ta):=by
 intro zd s σ H R I h;refine Call_ (ae_7 I hg hm boot_range (O8 (Ay (ha pos zd s σ H _ I h) λus s1 ⟨vs,H1,I1,r1,q1⟩=> ?_) hs rfl));obtain⟨j,e,q1,q2,q⟩:=q1;subst e;cases r1 with
 |cons r rr=>
  cases rr;obtain⟨t,rfl⟩:=r;exact call_range_1 (cl_7 I1 () () q1 q2 (by simpa using q))
def tFor(wi:TI)(g:TG)(tb:TS):TS:=λD σ H=>wi σ H λJ H1=>∃W:Nat->Nat->St->Hp->Prop,(∃m,W 0 m σ H1)/\∀i m σ H,W i m σ H->
 (J.stop i H/\D.nx σ H)\/(J.go i H/\∃N:St->Hp->Prop,(∀σ' H',N σ' H'->∃m',m' < m/\W (i + 1) m' σ' H')/\∀x H',J.yld i H x H'->g x σ H' λ σ2 H2=>tb {D with nx:=N,ct:=N,bk:=D.nx} σ2 H2)
def as_0(fp:List Addr)(h:Heap):AE:=fp.filterMap λb=>(h.get? b).map λo=>(b,o)
def x_1{fp:List Addr}{h:Heap}{b:Addr}{o:Obj}(hb:b∈fp)(e:h.get? b=some o):(b,o)∈as_0 fp h:=T9.mpr ⟨b,hb,by rw[e];rfl⟩
def cf_1{fp:List Addr}{h:Heap}{p:Addr×Obj}(hp:p∈as_0 fp h):p.1∈fp/\h.get? p.1=some p.2:=by
 obtain⟨b,hb,e⟩:=T9.mp hp;cases q:h.get? b with
 |none=>rw[q]at e;cases e
 |some o=>
  rw[q]at e;have e':(b,o)=p:=J7 e;subst e';exact⟨hb,q⟩
def Inv.pinned{zd:AE}{σ:St}{H:Hp}{s:Shared}{fp:List Addr}(I:Inv X zd σ H s)(hf:∀b∈fp,Fc X zd H b)(ho:∀b∈fp,∃o,s.heap.get? b=some o/\∀v,o.data≠ .cell v):Inv X (zd ++ as_0 fp s.heap) σ H s:=
 I.pins_of λp hp=>(F5.mp hp).elim (λz=>I.pin p (B7 _ z)) λz=>by
  obtain⟨hb,e⟩:=cf_1 z;obtain⟨f0,f1,f2,_⟩:=hf p.1 hb;obtain⟨o,e',d⟩:=ho p.1 hb;rw[e]at e';cases e';exact⟨e,f0,f1,f2,d⟩
def Inv.unpinned{zd pl:AE}{σ:St}{H:Hp}{s:Shared}(I:Inv X (zd ++ pl) σ H s):Inv X zd σ H s:=I.pins_of λp hp=>I.pin p (B7 _ (J9 _ hp))
def cl_8{iter:Expr}{body:List Stmt}{wi:TI}{g:TG}{tb:TS}{pos:Pos}(hp:PassesOwn (model X.prog X.w) X.A X.env X.xe)(hc:X.calm=true)(hi:PI X tg iter wi)(hg:PG X tg g)(hb:PSs X body tb)
  (hs:∀x,foldedSetIterable iter X.env x=pure x:=by intro _;rfl):PS X (.For tg iter body [] pos) (tFor wi g tb):=by
 intro zd s σ H D I h;refine wpAny_For (Ay (hi zd s σ H _ I h) λv s1 h1=>Ay h1 λitv s2 h2=> ?_) hs;obtain⟨it,fp,tn,J,H2,e,I2,T,st2,f2,W,⟨m0,w0⟩,turn⟩:=h2;subst e
 
 have bw:∀{H':Hp},(∀b∈fp,H' b=none)->∀b∈fp,Fc X zd H' b:=λhn b hb=>⟨hn b hb,(f2 b hb).2⟩;refine codeAny_forLoop_any (λn s'=>∃i σ' H',Inv X zd σ' H' s'/\tn i s'.heap/\(∀b∈fp,H' b=none)/\W i n σ' H') ?_ m0 ⟨0,σ,H2,I2,st2,λb hb=>(f2 b hb).1,w0⟩
 rintro n s3 ⟨i,σ3,H3,I3,st3,fr3,w3⟩
 rcases turn i n σ3 H3 w3 with⟨stop,qn⟩|⟨go,N,hN,step⟩
 ·refine P5 hp (Ay (T.done X rfl rfl rfl hc i zd s3 σ3 H3 X.xe I3 (bw fr3) st3 stop) λr s4 ⟨hr,I4⟩=> ?_);subst hr;exact T7 ⟨σ3,H3,I4,qn⟩
 ·refine P5 hp (Ay (T.item X rfl rfl rfl hc i zd s3 σ3 H3 X.xe I3 (bw fr3) st3 go) λr s4 ⟨u,hr,h4⟩=> ?_);subst hr;refine P5 hp (Ay h4 λ_ s5 ⟨x,H5,I5,r5,y5,st5,fr5⟩=> ?_);have I5':=I5.pinned (bw fr5) (T.obj _ _ st5);refine P5 hp (Ay (hg _ s5 σ3 H5 x u _ I5' r5 (step x H5 y5)) λ_ s6 ⟨σ6,H6,I6,q6⟩=> ?_);refine P5 hp (Ay (hb _ s6 σ6 H6 _ I6 q6) λf s7 q7=> ?_);have again:∀{σ7:St} {H7:Hp},Inv X (zd ++ as_0 fp s5.heap) σ7 H7 s7->N σ7 H7->∃m,m < n/\∃i σ' H',Inv X zd σ' H' s7/\tn i s7.heap/\(∀b∈fp,H' b=none)/\W i m σ' H':=λ{σ7 H7} I7 n7=>by
   obtain⟨m',hm,w7⟩:=hN σ7 H7 n7;refine⟨m',hm,i + 1,σ7,H7,I7.unpinned,T.keep _ _ _ st5 λb hb o e=>(I7.pin (b,o) (B7 _ (B7 _ (x_1 hb e)))).1,λb hb=> ?_,w7⟩;obtain⟨o,e,d⟩:=T.obj _ _ st5 b hb;exact(I7.pin (b,o) (B7 _ (B7 _ (x_1 hb e)))).2.1
  cases f with
  |next=>obtain⟨σ7,H7,I7,n7⟩:=q7;exact again I7 n7
  |cont=>obtain⟨σ7,H7,I7,n7⟩:=q7;exact again I7 n7
  |brk=>obtain⟨σ7,H7,I7,q7⟩:=q7;exact⟨σ7,H7,I7.unpinned,q7⟩
  |ret v=>obtain⟨x7,σ7,H7,I7,r7,q7⟩:=q7;exact⟨x7,σ7,H7,I7.unpinned,r7,q7⟩
end
abbrev R2:=V->V->Hp->VK->Prop
def OpR(X:Cx)(f:Value->Value->Sem Value)(r:R2):Prop:=
 ∀(zd:AE) (s:Shared) (σ:St) (H:Hp) (x y:V) (v u:Value) (Q:VK),Inv X zd σ H s->RelV x v->RelV y u->r x y H Q->
  wpAny (model X.prog X.w) X.A (f v u) (EP X zd σ Q) X.xe s
def UnR(X:Cx)(f:Value->Sem Value)(r:V->Hp->VK->Prop):Prop:=
 ∀(zd:AE) (s:Shared) (σ:St) (H:Hp) (x:V) (v:Value) (Q:VK),Inv X zd σ H s->RelV x v->r x H Q->
  wpAny (model X.prog X.w) X.A (f v) (EP X zd σ Q) X.xe s
def CallR(X:Cx)(f:Value)(r:List V->Hp->VK->Prop):Prop:=
 ∀(zd:AE) (s:Shared) (σ:St) (H:Hp) (xs:List V) (us:List Value) (Q:VK),Inv X zd σ H s->Vals xs us->r xs H Q->
  wpAny (model X.prog X.w) X.A (call f us) (EP X zd σ Q) X.xe s
def TruR(X:Cx)(r:V->Hp->(Bool->Hp->Prop)->Prop):Prop:=
 ∀(zd:AE) (s:Shared) (σ:St) (H:Hp) (x:V) (v:Value) (Q:Bool->Hp->Prop),Inv X zd σ H s->RelV x v->r x H Q->
  wpAny (model X.prog X.w) X.A (truthy v) (TP X zd σ Q) X.xe s
def tOp(r:R2)(ta tb:TE):TE:=λ σ H Q=>ta σ H λx H1=>tb σ H1 λy H2=>r x y H2 Q
def tUn(r:V->Hp->VK->Prop)(ta:TE):TE:=λ σ H Q=>ta σ H λx H1=>r x H1 Q
def rI(C:Int->Int->Prop)(g:Int->Int->V):R2:=λx y H Q=>∃i j,x=.int i/\y=.int j/\C i j/\Q (g i j) H
def rI0(g:Int->Int->V):R2:=λx y H Q=>∃i j,x=.int i/\y=.int j/\Q (g i j) H
def rU(g:Int->V):V->Hp->VK->Prop:=λx H Q=>∃i,x=.int i/\Q (g i) H
section
variable{X:Cx}{a b c:Expr}{ta tb tc:TE}{pos:Pos}
def binT(ha:PE X a ta)(hb:PE X b tb){zd:AE}{s:Shared}{σ:St}{H:Hp}{R:V->V->Hp->Prop}(I:Inv X zd σ H s)
  (h:ta σ H λx H1=>tb σ H1 λy H2=>R x y H2) {Q:AA} {f:Value->Value->Sem Value}
  (hf:∀v u s2 x y H2,Inv X zd σ H2 s2->RelV x v->RelV y u->R x y H2->wpAny (model X.prog X.w) X.A (f v u) Q X.xe s2):
  wpAny (model X.prog X.w) X.A (eval a X.env) (λv s₁=>wpAny (model X.prog X.w) X.A (eval b X.env) (λu s₂=>wpAny (model X.prog X.w) X.A (f v u) Q X.xe s₂) X.xe s₁) X.xe s:=by
 refine Ay (ha zd s σ H _ I h) λv s1 ⟨x,H1,I1,r1,q1⟩=> ?_;refine Ay (hb zd s1 σ H1 _ I1 q1) λu s2 ⟨y,H2,I2,r2,q2⟩=> ?_;exact hf v u s2 x y H2 I2 r1 r2 q2
def dh_9{op:Operator}{r:R2}(ho:OpR X (binaryOp op) r)(ha:PE X a ta)(hb:PE X b tb):PE X (.BinOp a op b pos) (tOp r ta tb):=by
 intro zd s σ H Q I h;exact wpAny_BinOp (binT ha hb I h λv u s2 x y H2 I2 rx ry q=>ho zd s2 σ H2 x y v u Q I2 rx ry q)
def ds_6{op:UnaryOp}{r:V->Hp->VK->Prop}(ho:UnR X (unaryOp op) r)(ha:PE X a ta):PE X (.UnaryOp op a pos) (tUn r ta):=by
 intro zd s σ H Q I h;exact UnaryOp_ (Ay (ha zd s σ H _ I h) λv s1 ⟨x,H1,I1,r1,q1⟩=>ho zd s1 σ H1 x v Q I1 r1 q1)
def opI{f:Value->Value->Sem Value}{C:Int->Int->Prop}{g:Int->Int->Int}
  (rule:∀(i j:Int) (t u:Tok) (s:Shared) (Q:AA) (E:AA),C i j->Q (.int (g i j) s.toks) {s with toks:=s.toks + 1}->wpAny (model X.prog X.w) X.A (f (.int i t) (.int j u)) Q E s):
  OpR X f (rI C λi j=> .int (g i j)):=by
 intro zd s σ H x y v u Q I rx ry h;obtain⟨i,j,rfl,rfl,hc,q⟩:=h;obtain⟨t,rfl⟩:=rx;obtain⟨t',rfl⟩:=ry;exact rule i j t t' s _ _ hc ⟨.int (g i j),H,I.tok _,⟨_,rfl⟩,q⟩
def opI0{f:Value->Value->Sem Value}{g:Int->Int->Int}
  (rule:∀(i j:Int) (t u:Tok) (s:Shared) (Q:AA) (E:AA),Q (.int (g i j) s.toks) {s with toks:=s.toks + 1}->wpAny (model X.prog X.w) X.A (f (.int i t) (.int j u)) Q E s):
  OpR X f (rI0 λi j=> .int (g i j)):=by
 intro zd s σ H x y v u Q I rx ry h;obtain⟨i,j,rfl,rfl,q⟩:=h;obtain⟨t,rfl⟩:=rx;obtain⟨t',rfl⟩:=ry;exact rule i j t t' s _ _ ⟨.int (g i j),H,I.tok _,⟨_,rfl⟩,q⟩
def opB0{f:Value->Value->Sem Value}{g:Int->Int->Bool}
  (rule:∀(i j:Int) (t u:Tok) (s:Shared) (Q:AA) (E:AA),Q (.bool (g i j)) s->wpAny (model X.prog X.w) X.A (f (.int i t) (.int j u)) Q E s):
  OpR X f (rI0 λi j=> .bl (g i j)):=by
 intro zd s σ H x y v u Q I rx ry h;obtain⟨i,j,rfl,rfl,q⟩:=h;obtain⟨t,rfl⟩:=rx;obtain⟨t',rfl⟩:=ry;exact rule i j t t' s _ _ ⟨.bl (g i j),H,I,rfl,q⟩
def CPow(i j:Int):Prop:=0<=j/\j<=1000000/\i.natAbs < 2 ^ 64
def CMul(i j:Int):Prop:=(-(2 ^ 64) < i/\i < 2 ^ 64)\/(-(2 ^ 64) < j/\j < 2 ^ 64)
def CMul.ok{i j:Int}(h:CMul i j):IntMulOk i j:=by
 rcases h with⟨h1,h2⟩|⟨h1,h2⟩
 ·exact .of_left (intBits_le_64 h1 h2)
 ·exact .of_right (intBits_le_64 h1 h2)
def dl_1:OpR X (binaryOp .Add) (rI0 λi j=> .int (i + j)):=opI0 λ_ _ _ _ _ _ _ q=>add_int q
def dl_2:OpR X (binaryOp .Mult) (rI CMul λi j=> .int (i * j)):=opI λ_ _ _ _ _ _ _ hc q=>mul_int q hc.ok
def dl_3:OpR X (binaryOp .Mod) (rI (λ_ j=>0 < j) λi j=> .int (i % j)):=opI λi j _ _ _ _ _ hc q=>by
 have h1:(0:Int) < j:=hc;exact mod_int' () (by rw[Int.fmod_eq_emod_of_nonneg i ()];exact q)
def dl_4:OpR X (binaryOp .Pow) (rI CPow λi j=> .int (i ^ j.toNat)):=opI λ_ _ _ _ _ _ _ hc q=>pow_int_small hc.1 hc.2.1 hc.2.2 q
def unI{f:Value->Sem Value}{g:Int->Int}
  (rule:∀(i:Int) (t:Tok) (s:Shared) (Q:AA) (E:AA),Q (.int (g i) s.toks) {s with toks:=s.toks + 1}->wpAny (model X.prog X.w) X.A (f (.int i t)) Q E s):
  UnR X f (rU λi=> .int (g i)):=by
 intro zd s σ H x v Q I rx h;obtain⟨i,rfl,q⟩:=h;obtain⟨t,rfl⟩:=rx;exact rule i t s _ _ ⟨.int (g i),H,I.tok _,⟨_,rfl⟩,q⟩
def dl_5:UnR X (unaryOp .USub) (rU λi=> .int (-i)):=unI λ_ _ _ _ _ q=>neg_int q
end
def scal:V->V->Bool
 | .non,.non=>true| .non,.int _=>true| .int _,.non=>true| .non,.bl _=>true| .bl _,.non=>true| .non,.str _=>true| .str _,.non=>true
 | .int _,.int _=>true| .bl _,.bl _=>true| .str _,.str _=>true| .byt _,.byt _=>true
 | .int _,.str _=>true| .str _,.int _=>true| .bl _,.str _=>true| .str _,.bl _=>true
 |_,_=>false
def rEq:R2:=λx y H Q=>scal x y=true/\Q (.bl (decide (x=y))) H
def rNe:R2:=λx y H Q=>scal x y=true/\Q (.bl (!decide (x=y))) H
def by_2{i j:Int}:decide (V.int i=V.int j)=(i ==j):=by
 rw[P6];simp
def cl_9{i j:Bool}:decide (V.bl i=V.bl j)=(i ==j):=by
 rw[P6];simp
def by_3{i j:Str}:decide (V.str i=V.str j)=(i ==j):=by
 rw[P6];simp
def by_4{i j:Array UInt8}:decide (V.byt i=V.byt j)=(i.toList ==j.toList):=by
 rw[P6];cases i;cases j;simp
section
variable{X:Cx}{a b c:Expr}{ta tb tc:TE}{pos:Pos}
def Dj{zd:AE}{σ:St}{H:Hp}{s:Shared}{Q:VK}{k k':Bool}(I:Inv X zd σ H s)(q:Q (.bl k) H)(e:k=k'):EP X zd σ Q (.bool k') s:=by
 subst e;exact⟨.bl k,H,I,rfl,q⟩
def ds_9:OpR X (compareOp .Eq) rEq:=by
 intro zd s σ H x y v u Q I rx ry h;obtain⟨hs,q⟩:=h;cases x with
 |non=>
  cases rx;cases y with
  |non=>cases ry;exact PySem.EqNone.eq_none_none (Dj I q (by simp))
  |bl j=>cases ry;exact PySem.EqNone.eq_none_bool (Dj I q (by simp))
  |int j=>obtain⟨t',rfl⟩:=ry;exact PySem.EqNone.eq_none_int (Dj I q (by simp))
  |str j=>obtain⟨t',rfl⟩:=ry;exact PySem.EqNone.eq_none_str (Dj I q (by simp))
  |_=>exact absurd (show false=true from hs) A6
 |bl i=>
  cases rx;cases y with
  |non=>cases ry;exact PySem.EqNone.eq_bool_none (Dj I q (by simp))
  |bl j=>cases ry;exact eq_bool (Dj I q cl_9)
  |str j=>obtain⟨t',rfl⟩:=ry;exact PySem.EqMixed.eq_bool_str (Dj I q (by simp))
  |_=>exact absurd (show false=true from hs) A6
 |int i=>
  obtain⟨t,rfl⟩:=rx;cases y with
  |non=>cases ry;exact PySem.EqNone.eq_int_none (Dj I q (by simp))
  |int j=>obtain⟨t',rfl⟩:=ry;exact eq_int (Dj I q by_2)
  |str j=>obtain⟨t',rfl⟩:=ry;exact PySem.EqMixed.eq_int_str (Dj I q (by simp))
  |_=>exact absurd (show false=true from hs) A6
 |str i=>
  obtain⟨t,rfl⟩:=rx;cases y with
  |non=>cases ry;exact PySem.EqNone.eq_str_none (Dj I q (by simp))
  |bl j=>cases ry;exact PySem.EqMixed.eq_str_bool (Dj I q (by simp))
  |int j=>obtain⟨t',rfl⟩:=ry;exact PySem.EqMixed.eq_str_int (Dj I q (by simp))
  |str j=>obtain⟨t',rfl⟩:=ry;exact eq_str (Dj I q by_3)
  |_=>exact absurd (show false=true from hs) A6
 |byt i=>
  obtain⟨t,rfl⟩:=rx;cases y with
  |byt j=>obtain⟨t',rfl⟩:=ry;exact eq_bytes (Dj I q by_4)
  |_=>exact absurd (show false=true from hs) A6
 |_=>cases y <;> exact absurd (show false=true from hs) A6
def dt_0:OpR X (compareOp .NotEq) rNe:=by
 intro zd s σ H x y v u Q I rx ry h;obtain⟨hs,q⟩:=h;cases x with
 |non=>
  cases rx;cases y with
  |non=>cases ry;exact PySem.EqNone.ne_none_none (Dj I q (by simp))
  |bl j=>cases ry;exact PySem.EqNone.ne_none_bool (Dj I q (by simp))
  |int j=>obtain⟨t',rfl⟩:=ry;exact PySem.EqNone.ne_none_int (Dj I q (by simp))
  |str j=>obtain⟨t',rfl⟩:=ry;exact PySem.EqNone.ne_none_str (Dj I q (by simp))
  |_=>exact absurd (show false=true from hs) A6
 |bl i=>
  cases rx;cases y with
  |non=>cases ry;exact PySem.EqNone.ne_bool_none (Dj I q (by simp))
  |bl j=>cases ry;exact ne_bool (Dj I q (K4 not cl_9))
  |str j=>obtain⟨t',rfl⟩:=ry;exact PySem.EqMixed.ne_bool_str (Dj I q (by simp))
  |_=>exact absurd (show false=true from hs) A6
 |int i=>
  obtain⟨t,rfl⟩:=rx;cases y with
  |non=>cases ry;exact PySem.EqNone.ne_int_none (Dj I q (by simp))
  |int j=>obtain⟨t',rfl⟩:=ry;exact ne_int (Dj I q (K4 not by_2))
  |str j=>obtain⟨t',rfl⟩:=ry;exact PySem.EqMixed.ne_int_str (Dj I q (by simp))
  |_=>exact absurd (show false=true from hs) A6
 |str i=>
  obtain⟨t,rfl⟩:=rx;cases y with
  |non=>cases ry;exact PySem.EqNone.ne_str_none (Dj I q (by simp))
  |bl j=>cases ry;exact PySem.EqMixed.ne_str_bool (Dj I q (by simp))
  |int j=>obtain⟨t',rfl⟩:=ry;exact PySem.EqMixed.ne_str_int (Dj I q (by simp))
  |str j=>obtain⟨t',rfl⟩:=ry;exact ne_str (Dj I q (K4 not by_3))
  |_=>exact absurd (show false=true from hs) A6
 |byt i=>
  obtain⟨t,rfl⟩:=rx;cases y with
  |byt j=>obtain⟨t',rfl⟩:=ry;exact ne_bytes (Dj I q (K4 not by_4))
  |_=>exact absurd (show false=true from hs) A6
 |_=>cases y <;> exact absurd (show false=true from hs) A6
def dt_1:OpR X (compareOp .Lt) (rI0 λi j=> .bl (decide (i < j))):=opB0 λ_ _ _ _ _ _ _ q=>lt_int q
def dt_2:OpR X (compareOp .LtE) (rI0 λi j=> .bl (decide (i<=j))):=opB0 λ_ _ _ _ _ _ _ q=>le_int q
def dt_3:OpR X (compareOp .Gt) (rI0 λi j=> .bl (decide (j < i))):=opB0 λ_ _ _ _ _ _ _ q=>gt_int q
def cf_2:OpR X (compareOp .In) (λx y H Q=>∃i j,x=.str i/\y=.str j/\Q (.bl (!(Builtin.Str.occurrences j i 0 j.length 1).isEmpty)) H):=by
 intro zd s σ H x y v u Q I rx ry h;obtain⟨i,j,rfl,rfl,q⟩:=h;obtain⟨t,rfl⟩:=rx;obtain⟨t',rfl⟩:=ry;exact in_str (Dj I q rfl)
def OpR.or{f:Value->Value->Sem Value}{r r':R2}(h:OpR X f r)(h':OpR X f r'):OpR X f (λx y H Q=>r x y H Q\/r' x y H Q):=by
 intro zd s σ H x y v u Q I rx ry q;rcases q with q|q
 ·exact h zd s σ H x y v u Q I rx ry q
 ·exact h' zd s σ H x y v u Q I rx ry q
def Dt(b:Expr){op:CmpOp}(h:op≠ .In:=by decide)(h2:op≠ .NotIn:=by decide):behindInMarks op b=false:=by
 have e1:(op ==CmpOp.In)=false:=by cases op <;> first|rfl|exact absurd rfl h
 have e2:(op ==CmpOp.NotIn)=false:=by cases op <;> first|rfl|exact absurd rfl h2
 cases b <;> simp[behindInMarks,e1,e2]
def cy_8{op:CmpOp}{r:R2}(ho:OpR X (compareOp op) r)(ha:PE X a ta)(hb:PE X b tb)(hm:behindInMarks op b=false):PE X (.Compare a [op] [b] pos) (tOp r ta tb):=by
 intro zd s σ H Q I h;exact wpAny_Compare1 (binT ha hb I h λv u s2 x y H2 I2 rx ry q=>ho zd s2 σ H2 x y v u Q I2 rx ry q) hm
def dt_4(t:TE):TT:=λ σ H Q=>t σ H λx H'=>∃k,x=.bl k/\Q k H'
def cy_9{op:CmpOp}{r:R2}(ho:OpR X (compareOp op) r)(ha:PE X a ta)(hb:PE X b tb)(hm:behindInMarks op b=false):PT X (.Compare a [op] [b] pos) (dt_4 (tOp r ta tb)):=by
 intro zd s σ H Q I h;refine wpAny_isTrue_Compare1 (Ay (ha zd s σ H _ I h) λv s1 ⟨x,H1,I1,r1,q1⟩=>Ay (hb zd s1 σ H1 _ I1 q1) λu s2 ⟨y,H2,I2,r2,q2⟩=>
  Ay (ho zd s2 σ H2 x y v u _ I2 r1 r2 q2) λc s3 ⟨z,H3,I3,r3,k,e,q3⟩=> ?_) hm
 subst e;cases r3;exact Q2 ⟨H3,I3,q3⟩
def cm_0(r r':R2)(ta tb tc:TE):TE:=λ σ H Q=>ta σ H λx H1=>tb σ H1 λy H2=>r x y H2 λz H3=>∃k,z=.bl k/\
 (if k=true then tc σ H3 λw' H4=>r' y w' H4 Q else Q (.bl false) H3)
def cm_1{op op':CmpOp}{r r':R2}(ho:OpR X (compareOp op) r)(ho':OpR X (compareOp op') r')(ha:PE X a ta)(hb:PE X b tb)(hc:PE X c tc)
  (hm:lastMarks [op,op'] [b,c]=false:=by with_unfolding_all rfl):PE X (.Compare a [op,op'] [b,c] pos) (cm_0 r r' ta tb tc):=by
 intro zd s σ H Q I h;refine Compare_chain (Ay (ha zd s σ H _ I h) λv s1 ⟨x,H1,I1,r1,q1⟩=>chain_link (Ay (hb zd s1 σ H1 _ I1 q1) λu s2 ⟨y,H2,I2,r2,q2⟩=>
  Ay (ho zd s2 σ H2 x y v u _ I2 r1 r2 q2) λd s3 ⟨z,H3,I3,r3,k,e,q3⟩=> ?_)) hm
 subst e;cases r3;refine Q2 ?_;cases k with
 |false=>exact ite_ff ⟨.bl false,H3,I3,rfl,q3⟩
 |true=>exact ite_tt (chain_last (Ay (hc zd s3 σ H3 _ I3 q3) λw' s4 ⟨z',H4,I4,r4,q4⟩=>ho' zd s4 σ H4 y z' u w' Q I4 r2 r4 q4))
def TruV(K:Frag)(x:V)(H:Hp)(k:Bool):Prop:=
 match x with
 | .non=>k=false
 | .bl b=>k=b
 | .int i=>k=(i != 0)
 | .str y=>y.length<=sizeLine/\k=((y.length:Int) != 0)
 | .byt y=>y.size<=sizeLine/\k=((y.size:Int) != 0)
 | .ref p=>(∃xs,SqL K H p xs/\k= !xs.isEmpty)\/(∃xs,SqT K H p xs/\k= !xs.isEmpty)\/∃kvs,H p=some (.dK kvs)/\k= !kvs.isEmpty
 |_=>False
def bs_9{κ:Type}{kvs:List (κ×V)}{vs:List (κ×Value)}(r:KV kvs vs):(!vs.isEmpty)= !kvs.isEmpty:=by
 cases r <;> rfl
def as_1{xs:List V}{its:List Value}(r:Vals xs its):(!its.toArray.isEmpty)= !xs.isEmpty:=by
 cases r <;> simp
def aj_6:(sizeLine:Nat) < 2 ^ 63:=by rw[D6];decide
def dl_7:TruR X (λx H Q=>∃k,TruV X.K x H k/\Q k H):=by
 intro zd s σ H x v Q I rx h;obtain⟨k,e,q⟩:=h;have hl:=aj_6;have hs:sizeLine=16777216:=D6;cases x with
 |non=>
  cases rx;have e':k=false:=e;subst e';exact truthy_none ⟨H,I,q⟩
 |bl b=>
  cases rx;have e':k=b:=e;subst e';exact Q2 ⟨H,I,q⟩
 |int i=>
  obtain⟨t,rfl⟩:=rx;have e':k=(i != 0):=e;subst e';exact PySem.P.truthy_int ⟨H,I,q⟩
 |str y=>
  obtain⟨t,rfl⟩:=rx;obtain⟨hy,e'⟩:y.length<=sizeLine/\k=((y.length:Int) != 0):=e;subst e';exact PySem.P.truthy_str () ⟨H,I.tok _,q⟩
 |byt y=>
  obtain⟨t,rfl⟩:=rx;obtain⟨hy,e'⟩:y.size<=sizeLine/\k=((y.size:Int) != 0):=e;subst e';exact truthy_bytes () ⟨H,I.tok _,q⟩
 |ref p=>
  cases rx;have e':(∃xs,SqL X.K H p xs/\k= !xs.isEmpty)\/(∃xs,SqT X.K H p xs/\k= !xs.isEmpty)\/∃kvs,H p=some (.dK kvs)/\k= !kvs.isEmpty:=e;rcases e' with⟨xs,hx,e'⟩|⟨xs,hx,e'⟩|⟨kvs,hx,e'⟩
  ·subst e';obtain⟨its,r,pl,hz⟩:=I.list hx;have zk:=r.length;exact wpAny_truthy_list pl.isList (by simp only[D0];omega) ⟨H,I.tok _,by rw[as_1 r];exact q⟩
  ·subst e';obtain⟨its,r,pl,hz⟩:=I.tuple hx;have zk:=r.length;exact truthy_tuple pl (by simp only[D0];omega) ⟨H,I.tok _,by rw[as_1 r];exact q⟩
  ·subst e';obtain⟨hz,hS,vs,r,m⟩:kvs.length<=sizeLine/\(p ==sysModules)=false/\∃vs,KV kvs vs/\s.heap.DictOf (Dw X.prog X.w) p vs:=I.hok p _ hx;have zk:kvs.length=vs.length:=W1 r;exact wpAny_truthy_dict hS m () ⟨H,I.tok _,by rw[bs_9 r];exact q⟩
 |_=>exact(show False from e).elim
def bk_3(ha:PE X a ta)(he:∀whole,isTrue a X.env whole=(do let v<-whole;standAt a.pos;holding [v] (truthy v))):
  PT X a (λ σ H Q=>ta σ H λx H'=>∃k,TruV X.K x H' k/\Q k H'):=by
 intro zd s σ H Q I h;exact isTrue_plain (Ay (ha zd s σ H _ I h) λv s1 ⟨x,H1,I1,r1,q1⟩=>dl_7 zd s1 σ H1 x v Q I1 r1 q1) (he _)
def bt_0:OpR X (binaryOp .Add) (λx y H Q=>∃i j,x=.str i/\y=.str j/\i.length + j.length<=sizeLine/\Q (.str (i ++ j)) H):=by
 intro zd s σ H x y v u Q I rx ry h;obtain⟨i,j,rfl,rfl,hz,q⟩:=h;obtain⟨t,rfl⟩:=rx;obtain⟨t',rfl⟩:=ry;exact add_str (λt' tk=>⟨.str (i ++ j),H,I.tok _,⟨_,rfl⟩,q⟩) hz
def by_5{x:V}{us:List Value}(r:Vals [x] us):∃u,us= [u]/\RelV x u:=by
 cases r with
 |cons r1 r2=>cases r2;exact⟨_,rfl,r1⟩
def di_0{x y:V}{us:List Value}(r:Vals [x,y] us):∃u w',us= [u,w']/\RelV x u/\RelV y w':=by
 cases r with
 |cons r1 r2=>
  cases r2 with
  |cons r3 r4=>cases r4;exact⟨_,_,rfl,r1,r3⟩
def cf_3(hc:X.calm=true):CallR X (.builtin "max") (λxs H Q=>∃i j,xs= [.int i,.int j]/\Q (.int (if j > i then j else i)) H):=by
 intro zd s σ H xs us Q I r h;obtain⟨i,j,rfl,q⟩:=h;obtain⟨u,w',rfl,⟨t,rfl⟩,⟨t',rfl⟩⟩:=di_0 r;refine max_two_ints (I.ok.hd hc) λh' tk k=>⟨_,H,I.kept k, ?_,q⟩
 by_cases hj:j > i
 ·rw[if_pos hj,if_pos hj];exact⟨_,rfl⟩
 ·rw[if_neg hj,if_neg hj];exact⟨_,rfl⟩
def cf_4(hc:X.calm=true):CallR X (.builtin "min") (λxs H Q=>∃i j,xs= [.int i,.int j]/\Q (.int (if j < i then j else i)) H):=by
 intro zd s σ H xs us Q I r h;obtain⟨i,j,rfl,q⟩:=h;obtain⟨u,w',rfl,⟨t,rfl⟩,⟨t',rfl⟩⟩:=di_0 r;refine min_two_ints (I.ok.hd hc) λh' tk k=>⟨_,H,I.kept k, ?_,q⟩
 by_cases hj:j < i
 ·rw[if_pos hj,if_pos hj];exact⟨_,rfl⟩
 ·rw[if_neg hj,if_neg hj];exact⟨_,rfl⟩
end
structure ObjM(h:Heap)(x dx C:Addr)(mA:AB):Prop where
 obj:h.get? x=some (instObj C dx)
 ns:h.Ns1 dx mA
 ne:dx≠x
def cf_5{h:Heap}{dx:Addr}{mA:AB}(n:h.Ns1 dx mA):∃od,h.get? dx=some od/\∀name,lookIn name od=some (mA name):=by
 obtain⟨o,es,ep,ho,hd,hk,_,hm⟩:=n;refine⟨o,ho,λname=> ?_⟩;have e:=hm name;unfold nsFind findBy at e;rw[<-Array.find?_toList]at e;unfold lookIn;rw[hd];dsimp only
 split
 ·rename_i y q;rw[q]at e;exact K4 some e
 ·rename_i q;rw[q]at e;have a:es.toList.any (·.refKey)=false:=by
   rw[List.any_eq_false];intro y hy;obtain⟨z,t,dq⟩:=hk y (Array.mem_toList_iff.mp hy);simp[DictEntry.refKey,dq]
  have a':¬es.toList.any (·.refKey)=true:=by rw[a];exact A6
  rw[if_neg a'];exact K4 some e
def ObjM.look{h:Heap}{x dx C:Addr}{mA:AB}(I:ObjM h x dx C mA):∃od,InstAt h x (instObj C dx) C (some od)/\∀name,lookIn name od=some (mA name):=
 let⟨od,ho,hl⟩:=cf_5 I.ns
 ⟨od,⟨I.obj,rfl,rfl,ho⟩,hl⟩
section
variable{prog:Program}{w:World}{A:Around}{E:AA}{s:Shared}{K:Frag}{x dx C f:Addr}{mA:AB}{name:Str}{v:Value}
def cz_0{expr:Bool}{Q:AA}(X:K.In s.heap)(I:ObjM s.heap x dx C mA)(hg:plainGet K C name=true)(hh:hasDictIn K C=true)
  (ha:findIn K (.ref C) name=some none) (hv:mA name=some v) (hv':handedIn v=true) (h:Q v {s with toks:=s.toks + 1}):
  wpAny (model prog w) A (getAttr (.ref x) name expr) Q E s:=by
 obtain⟨od,J,hl⟩:=I.look;exact get_value X J (ZB8 hg).1 (findObj_own hh ha rfl (by rw[hl,hv])) hv' h
def cm_2{pl:Sem Bool}{Q:Value×List Value->Shared->Prop}(X:K.In s.heap)(I:ObjM s.heap x dx C mA)(hg:plainGet K C name=true)
  (hf:findIn K (.ref C) name=some (some (.ref f))) (ht:isFn K (.ref f)=true) (hv:mA name=none) (h:Q (.ref f,[.ref x]) s):
  wpAny (model prog w) A (getMethod (.ref x) name pl) Q E s:=by
 obtain⟨od,J,hl⟩:=I.look;exact method_fn X J (ZB8 hg).1 (ZB8 hg).2 hf (M8.mp ht) (by show(lookIn name od).map (·.isSome)=some false;rw[hl,hv];rfl) h
def cz_1{ns:List Str}{Q:Unit->Shared->Prop}(X:K.In s.heap)(I:ObjM s.heap x dx C mA)
  (hs:findIn K (.ref C) "__setattr__" =some (some (.builtin "object.__setattr__"))) (hp:plainOver K C=true) (ht:takerIn K C name=some none) (hh:hasDictIn K C=true)
  (hw:PySem.Within mA ns) (hsz:ns.length<=sizeLine)
  (h:∀h',ObjM h' x dx C (λy=>if y=name then some v else mA y)->Heap.SameBut dx s.heap h'->Q .unit {s with heap:=h',toks:=s.toks + 2}):
  wpAny (model prog w) A (setAttr (.ref x) name v) Q E s:=by
 obtain⟨od,J,hl⟩:=I.look;refine set_plain X J hs (osa_open (s:={s with toks:=s.toks + 1}) (r:=none) X J hp ht λb=> ?_);obtain⟨cd,hc,hd'⟩:=any_some hh;have hx:s.heap.get? x=some ⟨.ref C,some dx,.plain, #[]⟩:=I.obj;refine A7 (E7 (A7 (A7 (wpAny_loadPart hx (A7 (ZC7 (s:={s with toks:=s.toks + 1}) (ZB7 X hc) ?_))))));rw[hd'];refine E7 (a:=some dx) (A7 (E7 (A7 ?_)));refine wpAny_nsSet1 (s:={s with toks:=s.toks + 1}) I.ns λh' hn2 hs2=> ?_;obtain⟨oD,esD,epD,hoD,hdD,hcD⟩:=hn2.count (PySem.Within.cons name v hw);refine A7 (wpAny_lookBehind hoD (by rw[hdD];exact pastItsLine_dict (C5 hcD (by rw[B4];omega))) ?_);exact E7 (h _ ⟨(hs2.2 _ (Ne.symm I.ne)).trans I.obj,hn2,I.ne⟩ hs2)
def cm_3{R:Result->Shared->Prop}{vs:List Value}{kw:List (Str×Value)}(X:K.In s.heap)(hm:makesIn K C=true)
  (hi:findIn K (.ref C) "__init__" =some (some (.ref f))) (hf:typeIn K (.ref f)=some (.type "function"))
  (h:codeAny (model prog w) (A.under (.builtin "type.__call__" ⟨.ref C::vs,kw⟩)) (.call (.ref f) ⟨.ref (s.heap.objs.size + 1)::vs,kw⟩) (InitBack (s.heap.objs.size + 1) R)
   {s with heap:=(s.heap.push emptyDict).push (instObj C s.heap.objs.size)}):
  codeAny (model prog w) A (.call (.ref C) ⟨vs,kw⟩) R s:=by
 obtain⟨hh,g,d,t,os⟩:=s;exact make_core (makes_of X hm) (ZC9 X hi) (λself=>bind_fn X self hf) (.inl rfl) h
end
def Fk(f:Str)(v:V):List (Str×V)->List (Str×V)
 | []=> [(f,v)]
 |(g,x)::r=>if g=f then(g,v)::r else(g,x)::Fk f v r
theorem an_3(f g:Str)(v:V):∀fs:List (Str×V),(Fk f v fs).lookup g=if g=f then some v else fs.lookup g
 | []=>by
  show List.lookup g [(f,v)]=_
  by_cases h:g=f
  ·have hb:(g ==f)=true:=M8.mpr h;simp only[List.lookup,hb,if_pos h]
  ·have hb:(g ==f)=false:=O7.mpr h;simp only[List.lookup,hb,if_neg h]
 |(k,x)::r=>by
  have ih:=an_3 f g v r;rw[show Fk f v ((k,x)::r)=(if k=f then(k,v)::r else(k,x)::Fk f v r) from rfl]
  by_cases hk:k=f
  ·rw[if_pos hk]
   by_cases h:g=k
   ·have hb:(g ==k)=true:=M8.mpr h;simp only[List.lookup,hb,if_pos (h.trans hk)]
   ·have hb:(g ==k)=false:=O7.mpr h;simp only[List.lookup,hb,if_neg (λe:g=f=>h (e.trans hk.symm))]
  ·rw[if_neg hk]
   by_cases h:g=k
   ·have hb:(g ==k)=true:=M8.mpr h;simp only[List.lookup,hb,if_neg (λe:g=f=>hk (h.symm.trans e))]
   ·have hb:(g ==k)=false:=O7.mpr h;simp only[List.lookup,hb];exact ih
theorem aj_7(f:Str)(v:V):∀fs:List (Str×V),f∈(Fk f v fs).map (·.1)/\∀g,g∈fs.map (·.1)->g∈(Fk f v fs).map (·.1)
 | []=>⟨by simp[Fk],λg h=>by simp at h⟩
 |(k,x)::r=>by
  obtain⟨i1,i2⟩:=aj_7 f v r;rw[show Fk f v ((k,x)::r)=(if k=f then(k,v)::r else(k,x)::Fk f v r) from rfl]
  by_cases hk:k=f
  ·rw[if_pos hk];subst hk;exact⟨by simp,λg h=>by simpa using h⟩
  ·rw[if_neg hk];refine⟨?_,λg h=> ?_⟩
   ·rw[A8];exact C7 _ i1
   ·rw[A8]at h⊢;rcases C6.mp h with e|e
    ·exact C6.mpr (.inl e)
    ·exact C7 _ (i2 g e)
theorem an_4(f:Str)(v:V):∀fs:List (Str×V),(Fk f v fs).length<=fs.length + 1
 | []=>by simp[Fk]
 |(k,x)::r=>by
  have ih:=an_4 f v r;rw[show Fk f v ((k,x)::r)=(if k=f then(k,v)::r else(k,x)::Fk f v r) from rfl]
  by_cases hk:k=f
  ·rw[if_pos hk,B4,B4];omega
  ·rw[if_neg hk,B4,B4];omega
def RelO.some_of{v:V}{o:Option Value}(r:RelO (some v) o):∃u,o=some u/\RelV v u:=by
 cases o with
 |none=>exact(show False from r).elim
 |some u=>exact⟨u,rfl,r⟩
def RelO.none_of{o:Option Value}(r:RelO none o):o=none:=by
 cases o with
 |none=>rfl
 |some u=>exact(show False from r).elim
def cf_6{v:V}{u:Value}(r:RelV v u):handedIn u=true:=by
 cases v with
 |non=>cases(show u=Value.none from r);rfl
 |bl b=>cases(show u=Value.bool b from r);rfl
 |int i=>obtain⟨t,e⟩:=(show∃t,u=Value.int i t from r);cases e;rfl
 |str x=>obtain⟨t,e⟩:=(show∃t,u=Value.str x t from r);cases e;rfl
 |byt b=>obtain⟨t,e⟩:=(show∃t,u=Value.bytes b t from r);cases e;rfl
 |flt b=>obtain⟨t,e⟩:=(show∃t,u=Value.float b t from r);cases e;rfl
 |ref a=>cases(show u=Value.ref a from r);rfl
 |ty n=>cases(show u=Value.type n from r);rfl
section
variable{P:Program}{w:World}{H H':Hp}{h h':Heap}{a C dx:Addr}{fs fs':List (Str×V)}
def be_8(hok:HOk P w H h)(e:H a=some (.ins C dx fs)):∃mA,ObjM h a dx C mA/\(∀f,RelO (fs.lookup f) (mA f))/\PySem.Within mA (fs.map (·.1))/\fs.length<=1000/\H dx=some (.own a):=by
 obtain⟨d,z,ne,ob,mA,n,r,q⟩:=(show ObjOk P w H h a (.ins C dx fs) from hok a _ e);exact⟨mA,⟨ob,n,ne⟩,r,q,z,d⟩
end
structure Cls(K:Frag)(C:Addr):Prop where
 pg:plainGet K C Str.empty=true
 hd:hasDictIn K C=true
 po:plainOver K C=true
 sa:findIn K (.ref C) "__setattr__" =some (some (.builtin "object.__setattr__"))
def Cls.get{K:Frag}{C:Addr}(c:Cls K C)(f:Str):plainGet K C f=true:=c.pg
def NoAttr(K:Frag)(C:Addr)(f:Str):Prop:=findIn K (.ref C) f=some none
def NoAttr.taker{K:Frag}{C:Addr}{f:Str}(n:NoAttr K C f):takerIn K C f=some none:=by
 unfold takerIn;rw[show findIn K (.ref C) f=some none from n];rfl
structure Con(K:Frag)(C:Addr)(f:Str)(v:V)(u:Value):Prop where
 at_:findIn K (.ref C) f=some (some u)
 rel:RelV v u
 get:specialIn K u "__get__" =some none
 cp:PySem.W.copiedNames.contains f=false
structure Meth(K:Frag)(C:Addr)(m:Str)(f:Addr):Prop where
 at_:findIn K (.ref C) m=some (some (.ref f))
 fn:isFn K (.ref f)=true
 kp:keepIn K (.ref f)=true
section
variable{X:Cx}{zd:AE}{σ:St}{H:Hp}{s:Shared}{a C dx:Addr}{fs:List (Str×V)}{f:Str}{v:V}{A:Around}{E:AA}
def bt_1{b:Bool}{Q:AA}(I:Inv X zd σ H s)(e:H a=some (.ins C dx fs))(c:Cls X.K C)(n:NoAttr X.K C f)(l:fs.lookup f=some v)
  (h:∀u s',Inv X zd σ H s'->RelV v u->Q u s'):wpAny (model X.prog X.w) A (getAttr (.ref a) f b) Q E s:=by
 obtain⟨mA,O,r,_,_,_⟩:=be_8 I.hok e;obtain⟨u,hu,ru⟩:=RelO.some_of (v:=v) (o:=mA f) (by rw[<-l];exact r f);exact cz_0 I.kIn O (c.get f) c.hd n hu (cf_6 ru) (h u _ (I.tok _) ru)
def as_2{m:Str}{g:Addr}{pl:Sem Bool}{Q:Value×List Value->Shared->Prop}(I:Inv X zd σ H s)(e:H a=some (.ins C dx fs))(c:Cls X.K C)(k:Meth X.K C m g)(l:fs.lookup m=none)
  (h:Q (.ref g,[.ref a]) s):wpAny (model X.prog X.w) A (getMethod (.ref a) m pl) Q E s:=by
 obtain⟨mA,O,r,_,_,_⟩:=be_8 I.hok e;have hn:mA m=none:=RelO.none_of (by rw[<-l];exact r m);exact cm_2 I.kIn O (c.get m) k.at_ k.fn hn h
def bt_2{y:V}{u:Value}{Q:Unit->Shared->Prop}(I:Inv X zd σ H s)(e:H a=some (.ins C dx fs))(c:Cls X.K C)(n:NoAttr X.K C f)(hl:fs.length < 1000)(ry:RelV y u)
  (h:∀s',Inv X zd σ (upd H a (.ins C dx (Fk f y fs))) s'->Q .unit s'):wpAny (model X.prog X.w) A (setAttr (.ref a) f u) Q E s:=by
 obtain⟨mA,O,r,wi,_,ho⟩:=be_8 I.hok e;have hz:(fs.map (·.1)).length<=sizeLine:=by rw[A3,D6];omega
 refine cz_1 I.kIn O c.sa c.po n.taker c.hd wi hz λh' O' sb=>h _ ?_;have hd:∃o,h'.get? dx=some o:=let⟨o,_,_,e',_⟩:=O'.ns;⟨o,e'⟩;refine I.write (x:=a) (e:=dx) (by rw[e];exact True.intro) (.inr ho) (λb q hb z=>(sb.2 b hb).trans z) hd ?_;refine⟨by rw[Aq O.ne];exact ho, ?_,O.ne,O'.obj,_,O'.ns,λg=> ?_,λg hg=> ?_⟩
 ·have:=an_4 f y fs;omega
 ·show RelO ((Fk f y fs).lookup g) (if g=f then some u else mA g);rw[an_3]
  by_cases q:g=f
  ·rw[if_pos q,if_pos q];exact ry
  ·rw[if_neg q,if_neg q];exact r g
 ·by_cases q:g=f
  ·rw[q];exact(aj_7 f y fs).1
  ·refine(aj_7 f y fs).2 g (wi g λz=>hg ?_);show(if g=f then some u else mA g)=none;rw[if_neg q];exact z
def Inv.made(I:Inv X zd σ H s):Inv X zd σ (upd (upd H s.heap.objs.size (.own (s.heap.objs.size + 1))) (s.heap.objs.size + 1) (.ins C s.heap.objs.size []))
  {s with heap:=(s.heap.push emptyDict).push (instObj C s.heap.objs.size)}:=by
 have e1:(s.heap.push emptyDict).get? s.heap.objs.size=some emptyDict:=B9 s.heap rfl;have e2:((s.heap.push emptyDict).push (instObj C s.heap.objs.size)).get? (s.heap.objs.size + 1)=some (instObj C s.heap.objs.size):=by
  have:=B9 (s.heap.push emptyDict) (o:=instObj C s.heap.objs.size) rfl
  rwa[L7]at this
 have e3:(s.heap.push emptyDict).Ns s.heap.objs.size (λ_=>none):=⟨emptyDict, #[],_,e1,rfl,(λe he=>absurd he (by simp)),λ_=>rfl⟩;have I1:=I.laid (a:=s.heap.objs.size) (o:=.own (s.heap.objs.size + 1)) (h':=s.heap.push emptyDict) (t':=s.toks) (λb u q=>A4 _ q) (B5 _) ⟨_,e1⟩;refine I1.laid (a:=s.heap.objs.size + 1) (o:=.ins C s.heap.objs.size []) (t':=s.toks) (λb u q=>A4 _ q) (S8 (L7 _ _)) ?_;have ne:s.heap.objs.size≠s.heap.objs.size + 1:=C9 (Q8 _);refine⟨by rw[Aq ne,Bj],L0 _,ne,e2,λ_=>none,(Heap.Ns1.of_empty e3).at λo q=>A4 _ q,λ_=>True.intro,λy hy=>absurd rfl hy⟩
def cz_2{prog:Program}{w:World}{env:Env}{e:Expr}{f:Str}{pos:Pos}{s:Shared}{Q:AA}(hb:attributeBase e f env (eval e env)=eval e env)
  (h:wpAny (model prog w) A (eval e env) (λo s₁=>wpAny (model prog w) A (getAttr o f true) Q E s₁) E s):wpAny (model prog w) A (eval (.Attribute e f pos) env) Q E s:=
 Attribute_any_ h (by rw[arm_eval_Attribute,hb])
end
def tFld(K:Frag)(ta:TE)(f:Str):TE:=λ σ H Q=>ta σ H λx H1=>∃a C dx fs v,x=.ref a/\H1 a=some (.ins C dx fs)/\Cls K C/\NoAttr K C f/\fs.lookup f=some v/\Q v H1
def sFld(K:Frag)(ta tv:TE)(f:Str):TS:=λD σ H=>tv σ H λy H1=>ta σ H1 λx H2=>∃a C dx fs,x=.ref a/\H2 a=some (.ins C dx fs)/\Cls K C/\NoAttr K C f/\fs.length < 1000/\
 D.nx σ (upd H2 a (.ins C dx (Fk f y fs)))
section
variable{X:Cx}{o e value:Expr}{f:Str}{pos pos' zh:Pos}{ta tv:TE}
def bt_3(he:PE X e ta)(hb:attributeBase e f X.env (eval e X.env)=eval e X.env):PE X (.Attribute e f pos) (tFld X.K ta f):=by
 intro zd s σ H Q I h;refine cz_2 hb (Ay (he zd s σ H _ I h) λu s1 ⟨x,H1,I1,rx,a,C,dx,fs,v,ex,ea,c,n,l,q⟩=> ?_);subst ex;obtain rfl:u=Value.ref a:=rx;exact bt_1 I1 ea c n l λu' s2 I2 ru=>⟨v,H1,I2,ru,q⟩
def bt_4(ha:PE X o ta)(hv:PE X value tv)(hs:swapsWith value (some (.Attribute o f pos')) pos.line X.env=pure false):PS X (.Assign [.Attribute o f pos'] value pos) (sFld X.K ta tv f):=by
 intro zd s σ H D I h;refine V2 (Ay (hv zd s σ H _ I h) λu s1 ⟨y,H1,I1,ry,q⟩=>Ay (ha zd s1 σ H1 _ I1 q) λov s2 ⟨x,H2,I2,rx,a,C,dx,fs,ex,ea,c,n,l,q2⟩=> ?_) hs;subst ex;obtain rfl:ov=Value.ref a:=rx;exact bt_2 I2 ea c n l ry λs3 I3=>⟨σ,_,I3,q2⟩
end
section
variable{X:Cx}{zd:AE}{σ:St}{H:Hp}{s:Shared}{A:Around}{E:AA}{Q:AA}{c:Value}{b:Bool}
inductive TyOf(K:Frag)(H:Hp):V->Value->Prop where
 |non:TyOf K H .non (.type "NoneType")
 |bl (x:Bool):TyOf K H (.bl x) (.type "bool")
 |int (i:Int):TyOf K H (.int i) (.type "int")
 |str (x:Str):TyOf K H (.str x) (.type "str")
 |flt (x:UInt64):TyOf K H (.flt x) (.type "float")
 |lst {a:Addr} {xs:List V} (e:H a=some (.lst xs)):TyOf K H (.ref a) (.type "list")
 |frz {a:Addr} {o:Obj} {xs:List V} (e:H a=some (.frz o (.lst xs))):TyOf K H (.ref a) (.type "list")
 |tup {a:Addr} {xs:List V} (e:H a=some (.tup xs)):TyOf K H (.ref a) (.type "tuple")
 |dK {a:Addr} {kvs:List (Ae×V)} (e:H a=some (.dK kvs)):TyOf K H (.ref a) (.type "dict")
 |dT {a:Addr} {kvs:List (List Ae×V)} (e:H a=some (.dT kvs)):TyOf K H (.ref a) (.type "dict")
 |ins {a C dx:Addr} {fs:List (Str×V)} (e:H a=some (.ins C dx fs)) (cl:Cls K C) (ha:findIn K (.ref C) "__class__" =some (some (.builtin "object.__class__")))
   (hn:specialIn K (.builtin "object.__class__") "__get__" =some (some (.builtin "getset_descriptor.__get__"))) (htk:takesIn K (.builtin "object.__class__")=some true)
   (hm:mroIn K C (.type "object")=some true):TyOf K H (.ref a) (.ref C)
end
structure Room(k:Nat)(A:Around):Prop where
 hd:A.handled=none
 dp:A.depth + 3 * k + 5 < recursionLimit
 un:A.units + 16 * k + 200 < cLine
theorem Room.in1{k:Nat}{A:Around}(r:Room (k + 1) A):Room k A.in1:=
 ⟨r.hd,by have:=r.dp;show A.depth + 3 * k + 5 < _;omega,by have:=r.un;show A.units + 1 + 16 * k + 200 < _;omega⟩
def bt_5{A:Around}{C:Addr}{us:List Value}{kw:List (Str×Value)}:(A.under (.builtin "type.__call__" ⟨.ref C::us,kw⟩)).depth=A.depth + 1:=by
 first|rfl|simp[Around.under,Code.weight,Code.isCreation,Code.isGuard,Code.isCaller,Code.frames,Code.isFrame,guardIds]
def bt_6{A:Around}{C:Addr}{us:List Value}{kw:List (Str×Value)}:(A.under (.builtin "type.__call__" ⟨.ref C::us,kw⟩)).units=A.units + 1:=by
 first|rfl|simp[Around.under,Code.cUnits,Code.frames,Code.isFrame]
theorem Room.depth{k:Nat}{A:Around}(r:Room k A):A.depth < recursionLimit:=by have:=r.dp;omega
def tNil:TA:=λ_ H Q=>Q [] H
def cm_4(ta:TE)(tr:TA):TA:=λ σ H Q=>ta σ H λx H1=>tr σ H1 λxs H2=>Q (x::xs) H2
section
variable{X:Cx}{e:Expr}{es:List Expr}{te:TE}{t:TA}{pos:Pos}
def r_0:PA X [] tNil:=λ_ _ _ _ H Q I h=>U4 ⟨[],H,I,.nil,h⟩
def i_7(ha:PE X e te)(hr:PA X es t)(hs:starEach (e::es) X.env=(false,eval e X.env)::starEach es X.env:=by rfl):PA X (e::es) (cm_4 te t):=by
 intro pos zd s σ H Q I h;rw[hs];show wpAny _ _ (spliced ((false,eval e X.env)::backTo pos (starEach es X.env))) _ _ s;refine O9 (Ay (ha zd s σ H _ I h) λu s1 ⟨x,H1,I1,r1,q1⟩=> ?_);exact Ay (hr pos zd s1 σ H1 _ I1 q1) λus s2 ⟨xs,H2,I2,r2,q2⟩=>⟨x::xs,H2,I2,.cons r1 r2,q2⟩
def tTup(t:TA):TE:=λ σ H Q=>t σ H λxs H1=>xs.length<=sizeLine/\∀p,H1 p=none->Q (.ref p) (upd H1 p (.tup xs))
def tLst(t:TA):TE:=λ σ H Q=>t σ H λxs H1=>xs.length<=sizeLine/\∀p,H1 p=none->Q (.ref p) (upd H1 p (.lst xs))
def dl_8{x1}(h:PA X es t):PE X (.Tuple es x1 pos) (tTup t):=by
 intro zd s σ H Q I hq;refine wpAny_Tuple_spliced (Ay (h pos zd s σ H _ I hq) λus s1 ⟨xs,H1,I1,r,z,q⟩=>⟨by rw[<-r.length];exact z, ?_⟩);have hf:H1 s1.heap.objs.size=none:=I1.hok.fresh (B5 _);refine⟨.ref s1.heap.objs.size,upd H1 s1.heap.objs.size (.tup xs),I1.laid (t':=s1.toks) (λb u e=>A4 _ e) (B5 _) ?_,rfl,q _ hf⟩;exact⟨z,us,r,⟨_,B9 _ rfl,rfl,_,rfl⟩⟩
def bt_7(h:PA X es t):PE X (.List es pos) (tLst t):=by
 intro zd s σ H Q I hq;refine wpAny_List_spliced (Ay (h pos zd s σ H _ I hq) λus s1 ⟨xs,H1,I1,r,z,q⟩=>⟨by rw[<-r.length];exact z, ?_⟩);have hf:H1 s1.heap.objs.size=none:=I1.hok.fresh (B5 _);refine⟨.ref s1.heap.objs.size,upd H1 s1.heap.objs.size (.lst xs),I1.laid (t':=s1.toks) (λb u e=>A4 _ e) (B5 _) ?_,rfl,q _ hf⟩;exact⟨z,us,0,r,B9 _ rfl⟩
end
abbrev Sp:=List V->Hp->VK->XK->Prop
abbrev CXT:=List Env->Hp->Shared->XK->Value->Shared->Prop
structure Env0(P:Program)(w:World)(K:Frag)(mg:AB)(base:Heap)(A:Around)(outer:List Env)(s:Shared)(H:Hp):Prop where
 frames:A.frames=some outer
 mod:Mod K mg base
 bs:∀b o,base.get? b=some o->s.heap.get? b=some o/\H b=none
 bsz:base.objs.size<=s.heap.objs.size
 funs:s.heap.FunFrames base outer
 frf:∀b∈frs outer,H b=none
 hok:HOk P w H s.heap
 bare:AllBare s.gens
def CE(outer:List Env)(P:Program)(w:World)(H:Hp)(s:Shared)(Q:VK)(u:Value)(s':Shared):Prop:=
 ∃v H',s'.os=s.os/\AllBare s'.gens/\Un (frs outer) [] H H' s.heap s'.heap/\HOk P w H' s'.heap/\RelV v u/\Q v H'
def CR(CX:CXT)(outer:List Env)(P:Program)(w:World)(H:Hp)(s:Shared)(Q:VK)(E:XK)(r:Result)(s':Shared):Prop:=
 match r with
 | .ok (.ret u)=>CE outer P w H s Q u s'
 | .ok _=>False
 | .error e=>CX outer H s E e s'
structure FnOk(P:Program)(w:World)(K:Frag)(mg:AB)(base:Heap)(CX:CXT)(k:Nat)(f:Addr)(fd:FuncData)(ps:List Str)(sp:Sp):Prop where
 len:∀vs H Q E,sp vs H Q E->vs.length=ps.length
 run:∀(A:Around) (outer:List Env) (s:Shared) (H:Hp) (args:Args) (us:List Value) (vs:List V) (Q:VK) (E:XK),Room k A->Env0 P w K mg base A outer s H->BindsTo s fd args (ps.zip us)->Vals vs us->sp vs H Q E->
  codeAny (model P w) A (.call (.ref f) args) (CR CX outer P w H s Q E) s
def Env0.make{P:Program}{w:World}{K:Frag}{mg:AB}{base:Heap}{A:Around}{outer:List Env}{s:Shared}{H:Hp}(e:Env0 P w K mg base A outer s H)(C:Addr)(us:List Value)(kw:List (Str×Value)):
  Env0 P w K mg base (A.under (.builtin "type.__call__" ⟨.ref C::us,kw⟩)) outer s H:=⟨by first|exact e.frames|(simpa[Around.under,Code.envs,Code.isFrame,pushEnvs] using e.frames),e.mod,e.bs,e.bsz,e.funs,e.frf,e.hok,e.bare⟩
theorem Env0.in1{P:Program}{w:World}{K:Frag}{mg:AB}{base:Heap}{A:Around}{outer:List Env}{s:Shared}{H:Hp}(e:Env0 P w K mg base A outer s H):
  Env0 P w K mg base A.in1 outer s H:=⟨e.frames,e.mod,e.bs,e.bsz,e.funs,e.frf,e.hok,e.bare⟩
section
variable{X:Cx}{zd:AE}{σ:St}{H:Hp}{s s':Shared}
def Inv.env0(I:Inv X zd σ H s):Env0 X.prog X.w X.K X.mg X.base X.A X.stack s H:=
 ⟨I.ok.frames,I.ok.mod,I.bs,C5 I.ok.bsz I.sz,I.stack,I.stkFree,I.hok,I.bare⟩
def Inv.after{Q:VK}{u:Value}(I:Inv X zd σ H s)(h:CE X.stack X.prog X.w H s Q u s'):EP X zd σ Q u s':=by
 obtain⟨v,H',os,bare,un,hok,r,q⟩:=h;obtain⟨hh,g,d,t,os'⟩:=s';obtain rfl:os'=s.os:=os;exact⟨v,H',I.call (h':=hh) (g':=g) (d':=d) (t':=t) (ch:=[]) un hok bare (λb z=>absurd z (by simp)),r,q⟩
end
def Binds(K:Frag)(fd:FuncData)(ps:List Str)(ds:List Value):Prop:=
 ∀(s:Shared) (us:List Value),K.In s.heap->(us ++ ds).length=ps.length->BindsTo s fd ⟨us,[]⟩ (ps.zip (us ++ ds))
def Binds.all{K:Frag}{fd:FuncData}{ps:List Str}(h:∀us:List Value,us.length=ps.length->bindArgs fd ⟨us,[]⟩=pure (ps.zip us)):Binds K fd ps []:=λs us _ hl=>by
 rw[D4]at hl⊢;exact .of_eq (h us hl)
section
variable{X:Cx}{CX:CXT}{k:Nat}{f C:Addr}{fd:FuncData}{ps:List Str}{sp:Sp}{dvs:List V}{ds:List Value}{E:XK}{x m:Str}{p pos zg:Pos}{e o:Expr}{es:List Expr}{ta:TE}{t:TA}
structure Mk(K:Frag)(C f:Addr):Prop where
 makes:makesIn K C=true
 init:findIn K (.ref C) "__init__" =some (some (.ref f))
 fn:isFn K (.ref f)=true
 kp:keepIn K (.ref C)=true
end
section
variable{X:Cx}{CX:CXT}{k:Nat}{f C:Addr}{fd:FuncData}{ps ks:List Str}{sp:Sp}{E:XK}{x m:Str}{p pos zg gk:Pos}{e o:Expr}{es:List Expr}{kws:List Keyword}{te ta:TE}{t tk:TA}{nm:Option Str}
structure KBinds(K:Frag)(fd:FuncData)(ps ks:List Str)(g:List Value->List Value->List Value)(gV:List V->List V->List V):Prop where
 to:∀(s:Shared) (us ws:List Value),K.In s.heap->(g us ws).length=ps.length->BindsTo s fd ⟨us,ks.zip ws⟩ (ps.zip (g us ws))
 rel:∀{vs:List V} {us:List Value} {zs:List V} {ws:List Value},Vals vs us->Vals zs ws->Vals (gV vs zs) (g us ws)
variable{g:List Value->List Value->List Value}{gV:List V->List V->List V}
end
structure FnScope(N P:List Str)(sc:Scope):Prop where
 kind:sc.kind=.function
 co:sc.isCoroutine=false
 gen:sc.isGenerator=false
 nd:N.Nodup
 pre:N.take P.length=P
 par:∀x∈P,sc.names.lookup x=some .local\/sc.names.lookup x=some .cell
 nofree:∀y∈sc.names,y.2≠ .free
theorem ba_2{kindOf:Str->Option NameKind}{x:Str}:∀{binds:List (Str×Value)} {m:AB},(∀v,(x,v)∉binds)->bindL kindOf binds m x=m x
 | [],_,_=>rfl
 |(n,v)::r,m,h=>by
  unfold bindL;rw[ba_2 λw hw=>h w (C7 _ hw)]
  split
  ·have:x≠n:=by rintro rfl;exact h v D5
   simp[this]
  ·rfl
theorem ba_3{kindOf:Str->Option NameKind}{x:Str}:∀{binds:List (Str×Value)} {m:AB},(∀v,(x,v)∉binds)->bindC kindOf binds m x=m x
 | [],_,_=>rfl
 |(n,v)::r,m,h=>by
  unfold bindC;rw[ba_3 λw hw=>h w (C7 _ hw)]
  split
  ·rfl
  ·have:x≠n:=by rintro rfl;exact h v D5
   simp[this]
theorem ba_4{kindOf:Str->Option NameKind}{x:Str}{v:Value}:∀{P:List Str} {vs:List Value} {i:Nat} {m:AB},P.Nodup->P[i]? =some x->vs[i]? =some v->kindOf x=some .local->
  bindL kindOf (P.zip vs) m x=some v
 | [],_,_,_,_,h,_,_=>by simp at h
 |_::_,[],_,_,_,_,h,_=>by simp at h
 |p::P,w::vs,0,m,nd,h1,h2,hk=>by
  simp at h1 h2;subst h1;subst h2;show bindL kindOf ((p,w)::P.zip vs) m p=_;unfold bindL;rw[ba_2 λv hv=>(N4.mp nd).1 (W6 hv).1,if_pos hk];simp
 |p::P,w::vs,i + 1,m,nd,h1,h2,hk=>by
  show bindL kindOf ((p,w)::P.zip vs) m x=_;unfold bindL;exact ba_4 (i:=i) (N4.mp nd).2 (by simpa using h1) (by simpa using h2) hk
theorem ba_5{kindOf:Str->Option NameKind}{x:Str}{v:Value}:∀{P:List Str} {vs:List Value} {i:Nat} {m:AB},P.Nodup->P[i]? =some x->vs[i]? =some v->kindOf x≠some .local->
  bindC kindOf (P.zip vs) m x=some v
 | [],_,_,_,_,h,_,_=>by simp at h
 |_::_,[],_,_,_,_,h,_=>by simp at h
 |p::P,w::vs,0,m,nd,h1,h2,hk=>by
  simp at h1 h2;subst h1;subst h2;show bindC kindOf ((p,w)::P.zip vs) m p=_;unfold bindC;rw[ba_3 λv hv=>(N4.mp nd).1 (W6 hv).1,if_neg hk];simp
 |p::P,w::vs,i + 1,m,nd,h1,h2,hk=>by
  show bindC kindOf ((p,w)::P.zip vs) m x=_;unfold bindC;exact ba_5 (i:=i) (N4.mp nd).2 (by simpa using h1) (by simpa using h2) hk
def start(N:List Str)(vs:List V):St:=vs.map some ++ List.replicate (N.length - vs.length) none
def Ex(CX:CXT)(P:Program)(w:World)(K:Frag)(mg:AB)(base:Heap)(N:List Str)(qual:Str)(scope:Scope)(f:Addr)(cd:Value)(A:Around)(outer:List Env)(s:Shared)(H:Hp)(E:XK):Cx where
 prog:=P
 w:=w
 K:=K
 mg:=mg
 base:=base
 A:=A.deeper (envOfC qual scope s.heap.objs.size f cd)
 N:=N
 s₀:=s
 H₀:=H
 env:=envOfC qual scope s.heap.objs.size f cd
 outer:=outer
 stack:=envOfC qual scope s.heap.objs.size f cd::outer
 ex:=[]
 calm:=true
 fn:=λ_=>true
 pn:=[]
 xe:=λe s'=>wpAny (model P w) (A.deeper (envOfC qual scope s.heap.objs.size f cd)) (leaving (envOfC qual scope s.heap.objs.size f cd) e) (λ_ s''=>CX outer H s E e s'') (λe' s''=>CX outer H s E e' s'') s'
def bk_4{sc:Scope}{n:Nat}{x:Str}(h:sc.names.lookup x=some .cell):∃c,(cellsFrom n sc.names []).lookup x=some c:=by
 have q:=ZB6 sc.names n [] (.inl h);exact L8.mp q
def cf_7{CX:CXT}{P:Program}{w:World}{K:Frag}{mg:AB}{base:Heap}{N ps:List Str}{qual:Str}{scope:Scope}{f:Addr}{cd:Value}{A:Around}{outer:List Env}{s s1:Shared}{H:Hp}{E:XK}{us:List Value}{vs:List V}
  (S:FnScope N ps scope) (hd:A.handled=none) (e0:Env0 P w K mg base A outer s H) (hl:vs.length=ps.length) (r:Vals vs us)
  (x:InCallC s s.heap.objs.size (bindL (envOfC qual scope s.heap.objs.size f cd).kindOf (ps.zip us) λ_=>none) (cellsFrom (s.heap.objs.size + 1) scope.names []) (bindC (envOfC qual scope s.heap.objs.size f cd).kindOf (ps.zip us) λ_=>none) s1):
  Inv (Ex CX P w K mg base N qual scope f cd A outer s H E) [] (start N vs) H s1:=by
 have hpl:ps.length<=N.length:=by have:=K4 List.length S.pre;rw[V7]at this;omega
 obtain⟨h1,tk,rfl,hk⟩:=x.done;have noA:∀b:Addr,b∉(Ex CX P w K mg base N qual scope f cd A outer s H E).ex:=λb z=>absurd (show b∈([]:List Addr) from z) (by simp);refine⟨⟨e0.mod,S.kind,rfl,rfl,B5 _,λy z c h1 h2=> ?_,λy hy=> ?_,λy c _ h=> ?_,λ_=>hd,Around.frames_deeper e0.frames,.inr ⟨rfl,rfl⟩,λb z=>absurd z (noA b),e0.bs,e0.bsz,λb _ _=>noA b,λb z=>absurd z (noA b),e0.funs,e0.frf⟩,
  rfl,e0.bare,Un.kept hk,⟨_,x.toInCall.ns,λi y v h1 h2 h3=> ?_⟩,λy c h=>⟨_,x.cell y c h⟩,e0.hok.fresh (B5 _),λy c h=> ?_,λp hp=>absurd (show p∈([]:AE) from hp) (by simp),e0.hok.kept hk, ?_⟩
 ·exact name_of_addr x.apart (N3 h1) (N3 h2)
 ·have hy:scope.names.lookup y=some .cell\/scope.names.lookup y=some .free:=hy;rcases hy with hy|hy
  ·exact bk_4 hy
  ·exact absurd rfl (S.nofree _ (N3 hy))
 ·exact Q0 (x.above y c (N3 h))
 ·have hi:i < vs.length:=by
   unfold start at h2
   by_cases hi:i < vs.length
   ·exact hi
   ·rw[G6 (by simpa using hi)]at h2;rw[K3]at h2
    split at h2 <;> cases h2
  have ha:vs[i]? =some v:=by
   unfold start at h2;rw[D8 (by simpa using hi),A9]at h2;cases e:vs[i]? with
   |none=>rw[e]at h2;cases h2
   |some a=>rw[e]at h2;cases h2;rfl
  obtain⟨u,hu,rv⟩:=r.get ha;have hp:ps[i]? =some y:=by
   rw[<-S.pre,List.getElem?_take_of_lt ()];exact h1
  have ndP:ps.Nodup:=by rw[<-S.pre];exact S.nd.sublist (List.take_sublist _ _)
  refine⟨u,rv, ?_⟩;rcases S.par y (K0 hp) with k|k
  ·exact .inl ⟨k,ba_4 ndP hp hu k⟩
  ·obtain⟨c,e⟩:=bk_4 (n:=s.heap.objs.size + 1) k;refine .inr ⟨.inl k,c,e, ?_⟩;have q:=x.cell y c e;rw[ba_5 ndP hp hu (by show scope.names.lookup y≠_;rw[k];decide)]at q;exact q
 ·exact e0.hok.fresh (Q0 (x.above y c (N3 h)))
 ·unfold start;show _=N.length;rw[B8,A3,K6];omega
section
variable{X:Cx}{x:Str}{p pos:Pos}{e:Expr}{es:List Expr}{t:TA}{id T:String}{r:List V->Hp->VK->Prop}
def tCB(r:List V->Hp->VK->Prop)(t:TA):TE:=λ σ H Q=>t σ H λvs H1=>r vs H1 Q
def bk_5(hc:CallR X (.builtin id) r)(hg:Gl X x)(hm:X.mg x=none)(hv:bootBuiltins x=some (.builtin id))(ha:PA X (e::es) t)(hn:x≠ "__name__" :=by decide)(hdb:AG x:=by decide)
  (he:starEach (e::es) X.env=(false,eval e X.env)::starEach es X.env:=by rfl) (hpl:(backTo pos (starEach es X.env)).any (·.1)=false:=by rfl):PE X (.Call (.Name x p) (e::es) [] pos) (tCB r t):=by
 intro zd s σ H Q I h;refine M4 (ae_7 I hg hm hv ?_ hn hdb);exact PyProof.Rows.callWith_builtin1 (Ay (ha pos zd s σ H _ I h) λus s1 ⟨vs,H1,I1,r1,q1⟩=>hc zd s1 σ H1 vs us Q I1 r1 q1) he hpl
def cf_8(hc:CallR X (.type T) r)(hg:Gl X x)(hm:X.mg x=none)(hv:bootBuiltins x=some (.type T))(ha:PA X (e::es) t)(hn:x≠ "__name__" :=by decide)(hdb:AG x:=by decide)
  (he:starEach (e::es) X.env=(false,eval e X.env)::starEach es X.env:=by rfl) (hpl:(backTo pos (starEach es X.env)).any (·.1)=false:=by rfl):PE X (.Call (.Name x p) (e::es) [] pos) (tCB r t):=by
 intro zd s σ H Q I h;refine M4 (ae_7 I hg hm hv ?_ hn hdb);exact O8 (Ay (ha pos zd s σ H _ I h) λus s1 ⟨vs,H1,I1,r1,q1⟩=>hc zd s1 σ H1 vs us Q I1 r1 q1) he hpl
end
end L2
namespace HT
open PySem PyProof.Rows
section
open PySem.SeqAt
open PySem.AutoSeq1 (wpAny_loadPart')
open PySem.MeetsSeq PySem.MeetsSeq2 PySem.MeetsSeq3
end
section
variable{prog:Program}{w:World}{A:Around}{E:AA}{s:Shared}
def cat_tup{t b:Addr}{vs ws:List Value}{Q:AA}(ht:IsTup s.heap t vs.toArray)(hb:IsTup s.heap b ws.toArray)(hv:vs≠ [])
  (h1:ws= []->Q (.ref t) s) (h2:ws≠ []->Q (.ref s.heap.objs.size) {s with heap:=s.heap.push {cls:=.type "tuple",data:=.seq (vs ++ ws).toArray}})
  (hsz:vs.length + ws.length<=sizeLine):wpAny (model prog w) A (binaryOp .Add (.ref t) (.ref b)) Q E s:=by
 obtain⟨⟨cls,dd,data,sl⟩,ho,hc,n,hd⟩:=id ht;obtain⟨⟨df,dd2,data2,sl2⟩,ho2,hc2,n2,hd2⟩:=id hb;simp only at hc hd hc2 hd2;subst hc hd hc2 hd2;have e:vs.toArray ++ ws.toArray=(vs ++ ws).toArray:=by simp
 by_cases hw:ws= []
 ·exact ZA6 ⟨_,ho,rfl⟩ ⟨_,ho2,rfl⟩ Z5 ZC5 U5 U2 (T5 _ _)
   (tuple_addW1 t b vs.toArray ws.toArray n n2 dd dd2 sl sl2 (by simpa using hv) (by simp[hw])) ⟨ho,ho2,h1 hw⟩
 ·refine ZA6 ⟨_,ho,rfl⟩ ⟨_,ho2,rfl⟩ Z5 ZC5 U5 U2 (T5 _ _)
   (tuple_addW2 t b vs.toArray ws.toArray n n2 dd dd2 sl sl2 (by simpa using hv) (by simpa using hw) (by rw[D0,D0];exact hsz)) ⟨ho,ho2, ?_⟩
  rw[e];exact h2 hw
def sIx(n d:Nat):Option Int->Nat
 |none=>d
 |some v=>if v < 0 then(v + (n:Int)).toNat else min v.toNat n
end
end HT
namespace L2
open PySem PySem.Spec PyProof.Rows
abbrev TO:=St->Hp->(Option Int->Hp->Prop)->Prop
section
variable{X:Cx}{e:Expr}{te:TE}{lo hi:Option Expr}{tl th:TO}{pos p2:Pos}
def SlR(X:Cx)(r:V->Option Int->Option Int->Hp->VK->Prop):Prop:=
 ∀(zd:AE) (s:Shared) (σ:St) (H:Hp) (x:V) (v vl vu:Value) (lo hi:Option Int) (sl:Addr) (Q:VK),Inv X zd σ H s->RelV x v->s.heap.IsSliceOf sl vl vu .none->IsPart vl lo->IsPart vu hi->r x lo hi H Q->
  ∃T id,typeLookup (.type T) "__getitem__" =pure (some (.builtin id))/\s.TypeIs v T/\wpAny (model X.prog X.w) X.A (getItem v (.ref sl)) (EP X zd σ Q) X.xe s
def SlR.or{r r':V->Option Int->Option Int->Hp->VK->Prop}(h:SlR X r)(h':SlR X r'):SlR X (λx lo hi H Q=>r x lo hi H Q\/r' x lo hi H Q):=by
 intro zd s σ H x v vl vu lo hi sl Q I rx hs pl pu q;rcases q with q|q
 ·exact h zd s σ H x v vl vu lo hi sl Q I rx hs pl pu q
 ·exact h' zd s σ H x v vl vu lo hi sl Q I rx hs pl pu q
def dt_5(K:Frag):R2:=λx y H Q=>∃a b xs ys,x=.ref a/\y=.ref b/\SqT K H a xs/\SqT K H b ys/\xs≠ []/\xs.length + ys.length<=sizeLine/\
 (ys= []->Q (.ref a) H)/\(ys≠ []->∀p,H p=none->Q (.ref p) (upd H p (.tup (xs ++ ys))))
def Vals.nil_iff{xs:List V}{us:List Value}(r:Vals xs us):us= []↔xs= []:=by
 cases r with
 |nil=>simp
 |cons _ _=>simp
def cz_4:OpR X (binaryOp .Add) (dt_5 X.K):=by
 intro zd s σ H x y v u Q I rx ry h;obtain⟨a,b,xs,ys,rfl,rfl,ha,hb,hx,hz,q1,q2⟩:=h;cases rx;cases ry;obtain⟨its,r1,p1,_⟩:=I.tuple ha;obtain⟨bg,r2,p2,_⟩:=I.tuple hb;refine HT.cat_tup p1 p2 (λz=>hx (r1.nil_iff.mp z)) (λz=>⟨.ref a,H,I,rfl,q1 (r2.nil_iff.mp z)⟩) (λz=> ?_) (by rw[<-r1.length,<-r2.length];exact hz);refine⟨.ref s.heap.objs.size,_,I.laid (t':=s.toks) (o:=.tup (xs ++ ys)) (λb ob q=>A4 _ q) (B5 _) ?_,rfl,q2 (λw=>z (r2.nil_iff.mpr w)) _ (I.hok.fresh (B5 _))⟩;exact⟨by rw[B8];exact hz,_,r1.append r2,IsTup.new _ _⟩
end
def ixN(n:Nat)(i:Int):Option Nat:=if 0<=i then(if i < n then some i.toNat else none) else if -(n:Int)<=i then some (i + n).toNat else none
def atI{α:Type}(xs:List α)(i:Int):Option α:=(ixN xs.length i).bind λj=>xs[j]?
def cz_5{n:Nat}{i:Int}{j:Nat}(h:ixN n i=some j):seqIndex? i n=some j/\j < n/\ -(n:Int)<=i/\i < n:=by
 unfold ixN at h
 by_cases h0:0<=i
 ·rw[if_pos h0]at h
  by_cases h1:i < n
  ·rw[if_pos h1]at h;have e:i.toNat=j:=J7 h;exact⟨by rw[seqIndex_of h0 h1,e],by omega,by omega,h1⟩
  ·rw[if_neg h1]at h;cases h
 ·rw[if_neg h0]at h
  by_cases h1: -(n:Int)<=i
  ·rw[if_pos h1]at h;have e:(i + n).toNat=j:=J7 h;exact⟨by rw[seqIndex_neg () h1,e],by omega,h1,by omega⟩
  ·rw[if_neg h1]at h;cases h
def be_9{α:Type}{xs:List α}{i:Int}{v:α}(h:atI xs i=some v):∃j,seqIndex? i xs.length=some j/\xs[j]? =some v/\j < xs.length/\ -(xs.length:Int)<=i/\i < xs.length:=by
 unfold atI at h;cases e:ixN xs.length i with
 |none=>rw[e]at h;cases h
 |some j=>
  rw[e]at h;obtain⟨h1,h2,h3,h4⟩:=cz_5 e;exact⟨j,h1,h,h2,h3,h4⟩
def by_6(b:Expr):Prop:=∀o i,subscripted b false o i=operate [o,i] (getItem o i)
def IxR(X:Cx)(r:R2):Prop:=
 ∀(value slice:Expr) (zd:AE) (s:Shared) (σ:St) (H:Hp) (x y:V) (v u:Value) (Q:VK),Inv X zd σ H s->RelV x v->RelV y u->r x y H Q->
  subscripted slice false v u=operate [v,u] (getItem v u)->wpAny (model X.prog X.w) X.A (subscriptTail value slice v u) (EP X zd σ Q) X.xe s
def MtR(X:Cx)(id:String)(r:V->List V->Hp->VK->Prop):Prop:=
 ∀(zd:AE) (s:Shared) (σ:St) (H:Hp) (x:V) (xs:List V) (v:Value) (us:List Value) (Q:VK),Inv X zd σ H s->RelV x v->Vals xs us->r x xs H Q->
  wpAny (model X.prog X.w) X.A (call (.builtin id) (v::us)) (EP X zd σ Q) X.xe s
section
variable{X:Cx}{a b:Expr}{ta tb:TE}{pos:Pos}
def IxR.or{r r':R2}(h:IxR X r)(h':IxR X r'):IxR X (λx y H Q=>r x y H Q\/r' x y H Q):=by
 intro value slice zd s σ H x y v u Q I rx ry q hs;rcases q with q|q
 ·exact h value slice zd s σ H x y v u Q I rx ry q hs
 ·exact h' value slice zd s σ H x y v u Q I rx ry q hs
def MtR.or{id:String}{r r':V->List V->Hp->VK->Prop}(h:MtR X id r)(h':MtR X id r'):MtR X id (λx xs H Q=>r x xs H Q\/r' x xs H Q):=by
 intro zd s σ H x xs v us Q I rx rs q;rcases q with q|q
 ·exact h zd s σ H x xs v us Q I rx rs q
 ·exact h' zd s σ H x xs v us Q I rx rs q
def dt_6{r:R2}(hr:IxR X r)(ha:PE X a ta)(hb:PE X b tb)(hs:by_6 b):PE X (.Subscript a b pos) (tOp r ta tb):=by
 intro zd s σ H Q I h;exact Subscript_ (binT ha hb I h λv u s2 x y H2 I2 rx ry q=>hr a b zd s2 σ H2 x y v u Q I2 rx ry q (hs _ _))
def rIxL(K:Frag):R2:=λx y H Q=>∃p xs i v,x=.ref p/\y=.int i/\SqL K H p xs/\atI xs i=some v/\Q v H
def rIxT(K:Frag):R2:=λx y H Q=>∃p xs i v,x=.ref p/\y=.int i/\SqT K H p xs/\atI xs i=some v/\Q v H
def rIxS:R2:=λx y H Q=>∃z i c,x=.str z/\y=.int i/\z.length<=sizeLine/\atI z.cps.toList i=some c/\Q (.str ⟨#[c]⟩) H
def cz_6:IxR X (rIxL X.K):=by
 intro value slice zd s σ H x y v u Q I rx ry h hs;obtain⟨p,xs,i,z,rfl,rfl,hq,he,q⟩:=h;cases rx;obtain⟨t,rfl⟩:=ry;obtain⟨its,r,pl,hz⟩:=I.list hq;obtain⟨j,h1,h2,h3,h4,h5⟩:=be_9 he;obtain⟨w,ew,rw'⟩:=r.get h2;have hl:=r.length;have hn:=aj_6;have fin:EP X zd σ Q w s:=⟨z,H,I,rw',q⟩
 by_cases h0:0<=i
 ·have hj:i.toNat=j:=by
   rw[seqIndex_of h0 h5]at h1;exact J7 h1
  exact item_listR pl.isList h0 () (by rw[hj];simpa using ew) fin hs
 ·have hj:(i + (its.toArray.size:Int)).toNat=j:=by
   rw[seqIndex_neg () h4]at h1;rw[D0,<-hl];exact J7 h1
  exact ZA7 (x:=w) pl.isList.typeIs slot_list_getitem.lookup
   (wpAny_getItem_list_neg (Q:=λr s'=>r=w/\EP X zd σ Q r s') pl.isList () (by rw[D0] <;> omega) () (by rw[hj];simpa using ew) ⟨rfl,fin⟩) hs
def dl_9:IxR X (rIxT X.K):=by
 intro value slice zd s σ H x y v u Q I rx ry h hs;obtain⟨p,xs,i,z,rfl,rfl,hq,he,q⟩:=h;cases rx;obtain⟨t,rfl⟩:=ry;obtain⟨its,r,pl,hz⟩:=I.tuple hq;obtain⟨j,h1,h2,h3,h4,h5⟩:=be_9 he;obtain⟨w,ew,rw'⟩:=r.get h2;have hl:=r.length;have hn:=aj_6;have fin:EP X zd σ Q w s:=⟨z,H,I,rw',q⟩;exact ZA7 (x:=w) pl.typeIs slot_tuple_getitem.lookup
  (getItem_tuple (j:=j) (Q:=λr s'=>r=w/\EP X zd σ Q r s') pl () () (by rw[D0,<-hl];exact h1) (by simpa using ew) ⟨rfl,fin⟩) hs
def dm_0:IxR X rIxS:=by
 intro value slice zd s σ H x y v u Q I rx ry h hs;obtain⟨z,i,c,rfl,rfl,hz,he,q⟩:=h;obtain⟨t,rfl⟩:=rx;obtain⟨t',rfl⟩:=ry;obtain⟨j,h1,h2,h3,h4,h5⟩:=be_9 he;have hl:z.cps.toList.length=z.length:=by simp[Str.length]
 rw[hl]at h1 h4 h5;have hn:=aj_6;exact tail_any (typeIs_str s z t) slot_str_getitem.lookup (getItem_str (c:=c) (by
  have e1:decide (i < -(2 ^ 63:Int))=false:=D2 ();have e2:decide (i≥2 ^ 63)=false:=D2 ();rw[e1,e2,Bool.or_false]) (by rw[h1];simpa using h2) ⟨.str ⟨#[c]⟩,H,I.tok _,⟨_,rfl⟩,q⟩) hs
theorem Inv.lst{zd:AE}{σ:St}{H:Hp}{s:Shared}{p:Addr}{xs:List V}(I:Inv X zd σ H s)(h:H p=some (.lst xs)):
  ∃(its:List Value) (n:Nat),Vals xs its/\s.heap.get? p=some {cls:=.type "list",data:=.seq its.toArray n}/\xs.length<=sizeLine:=by
 obtain⟨z,its,n,r,e⟩:=I.hok p _ h;exact⟨its,n,r,e,z⟩
def Ft:V->Bool
 | .non=>true
 | .bl _=>true
 | .int _=>true
 | .str _=>true
 |_=>false
def eqV:V->V->Bool
 | .non,.non=>true
 | .bl a,.bl b=>a ==b
 | .bl a,.int b=>(if a then 1 else 0) ==b
 | .int a,.bl b=>a ==(if b then 1 else 0)
 | .int a,.int b=>a ==b
 | .str a,.str b=>a ==b
 |_,_=>false
def dm_1{A:Around}{s:Shared}{y x:V}{u v:Value}(ry:RelV y u)(rx:RelV x v)(fy:Ft y=true)(fx:Ft x=true):SeqAt.EqAt A s u v (eqV y x):=by
 cases y with
 |non=>
  cases ry;cases x with
  |non=>cases rx;exact SeqAt.EqAt.same _
  |bl b=>cases rx;exact SeqAt.EqAt.none_bool b
  |int b=>obtain⟨t,rfl⟩:=rx;exact SeqAt.EqAt.none_int b t
  |str b=>obtain⟨t,rfl⟩:=rx;exact SeqAt.EqAt.none_str b t
  |_=>exact absurd (show false=true from fx) A6
 |bl a=>
  cases ry;cases x with
  |non=>cases rx;exact SeqAt.EqAt.bool_none a
  |bl b=>cases rx;exact SeqAt.EqAt.bool_bool a b
  |int b=>obtain⟨t,rfl⟩:=rx;exact SeqAt.EqAt.bool_int a b t
  |str b=>obtain⟨t,rfl⟩:=rx;exact SeqAt.EqAt.bool_str a b t
  |_=>exact absurd (show false=true from fx) A6
 |int a=>
  obtain⟨t',rfl⟩:=ry;cases x with
  |non=>cases rx;exact SeqAt.EqAt.int_none a t'
  |bl b=>cases rx;exact SeqAt.EqAt.int_bool a t' b
  |int b=>obtain⟨t,rfl⟩:=rx;exact SeqAt.EqAt.int_int a t' b t
  |str b=>obtain⟨t,rfl⟩:=rx;exact SeqAt.EqAt.int_str a t' b t
  |_=>exact absurd (show false=true from fx) A6
 |str a=>
  obtain⟨t',rfl⟩:=ry;cases x with
  |non=>cases rx;exact SeqAt.EqAt.str_none a t'
  |bl b=>cases rx;exact SeqAt.EqAt.str_bool a t' b
  |int b=>obtain⟨t,rfl⟩:=rx;exact SeqAt.EqAt.str_int a t' b t
  |str b=>obtain⟨t,rfl⟩:=rx;exact SeqAt.EqAt.str_str a t' b t
  |_=>exact absurd (show false=true from fx) A6
 |_=>exact absurd (show false=true from fy) A6
def eqU(x:V)(u:Value):Bool:=match u with
 | .none=>eqV .non x
 | .bool b=>eqV (.bl b) x
 | .int i _=>eqV (.int i) x
 | .str z _=>eqV (.str z) x
 |_=>false
def cm_5{x y:V}{u:Value}(r:RelV y u)(f:Ft y=true):eqU x u=eqV y x:=by
 cases y with
 |non=>cases r;rfl
 |bl b=>cases r;rfl
 |int i=>obtain⟨t,rfl⟩:=r;rfl
 |str z=>obtain⟨t,rfl⟩:=r;rfl
 |_=>exact absurd (show false=true from f) A6
theorem bf_0{x:V}:∀{xs:List V} {us:List Value},Vals xs us->xs.all Ft=true->us.any (eqU x)=xs.any λy=>eqV y x
 |_,_,.nil,_=>rfl
 |y::xs,u::us,.cons r t,f=>by
  rw[N7,C8]at f;rw[Q4,Q4,cm_5 r f.1,bf_0 t f.2]
theorem as_4{A:Around}{s:Shared}{x:V}{v:Value}(rx:RelV x v)(fx:Ft x=true):∀{xs:List V} {us:List Value},Vals xs us->xs.all Ft=true->∀u∈us,SeqAt.EqAt A s u v (eqU x u)
 |_,_,.nil,_=>λu hu=>by cases hu
 |y::xs,u::us,.cons r t,f=>λu' hu=>by
  rw[N7,C8]at f;rcases C6.mp hu with rfl|hu
  ·rw[cm_5 r f.1];exact dm_1 r rx f.1 fx
  ·exact as_4 rx fx t f.2 u' hu
def inV(x:V)(xs:List V):Bool:=xs.any λy=>eqV y x
def rIn(K:Frag)(neg:Bool):R2:=λx y H Q=>∃p xs,y=.ref p/\(SqL K H p xs\/SqT K H p xs)/\Ft x=true/\xs.all Ft=true/\Q (.bl (if neg then !inV x xs else inV x xs)) H
def cf_9:OpR X (compareOp .In) (rIn X.K false):=by
 intro zd s σ H x y v u Q I rx ry h;obtain⟨p,xs,rfl,hq,fx,fs,q⟩:=h;cases ry;rcases hq with hq|hq
 ·obtain⟨its,r,pl,hz⟩:=I.list hq;refine SeqAt.in_listAt (eqU x) pl.isList (λw hw=>as_4 rx fx r fs w (by simpa using hw)) ⟨.bl _,H,I,rfl, ?_⟩;rw[show its.toArray.any (eqU x)=its.any (eqU x) by simp,bf_0 r fs];exact q
 ·obtain⟨its,r,pl,hz⟩:=I.tuple hq;refine SeqAt.in_tupleAt (eqU x) pl (λw hw=>as_4 rx fx r fs w (by simpa using hw)) ⟨.bl _,H,I,rfl, ?_⟩;rw[show its.toArray.any (eqU x)=its.any (eqU x) by simp,bf_0 r fs];exact q
def ag_2:CallR X (.builtin "len") (λxs H Q=>∃p ys,xs= [.ref p]/\(SqL X.K H p ys\/SqT X.K H p ys)/\Q (.int ys.length) H):=by
 intro zd s σ H xs us Q I r h;obtain⟨p,ys,rfl,hq,q⟩:=h;obtain⟨u,rfl,rx⟩:=by_5 r;cases rx;have hn:=aj_6;rcases hq with hq|hq
 ·obtain⟨its,r',pl,hz⟩:=I.list hq;have zk:=r'.length;exact Calls.call_len_list pl.isList (by simp only[D0] <;> omega) ⟨.int ys.length,H,I.tok _,⟨s.toks + 1,by rw[D0,zk]⟩,q⟩
 ·obtain⟨its,r',pl,hz⟩:=I.tuple hq;have zk:=r'.length;exact len_tuple pl (by simp only[D0] <;> omega) ⟨.int ys.length,H,I.tok _,⟨s.toks + 1,by rw[D0,zk]⟩,q⟩
def bf_1:CallR X (.builtin "len") (λxs H Q=>∃z,xs= [.str z]/\z.length<=sizeLine/\Q (.int z.length) H):=by
 intro zd s σ H xs us Q I r h;obtain⟨z,rfl,hz,q⟩:=h;obtain⟨u,rfl,t,rfl⟩:=by_5 r;have hn:=aj_6;exact len_str () ⟨.int z.length,H,I.tok _,⟨_,rfl⟩,q⟩
def CallR.or{f:Value}{r r':List V->Hp->VK->Prop}(h:CallR X f r)(h':CallR X f r'):CallR X f (λxs H Q=>r xs H Q\/r' xs H Q):=by
 intro zd s σ H xs us Q I rs q;rcases q with q|q
 ·exact h zd s σ H xs us Q I rs q
 ·exact h' zd s σ H xs us Q I rs q
def ag_3:CallR X (.type "list") (λxs H Q=>∃p ys,xs= [.ref p]/\(SqL X.K H p ys\/SqT X.K H p ys)/\∀l,H l=none->Q (.ref l) (upd H l (.lst ys))):=by
 intro zd s σ H xs us Q I r h;obtain⟨p,ys,rfl,hq,q⟩:=h;obtain⟨u,rfl,rx⟩:=by_5 r;cases rx;have fin:∀(its:List Value),Vals ys its->ys.length<=sizeLine->∀(h':Heap) (c':Nat),(∀b o',s.heap.get? b=some o'->h'.get? b=some o')->
   h'.get? s.heap.objs.size=some {cls:=.type "list",dict:=none,data:=.seq its.toArray c',slots:= #[]}->EP X zd σ Q (.ref s.heap.objs.size) {s with heap:=h'}:=λits r' hz h' c' kp e=>
  ⟨.ref s.heap.objs.size,_,I.laid (t':=s.toks) kp (B5 _) (show ObjOk X.prog X.w _ h' _ (.lst ys) from⟨hz,its,c',r',e⟩),rfl,q _ (I.hok.fresh (B5 _))⟩
 rcases hq with hq|hq
 ·obtain⟨its,r',pl,hz⟩:=I.list hq;have zk:=r'.length;obtain⟨o,ho,hc,n,hd⟩:=pl.isList;exact call_list_seq p (.inl rfl) ho hc hd (λh' c' kp e=>fin its r' hz h' c' kp e) (by simp only[D0] <;> omega)
 ·obtain⟨its,r',pl,hz⟩:=I.tuple hq;have zk:=r'.length;obtain⟨o,ho,hc,n,hd⟩:=pl;exact call_list_seq p (.inr rfl) ho hc hd (λh' c' kp e=>fin its r' hz h' c' kp e) (by simp only[D0] <;> omega)
def ad_7:CallR X (.type "tuple") (λxs H Q=>∃p ys,xs= [.ref p]/\((SqL X.K H p ys/\∀l,H l=none->Q (.ref l) (upd H l (.tup ys)))\/(SqT X.K H p ys/\Q (.ref p) H))):=by
 intro zd s σ H xs us Q I r h;obtain⟨p,ys,rfl,h⟩:=h;obtain⟨u,rfl,rx⟩:=by_5 r;cases rx;rcases h with⟨hq,q⟩|⟨hq,q⟩
 ·obtain⟨its,r',pl,hz⟩:=I.list hq;have zk:=r'.length;refine call_tuple_list pl.isList (λh' kp=> ?_) (by simp only[D0] <;> omega);have I1:Inv X zd σ H {s with heap:=h'}:=I.kept (t':=s.toks) kp;have I2:Inv X zd σ (upd H h'.objs.size (.tup ys)) {s with heap:=h'.push {cls:=.type "tuple",data:=.seq its.toArray}}:=
   I1.laid (t':=s.toks) (λb o e=>A4 _ e) (B5 _) (show ObjOk X.prog X.w _ _ _ (.tup ys) from⟨hz,its,r',IsTup.new _ _⟩)
  exact⟨.ref h'.objs.size,_,I2,rfl,q _ (I1.hok.fresh (B5 _))⟩
 ·obtain⟨its,r',pl,hz⟩:=I.tuple hq;exact call_tuple_same pl ⟨.ref p,H,I,rfl,q⟩
def tyV(K:Frag)(T:String)(x:V)(H:Hp):Prop:=match x with
 | .str _=>T= "str"
 | .int _=>T= "int"
 | .ref p=>(T= "list" /\∃xs,SqL K H p xs)\/(T= "tuple" /\∃o,K.lookup p=some o/\o.cls=.type "tuple" /\o.dict=none)\/
   (T= "dict" /\((∃kvs,H p=some (.dK kvs))\/∃kvs,H p=some (.dT kvs)))\/(T= "set" /\∃S n,H p=some (.set S n))
 |_=>False
def dm_2{zd:AE}{σ:St}{H:Hp}{s:Shared}{T:String}{x:V}{v:Value}(I:Inv X zd σ H s)(r:RelV x v)(ty:tyV X.K T x H):
  s.TypeIs v T/\∀a,v=.ref a->∃ob,s.heap.get? a=some ob/\ob.dict=none:=by
 cases x with
 |str z=>
  obtain⟨t,rfl⟩:=r;cases(show T= "str" from ty);exact⟨typeIs_str s z t,λ_ e=>nomatch e⟩
 |int i=>
  obtain⟨t,rfl⟩:=r;cases(show T= "int" from ty);exact⟨typeIs_int s i t,λ_ e=>nomatch e⟩
 |ref p=>
  cases r;rcases ty with⟨rfl,xs,hq⟩|⟨rfl,o,hk,hc,hd⟩|⟨rfl,hk⟩|⟨rfl,S,n,hk⟩
  ·obtain⟨its,_,pl,_⟩:=I.list hq;refine⟨pl.isList.typeIs,λa e=> ?_⟩;cases e;obtain⟨o,n,e,c,hd,_⟩:=pl;exact⟨o,e,hd⟩
  ·refine⟨⟨o,I.kIn p o hk,hc⟩,λa e=> ?_⟩;cases e;exact⟨o,I.kIn _ o hk,hd⟩
  ·have z:∃o,s.heap.get? p=some o/\o.ExactDict:=by
    rcases hk with⟨kvs,hk⟩|⟨kvs,hk⟩
    ·obtain⟨_,_,_,_,o,_,_,e,ex,_⟩:=I.hok p _ hk;exact⟨o,e,ex⟩
    ·obtain⟨_,_,_,_,o,_,_,e,ex,_⟩:=I.hok p _ hk;exact⟨o,e,ex⟩
   obtain⟨o,e,ex⟩:=z;refine⟨⟨o,e,ex.1⟩,λa e2=> ?_⟩;cases e2;exact⟨o,e,ex.2.1⟩
  ·obtain⟨o,_,_,_,e,ex,_⟩:=I.hok p _ hk;refine⟨⟨o,e,ex.1⟩,λa e2=> ?_⟩;cases e2;exact⟨o,e,ex.2.1⟩
 |_=>exact False.elim ty
def tBM(K:Frag)(T:String)(r:V->List V->Hp->VK->Prop)(to:TE)(t:TA):TE:=λ σ H Q=>to σ H λx H1=>tyV K T x H1/\t σ H1 λxs H2=>r x xs H2 Q
variable{o e:Expr}{es:List Expr}{to:TE}{t:TA}{name:Str}{zg zf:Pos}{T id:String}{r:V->List V->Hp->VK->Prop}
def by_7(pa:PlainAttrs T)(slot:Slot T name id)(hty:typeOf (.builtin id)=pure (.type "method_descriptor"))(hm:MtR X id r)(ho:PE X o to)(ha:PA X (e::es) t)
  (ae:attributeBase o name X.env (eval o X.env)=eval o X.env:=by rfl)
  (bb:((backTo zf (starEach (e::es) X.env)).all (λx=> !x.1) && (backToKw zf (keywordEach [] X.env)).all (λx=>x.1.isSome)
   && decide ((e::es).length + ([]:List Keyword).length + (if([]:List Keyword).isEmpty then 0 else 1) < 30))=true:=by rfl)
  (af:(zg.endLine ==zf.line)=true:=by rfl) (hs:starEach (e::es) X.env=(false,eval e X.env)::starEach es X.env:=by rfl) (ag:(backTo zf (starEach es X.env)).any (·.1)=false:=by rfl):
  PE X (.Call (.Attribute o name zg) (e::es) [] zf) (tBM X.K T r to t):=by
 intro zd s σ H Q I h;refine wpAny_Call_method_late ae bb af rfl (Ay (ho zd s σ H _ I h) λv s1 ⟨x,H1,I1,r1,ty,q1⟩=> ?_);obtain⟨h1,h2⟩:=dm_2 I1 r1 ty;refine⟨T,id,pa,slot,hty,h1,h2, ?_⟩;have hA:=ha zf zd s1 σ H1 _ I1 q1;rw[hs]at hA⊢;refine M9 (by show(false || (backTo zf (starEach es X.env)).any (·.1))=false;rw[ag] <;> rfl) (S6 ?_);exact Ay hA λus s2 ⟨vs,H2,I2,r2,q2⟩=>hm zd s2 σ H2 x vs v us Q I2 r1 r2 q2
end
def MtM(X:Cx)(id:String)(r:V->List V->Hp->VK->Prop):Prop:=
 ∀(zd:AE) (s:Shared) (σ:St) (H:Hp) (x:V) (xs:List V) (v:Value) (us:List Value) (Q:VK),Inv X zd σ H s->RelV x v->Vals xs us->r x xs H Q->
  wpAny (model X.prog X.w) X.A (call (.builtin id) (v::us)) (EP X zd σ Q) X.xe s
def Vals.one:∀{x:V} {us:List Value},Vals [x] us->∃u,us= [u]/\RelV x u
 |_,_,.cons r .nil=>⟨_,rfl,r⟩
def Vals.two{x y:V}{us:List Value}(h:Vals [x,y] us):∃u v,us= [u,v]/\RelV x u/\RelV y v:=by
 cases h with
 |cons r t=>
  cases t with
  |cons q t=>
   cases t;exact⟨_,_,rfl,r,q⟩
def Vals.zero:∀{us:List Value},Vals [] us->us= []
 |_,.nil=>rfl
theorem Vals.dropLast{xs:List V}{us:List Value}(h:Vals xs us):Vals xs.dropLast us.dropLast:=by
 induction h with
 |nil=>exact .nil
 |cons r t ih=>
  cases t with
  |nil=>exact .nil
  |cons q t'=>exact .cons r ih
theorem Vals.eraseIdx:∀{xs:List V} {us:List Value} (i:Nat),Vals xs us->Vals (xs.eraseIdx i) (us.eraseIdx i)
 |_,_,_,.nil=> .nil
 |_,_,0,.cons _ t=>t
 |_,_,i + 1,.cons r t=> .cons r (Vals.eraseIdx i t)
theorem Vals.rep{xs:List V}{us:List Value}(h:Vals xs us):∀k:Nat,Vals (List.replicate k xs).flatten (List.replicate k us).flatten
 |0=> .nil
 |k + 1=>by
  rw[K5,K5,N8,N8];exact Vals.append h (Vals.rep h k)
theorem ba_6{α:Type}:∀(l:List α) (i:Nat),(l.eraseIdx i).length<=l.length
 | [],_=>B5 _
 |_::_,0=>L6 _
 |_::r,i + 1=>Z6 (ba_6 r i)
theorem ba_7(its:List Value):∀(k:Nat) (zn:List Value),
  List.foldl (λx1 x2=>x1 ++ x2) zn.toArray (List.replicate k its.toArray)=(zn ++ (List.replicate k its).flatten).toArray
 |0,zn=>by simp
 |k + 1,zn=>by
  have e:zn.toArray ++ its.toArray=(zn ++ its).toArray:=by simp
  have e2:(zn ++ its) ++ (List.replicate k its).flatten=zn ++ (List.replicate (k + 1) its).flatten:=by
   rw[K5,N8,N9]
  rw[<-e2,<-ba_7 its k (zn ++ its),<-e,K5,List.foldl_cons]
section
variable{X:Cx}{zd:AE}{σ:St}{H:Hp}{s:Shared}{l b:Addr}{xs ys zs:List V}
def Inv.lset{its its':List Value}{n:Nat}{f:Array Value->Array Value}{t':Nat}(I:Inv X zd σ H s)(hH:H l=some (.lst xs))
  (e:s.heap.get? l=some {cls:=.type "list",data:=.seq its.toArray n}) (hf:f its.toArray=its'.toArray) (hv:Vals ys its') (hz:ys.length<=sizeLine):
  Inv X zd σ (upd H l (.lst ys)) {s with heap:=s.heap.update l (Obj.mapSeq f),toks:=t'}:=by
 have q:=PySem.IsL.update e f;rw[hf]at q;refine I.write (x:=l) (e:=l) (by rw[hH];exact trivial) (.inl rfl) (λb' u hb hu=>(K1 s.heap (Obj.mapSeq f) (Ne.symm hb)).trans hu) ⟨_,q⟩ ?_;exact⟨hz,its',_,hv,q⟩
def Inv.lnew{its:List Value}{t':Nat}(I:Inv X zd σ H s)(hv:Vals ys its)(hz:ys.length<=sizeLine):
  Inv X zd σ (upd H s.heap.objs.size (.lst ys)) {s with heap:=s.heap.push {cls:=.type "list",data:=.seq its.toArray},toks:=t'}:=
 I.laid (λ_ _ q=>A4 _ q) (B5 _) ⟨hz,its,0,hv,B9 _ rfl⟩
theorem Inv.fresh(I:Inv X zd σ H s):H s.heap.objs.size=none:=I.hok.fresh (B5 _)
def Inv.lstM(I:Inv X zd σ H s)(hH:H l=some (.lst xs)):xs.length<=sizeLine/\∃(its:List Value) (n:Nat),Vals xs its/\xs.length=its.length/\s.heap.get? l=some {cls:=.type "list",data:=.seq its.toArray n}:=by
 obtain⟨z,its,n,r,e⟩:=I.hok l _ hH;exact⟨z,its,n,r,r.length,e⟩
def cm_6{n:Nat}(h:n<=sizeLine):Builtin.List.listTooLong n=false:=by
 unfold Builtin.List.listTooLong;exact D2 ()
end
section
variable{X:Cx}
def bf_2:V->List V->Hp->VK->Prop:=λx vs H Q=>∃l xs y,x=.ref l/\vs= [y]/\H l=some (.lst xs)/\xs.length < sizeLine/\Q .non (upd H l (.lst (xs ++ [y])))
def aj_8:MtM X "list.append" bf_2:=by
 intro zd s σ H x vs v us Q I rx rv h;obtain⟨l,xs,y,rfl,rfl,hH,hz,q⟩:=h;cases rx;obtain⟨u,rfl,ru⟩:=rv.one;obtain⟨z,its,n,r,hl,e⟩:=I.lstM hH;refine ZC8 F.slot_list_append ⟨_,e,rfl⟩ F.entry_list_append (F.args_list_append_2 _ _) (PySem.list_append l its.toArray n u (by rw[D0];omega)) ⟨e, ?_⟩;refine⟨.non,_,I.lset (its':=its ++ [u]) hH e (by simp) (r.append (.cons ru .nil)) ?_,rfl,q⟩;rw[B8,List.length_singleton];omega
def dm_3:V->List V->Hp->VK->Prop:=λx vs H Q=>∃l xs i k y,x=.ref l/\vs= [.int i]/\H l=some (.lst xs)/\ -(2 ^ 63)<=i/\i < 2 ^ 63/\seqIndex? i xs.length=some k/\xs[k]? =some y/\Q y (upd H l (.lst (xs.eraseIdx k)))
def cm_7:MtM X "list.pop" dm_3:=by
 intro zd s σ H x vs v us Q I rx rv h;obtain⟨l,xs,i,k,y,rfl,rfl,hH,h1,h2,hk,hy,q⟩:=h;cases rx;obtain⟨u,rfl,ru⟩:=rv.one;obtain⟨t,rfl⟩:=ru;obtain⟨z,its,n,r,hl,e⟩:=I.lstM hH;obtain⟨w,hw,rw'⟩:=r.get hy;refine ZC8 F.slot_list_pop ⟨_,e,rfl⟩ F.entry_list_pop (F.args_list_pop_2 _ _)
  (MeetsSeq.list_pop_at l its.toArray n i t k w (fitsIndex_both h1 h2) (by rw[D0,<-hl];exact hk) (by rw[<-V3];exact hw) (by rw[D0];omega)) ⟨e, ?_⟩
 refine⟨y,_,I.lset (its':=its.eraseIdx k) hH e ?_ (r.eraseIdx k) ?_,rw',q⟩
 ·show its.toArray.eraseIdxIfInBounds k=(its.eraseIdx k).toArray;rw[List.eraseIdxIfInBounds_toArray]
 ·have:=ba_6 xs k;omega
def rRep:R2:=λx y H Q=>∃l k xs,x=.ref l/\y=.int k/\H l=some (.lst xs)/\ -(2 ^ 63)<=k/\k < 2 ^ 63/\xs.length * k.toNat<=sizeLine/\
 ∀p,H p=none->Q (.ref p) (upd H p (.lst (List.replicate k.toNat xs).flatten))
def cz_7{α:Type}(xs:List α)(k:Nat):(List.replicate k xs).flatten.length=k * xs.length:=by
 induction k with
 |zero=>simp
 |succ k ih=>rw[K5,N8,B8,ih,Nat.succ_mul,Nat.add_comm]
def dm_4:OpR X (binaryOp .Mult) rRep:=by
 intro zd s σ H x y v u Q I rx ry h;obtain⟨l,k,xs,rfl,rfl,hH,h1,h2,hz,q⟩:=h;cases rx;obtain⟨t,rfl⟩:=ry;obtain⟨z,its,n,r,hl,e⟩:=I.lstM hH;have zk:its.toArray.size * k.toNat<=sizeLine:=by rw[D0,<-hl];exact hz
 have dk:¬its.toArray.size * k.toNat > (2 ^ 63 - 1) / 8:=by
  have:(sizeLine:Nat)<=(2 ^ 63 - 1) / 8:=by decide
  omega
 have eh:¬(!Builtin.List.listFitsIndex k)=true:=by
  rw[fitsIndex_both h1 h2];exact A6
 have bz:¬Builtin.List.listTooLong (its.toArray.size * k.toNat)=true:=by
  rw[cm_6 zk];exact A6
 have ft:List.foldl (λx1 x2=>x1 ++ x2) #[] (List.replicate (if its.toArray.isEmpty=true then 0 else k.toNat) its.toArray)=(List.replicate k.toNat its).flatten.toArray:=by
  have f0:∀m:Nat,List.foldl (λx1 x2=>x1 ++ x2) #[] (List.replicate m its.toArray)=(List.replicate m its).flatten.toArray:=λm=>by
   have:=ba_7 its m [];rw[P8]at this;exact this
  rw[f0];cases its with
  |nil=>simp
  |cons a r'=>rw[if_neg (by simp)]
 refine wpAny_binaryOp_repeat_ref (T:= "list") (U:= "int") ⋯ ⟨_,e,rfl⟩ (λs'=>typeIs_int s' k t) noFill_list_mul F.fills_int_mul F.slot_int_rmul repeat_list F.slot_int_index.lookup
  (ZC8 F.slot_int_rmul (typeIs_int s k t) F.entry_int_rmul (F.args_int_rmul_2 _ _) (int___rmul___int_list k t l its.toArray n)
   ⟨e,rfl,⟨_,e,rfl⟩,ZC8 F.slot_list_mul ⟨_,e,rfl⟩ F.entry_list_mul (F.args_list_mul_2 _ _) (AutoListH.list___mul___list_int_3 l its.toArray n k t eh dk bz) ⟨e, ?_⟩⟩)
 rw[ft];exact⟨.ref _,_,I.lnew (t':=s.toks) (r.rep k.toNat) (by rw[cz_7,Nat.mul_comm];exact hz),rfl,q _ I.fresh⟩
end
section
variable{prog:Program}{w:World}{A:Around}{E:AA}{s:Shared}
end
section
variable{X:Cx}
end
end L2
namespace Att
open PySem PySem.W PySem.Calls PyProof.Rows
def ap_3{P:Params}{h:Heap}:∀(ns:List Int) (vs:List Value),WellAll P h vs (ns.map WData.int)->IntsAre vs ns:=by
 intro ns
 induction ns with
 |nil=>
  intro vs w;rw[N0]at w;cases w;exact .nil
 |cons n ns ih=>
  intro vs w;rw[A8]at w;cases w with
  |cons a b=>
   cases a;exact .cons _ _ (ih _ b)
def cg_0{l:OpenLaw}{n:Nat}(hn:l.most=some n){P:Params}{h:Heap}{args:List WData}{vals:List Value}
  (bj:l.row.toRowW.claim.pre args=true) (hwl:WellAll P h vals args):
  ∃a vs ns,vals= [Value.ref a]/\args= [WData.list (ns.map WData.int)]/\h.get? a=some {cls:=.type "list",data:=.seq vs.toArray}/\IntsAre vs ns/\ns.length<=n:=by
 have hsh:WShape.hasAll [] args [.list .int]=true:=(pre_splitW bj).1;have hc:l.pre.holds [] {args:=args}=true:=(pre_splitW bj).2;obtain⟨d,r,rfl,h1,h2⟩:=hasAllW_cons hsh;obtain rfl:=hasAllW_nil h2;obtain⟨xs,rfl,h3⟩:=hasW_list h1;obtain⟨ns,rfl⟩:=items_int h3;have zk:ns.length<=n:=by
  unfold OpenLaw.pre at hc;have h4:(WTm.not (.lt (.lit (.int (n:Int))) (.len (.arg 0)))).holds [] {args:=[.list (ns.map .int)]}=true:=by
   have h4:=(holds_andW hc).1;rw[hn]at h4;exact h4
  have h5:=condW_of h4 (w_not (w_lt w_lit (w_len_list (w_arg rfl))));rw[A3]at h5;refine Nat.le_of_not_lt λq=> ?_;have q':(n:Int) < ((ns.length:Nat):Int):=by omega
  first
   |(rw[D9 q']at h5;exact absurd h5 ⋯)
   |(simp at h5;omega)
 cases hwl with
 |cons w1 w2=>
  cases w2;cases w1 with
  |list ho bh=>exact⟨_,_,ns,rfl,rfl,ho,ap_3 ns _ bh,zk⟩
def cg_1(l:OpenLaw)(args:List WData):l.row.toRowW.claim.post args (.bool true) args=true:=
 postW_of (r:=l.row.toRowW) (X:=(true ==true))
  (show WShape.has [] (.bool true) .bool=true by first|rfl|decide|simp[WShape.has,WShape.arms,WShape.armsAll])
  (show(WTm.eq .res (.lit (.bool true))).value [] {args:=args,res:=some (.bool true),after:=args}=some (.bool (true ==true)) from w_eq_bool (w_res rfl) w_lit) rfl
def attach_call{l:OpenLaw}{n:Nat}{q:Program}{loose:List Str}{XP:(AB)->Heap->Prop}{YP:World->Heap->Prop}{d:DefRec}
  (hn:l.most=some n) (hdf:d.params.defaults= [])
  (call:∀(w:World) (s₀ s₁:Shared) (mg mb:AB) (fa:Addr) (o:Obj) (pm cd doc:Value) (a:Addr) (vs:List Value) (ns:List Int),
   Ground q loose [] XP w s₀ mg mb s₁.heap->YP w s₁.heap->
   s₁.heap.get? fa=some o->o.data=.func (docDef d.name d.params d.body d.scope pm cd doc)->s₁.heap.CodeRec cd d.name->mg d.name=some (.ref fa)->
   s₁.heap.get? a=some {cls:=.type "list",data:=.seq vs.toArray}->IntsAre vs ns->ns.length<=n->s₁.gens= #[]->
   codeAny (model l.prog w) callerA (.call (.ref fa) ⟨[.ref a],[]⟩) (λr s'=>r=.ok (.ret (.bool true))/\OldK s₁.heap s'.heap/\s'.os=s₁.os/\AllBare s'.gens) s₁):
  WalkO q loose XP YP l.row.toRowW d [] (λf vs=>PySem.call f vs):=by
 intro w s₀ s₁ mg mb G Y fa o pm cd doc dV kV ho hd hcd hD hmg hg args vals as bj hlay hrd hwl hlo;obtain rfl:dV=.none:=Dflts.none hD hdf;obtain rfl:kV=.none:=Dflts.noKw hD;obtain⟨a,vs,ns,rfl,rfl,bc,hints,zk⟩:=cg_0 hn bj hwl;refine enter_call (R3 (call w s₀ s₁ mg mb fa o pm cd doc a vs ns G Y ho (fd_plain hd) hcd hmg bc hints zk hg) λr s' hq=> ?_);obtain⟨rfl,h2,h3,h4⟩:=hq;exact⟨.inl ⟨.bool true,.bool true,[],rfl,λ_=>rfl,.bool true,cg_1 l _,λ_=>⟨List.Pairwise.nil,λ_ hm=>(nomatch hm)⟩⟩,h2,h3,h4⟩
section
variable{prog:Program}{w:World}{A:Around}{E:AA}{s:Shared}{K:Frag}
end
end Att
namespace L2
open PySem PySem.Spec PyProof.Rows
theorem ba_8:∀{vs:List Value} {ns:List Int},IntsAre vs ns->Vals (ns.map V.int) vs
 |_,_,.nil=> .nil
 |_,_,.cons n t h=> .cons ⟨t,rfl⟩ (ba_8 h)
def Only(H:Hp):Prop:=∀b,H b=none\/∃o xs,H b=some (.frz o (.lst xs))
def cm_8{P:Program}{w:World}{K:Frag}{mg mb:AB}{CX:CXT}{k:Nat}{fa a:Addr}{fd:FuncData}{x:Str}{sp:Sp}{s₁:Shared}{vs:List Value}{ns:List Int}
  (KX:K.In s₁.heap) (hns:s₁.heap.Ns mainGlobals mg) (hb:s₁.heap.Ns builtinsNs mb) (hbb:∀x:Str,x≠ "__name__" ->mb x=bootBuiltins x) (dn:s₁.heap.NoLimit) (hg:s₁.gens= #[])
  (ha:s₁.heap.get? a=some {cls:=.type "list",data:=.seq vs.toArray}) (hi:IntsAre vs ns) (hl:ns.length<=sizeLine) (hr:Room k callerA)
  (F:∀base:Heap,K.In base->base.Ns mainGlobals mg->FnOk P w K mg base CX k fa fd [x] sp) (cw:∀(s:Shared) (u:Value),BindsTo s fd ⟨[u],[]⟩ [(x,u)])
  (hsp:∀H:Hp,Only H->SqL K H a (ns.map V.int)->sp [.ref a] H (λv _=>v=.bl true) λ_ _ _=>False)
  (hCX:∀H e s',CX [] H s₁ (λ_ _ _=>False) e s'->False):
  codeAny (model P w) callerA (.call (.ref fa) ⟨[.ref a],[]⟩) (λr s'=>r=.ok (.ret (.bool true))/\OldK s₁.heap s'.heap/\s'.os=s₁.os/\AllBare s'.gens) s₁:=by
 have rv:=ba_8 hi;have fq:=hi.length
 
 have core:∀H:Hp,Only H->SqL K H a (ns.map V.int)->HOk P w H s₁.heap->(∀b,H b≠none->b=a)->(H a≠none->K.lookup a=none)->
   codeAny (model P w) callerA (.call (.ref fa) ⟨[.ref a],[]⟩) (λr s'=>r=.ok (.ret (.bool true))/\OldK s₁.heap s'.heap/\s'.os=s₁.os/\AllBare s'.gens) s₁:=by
  intro H hO hS hok hA hK;have ak:∀{b:Addr} {o:Obj},s₁.heap.get? b=some o->H b=none->(hidT s₁.heap H).get? b=some o:=λe n=>cl_1 e n;have noA:∀{b:Addr} {o:Obj} {es:Array DictEntry} {ep:Nat},s₁.heap.get? b=some o->o.data=.dict es ep->H b=none:=λ{b o es ep} e d=>by
   cases q:H b with
   |none=>rfl
   |some u=>
    have e':b=a:=hA b (by rw[q];simp);subst e';rw[ha]at e;cases e;have d':Data.seq vs.toArray _=Data.dict es ep:=d;cases d'
  have nsK:∀{b:Addr} {m:AB},s₁.heap.Ns b m->(hidT s₁.heap H).Ns b m:=λ{b m} ⟨o,es,ep,e,d,r⟩=>⟨o,es,ep,ak e (noA e d),d,r⟩;have hKb:K.In (hidT s₁.heap H):=λb o e=>ak (KX b o e) (by
   cases q:H b with
   |none=>rfl
   |some u=>
    have e':b=a:=hA b (by rw[q];simp);subst e';rw[hK (by rw[q];simp)]at e;cases e)
  have hM:Mod K mg (hidT s₁.heap H):=⟨hKb,nsK hns,⟨mb,nsK hb,hbb⟩,let⟨mc,h1,h2⟩:=dn;⟨mc,nsK h1,h2⟩⟩;have e0:Env0 P w K mg (hidT s₁.heap H) callerA [] s₁ H:=⟨rfl,hM,λb o e=>cy_2 e,S8 (ce_7 _ _),trivial,λb hb=>absurd (show b∈([]:List Addr) from hb) (by simp),hok,.of_eq hg⟩;refine R3 ((F _ hKb (nsK hns)).run callerA [] s₁ H ⟨[.ref a],[]⟩ [.ref a] [.ref a] _ _ hr e0 (cw s₁ (.ref a)) (.cons rfl .nil) (hsp H hO hS)) λr s' h=> ?_;cases r with
  |error e=>exact(hCX H e s' h).elim
  |ok fl=>
   cases fl with
   |next=>exact False.elim h
   |brk=>exact False.elim h
   |cont=>exact False.elim h
   |ret u=>
    obtain⟨v,H',os,bare,un,dh,r',q⟩:=h;have q':v=.bl true:=q;subst q';obtain rfl:u=Value.bool true:=r';refine⟨rfl,OldK.of_keep λb o e=> ?_,os,bare⟩;cases q:H b with
    |none=>exact un.keep b o e q (by intro z;exact absurd (show b∈([]:List Addr) from z) (by simp)) (by simp)
    |some u=>
     rcases hO b with z|⟨ob,xs,z⟩
     ·rw[q]at z;cases z
     ·have z2:=un.frzs b ob _ z;obtain⟨e1,_⟩:=hok b _ z;obtain⟨e2,_⟩:=dh b _ z2;rw[e]at e1;cases e1;exact e2
 cases hk:K.lookup a with
 |some o=>
  
  have e:=KX a o hk;rw[ha]at e;cases e;refine core (λ_=>none) (λ_=> .inl rfl) (.inr ⟨_,vs.toArray,_,hk,rfl,rfl,rfl,by rw[D0,fq];exact hl,by simpa using rv⟩) (λb u z=>by have z':(none:Option HO)=some u:=z;cases z') (λb z=>absurd rfl z) λz=>absurd rfl z
 |none=>
  refine core (λb=>if b=a then some (.frz {cls:=.type "list",data:=.seq vs.toArray} (.lst (ns.map V.int))) else none) (λb=> ?_) (.inl (.inr ⟨{cls:=.type "list",data:=.seq vs.toArray},if_pos rfl⟩)) (λb u z=> ?_) (λb z=> ?_) λ_=>hk
  ·by_cases hb:b=a
   ·exact .inr ⟨_,_,if_pos hb⟩
   ·exact .inl (if_neg hb)
  ·by_cases hb:b=a
   ·have z':=(if_pos hb).symm.trans z;cases z';subst hb;exact⟨ha,by rw[A3];exact hl,vs,_,rv,ha⟩
   ·have z':=(if_neg hb).symm.trans z;cases z'
  ·by_cases hb:b=a
   ·exact hb
   ·exact absurd (if_neg hb) z
def cz_8{l:PySem.W.OpenLaw}{n k:Nat}{q:Program}{loose:List Str}{XP:(AB)->Heap->Prop}{YP:World->Heap->Prop}{d:DefRec}{K:Params->Frag}{CX:World->CXT}{sp:World->Sp}{x:Str}
  (hn:l.most=some n) (hn2:n<=sizeLine) (hdf:d.params.defaults= []) (hr:Room k callerA)
  (hY:∀(w:World) (h:Heap),YP w h->(K w.params).In h)
  (F:∀(w:World) (mg:AB) (fa:Addr) (h:Heap),(K w.params).In h->h.Ns mainGlobals mg->mg d.name=some (.ref fa)->
   ∃fd:FuncData,(∀(s:Shared) (u:Value),BindsTo s fd ⟨[u],[]⟩ [(x,u)])/\
    ∀base:Heap,(K w.params).In base->base.Ns mainGlobals mg->FnOk l.prog w (K w.params) mg base (CX w) k fa fd [x] (sp w))
  (hsp:∀(w:World) (H:Hp) (a:Addr) (ns:List Int),ns.length<=n->Only H->SqL (K w.params) H a (ns.map V.int)->sp w [.ref a] H (λv _=>v=.bl true) λ_ _ _=>False)
  (hCX:∀(w:World) (H:Hp) (s:Shared) (e:Value) (s':Shared),CX w [] H s (λ_ _ _=>False) e s'->False):
  PySem.W.WalkO q loose XP YP l.row.toRowW d [] (λf vs=>PySem.call f vs):=by
 refine Att.attach_call hn hdf λw s₀ s₁ mg mb fa o pm cd doc a vs ns G Y ho hd hcd hmg bc hints zk hg=> ?_;have KX:=hY w _ Y;obtain⟨fd,hb,hF⟩:=F w mg fa _ KX G.T.g hmg;exact cm_8 KX G.T.g G.T.b G.T.builtins G.T.nolimit hg bc hints (C5 zk hn2) hr hF hb (λH hO hS=>hsp w H a ns zk hO hS) λH e s'=>hCX w H s₁ e s'
def i_8(s:Stmt):Arguments:=match s with
 | .FunctionDef _ a _ _ _ _ _ _ _ _=>a
 |_=>{posonlyargs:=[],args:=[],vararg:=none,kwonlyargs:=[],kw_defaults:=[],kwarg:=none,defaults:=[]}
def Ey(s:Stmt):List Stmt:=match s with
 | .FunctionDef _ _ b _ _ _ _ _ _ _=>b
 |_=> []
def Cc(s:Stmt):Scope:=match s with
 | .FunctionDef _ _ _ _ _ _ sc _ _ _=>sc
 |_=>{kind:=.function,names:=[],isGenerator:=false,isCoroutine:=false}
abbrev CX0:CXT:=λ_ _ _ _ _ _=>False
abbrev E0:XK:=λ_ _ _=>False
structure Fun(K:Frag)(x qual:Str)(st:Stmt)(f:Addr)(fd:FuncData):Prop where
 ex:∃(oc:Value) (od:Option Addr) (kV doc pm:Value) (an:Option Addr) (zp ct:Value) (osl:Array (Option Value)),
  fd=fnOf x qual (i_8 st) (Ey st) (Cc st) .none kV doc pm an zp ct/\K.lookup f=some ⟨oc,od,.func fd,osl⟩/\codeIn K zp qual=true
 kp:keepIn K (.ref f)=true
section
variable{P:Program}{w:World}{K:Frag}{mg:AB}{base:Heap}
def Fun.binds{x qual:Str}{st:Stmt}{f:Addr}{fd:FuncData}{ps:List Str}(F:Fun K x qual st f fd)
  (h:∀(kV doc pm:Value) (an:Option Addr) (zp ct:Value) (us:List Value),us.length=ps.length->bindArgs (fnOf x qual (i_8 st) (Ey st) (Cc st) .none kV doc pm an zp ct) ⟨us,[]⟩=pure (ps.zip us)):Binds K fd ps []:=by
 obtain⟨oc,od,kV,doc,pm,an,zp,ct,osl,rfl,lk,hcd⟩:=F.ex;exact .all (h kV doc pm an zp ct)
def bt_8{x qual:Str}{st:Stmt}{f:Addr}{oc:Value}{od an:Option Addr}{osl:Array (Option Value)}{kV doc pm zp ct:Value}(l:K.lookup f=some ⟨oc,od,.func (fnOf x qual (i_8 st) (Ey st) (Cc st) .none kV doc pm an zp ct),osl⟩)
  (c:codeIn K zp qual=true) (k:keepIn K (.ref f)=true):Fun K x qual st f (fnOf x qual (i_8 st) (Ey st) (Cc st) .none kV doc pm an zp ct):=⟨⟨oc,od,kV,doc,pm,an,zp,ct,osl,rfl,l,c⟩,k⟩
end
section
variable{X:Cx}
def pv(i:Nat){x:Str}{pos:Pos}(hN:X.N[i]? =some x:=by rfl)(hv:Fg X.env.scope x:=by trivial)(hd:AG x:=by decide)
  (hcd:(x ==("__classdict__" :Str))=false:=by decide):PE X (.Name x pos) (tVar i):=Fh hN hv hd hcd
end
def Same(H H':Hp):Prop:=∀b o,H b=some o->H' b=some o
def Same.refl(H:Hp):Same H H:=λ_ _ h=>h
def Same.trans{H H1 H2:Hp}(a:Same H H1)(b:Same H1 H2):Same H H2:=λc o h=>b c o (a c o h)
def Same.free{H H':Hp}(e:Same H H'){l:Addr}(h:H' l=Option.none):H l=Option.none:=by
 cases q:H l with
 |none=>rfl
 |some o=>
  rw[e l o q]at h;cases h
def Same.seq{K:Frag}{H H':Hp}{a:Addr}{xs:List V}(e:Same H H')(h:SqL K H a xs):SqL K H' a xs:=by
 rcases h with(h|⟨o,h⟩)|h
 ·exact .inl (.inl (e _ _ h))
 ·exact .inl (.inr ⟨o,e _ _ h⟩)
 ·exact .inr h
end L2
namespace L3
open PySem PySem.Spec PyProof.Rows L2
variable{K:Frag}{fd:FuncData}{mg:AB}{us:List Value}{base:Heap}{H:Hp}{X:Cx}{pos:Pos}{v:V}
abbrev Sg:=L2.St
inductive D where
 |non|bl (b:Bool)|int (i:Int)|str (x:Str)|lst (ds:List D)|tup (ds:List D)|dic (kvs:List (Ae×D))
 |exn (c:Str) (ns:List Str) (vs:List D)|obj (c:Str) (ns:List Str) (vs:List D)
structure Xn where
 c:Str
 ns:List Str
 vs:List D
inductive R(α:Type) where
 |ok (a:α)|ex (x:Xn)|no
namespace R
def bind{α β:Type}(r:R α)(k:α->R β):R β:=match r with
 | .ok a=>k a
 | .ex x=> .ex x
 | .no=> .no
@[simp] theorem bind_ok{α β:Type}(a:α)(k:α->R β):(R.ok a).bind k=k a:=rfl
@[simp] theorem bind_ex{α β:Type}(x:Xn)(k:α->R β):(R.ex x).bind k=.ex x:=rfl
@[simp] theorem bind_no{α β:Type}(k:α->R β):(R.no).bind k=.no:=rfl
end R
inductive Tn where
 |sh (d:D)|lst (ts:List Tn)|tup (ts:List Tn)|dic (zm:List (Ae×Tn))|obj (c:Str) (ns:List Str) (ts:List Tn)
mutual
def Tn.d:Tn->D
 | .sh d=>d
 | .lst ts=> .lst (Tn.ds ts)
 | .tup ts=> .tup (Tn.ds ts)
 | .dic zm=> .dic (Tn.ks zm)
 | .obj c ns ts=> .obj c ns (Tn.ds ts)
def Tn.ds:List Tn->List D
 | []=> []
 |t::ts=>t.d::Tn.ds ts
def Tn.ks:List (Ae×Tn)->List (Ae×D)
 | []=> []
 |(k,t)::ts=>(k,t.d)::Tn.ks ts
end
def Tn.of:D->Tn
 | .lst ds=> .lst (ds.map .sh)
 | .dic kvs=> .dic (kvs.map λp=>(p.1,.sh p.2))
 | .obj c ns vs=> .obj c ns (vs.map .sh)
 |d=> .sh d
theorem Tn.ds_sh:∀ds:List D,Tn.ds (ds.map .sh)=ds
 | []=>rfl
 |d::ds=>by
  show(Tn.sh d).d::Tn.ds (ds.map .sh)=_;rw[Tn.ds_sh ds];rfl
theorem Tn.ks_sh:∀kvs:List (Ae×D),Tn.ks (kvs.map λp=>(p.1,Tn.sh p.2))=kvs
 | []=>rfl
 |(k,d)::kvs=>by
  show(k,(Tn.sh d).d)::Tn.ks (kvs.map λp=>(p.1,Tn.sh p.2))=_;rw[Tn.ks_sh kvs];rfl
theorem Tn.ks_fst:∀zm:List (Ae×Tn),(Tn.ks zm).map (·.1)=zm.map (·.1)
 | []=>rfl
 |(k,t)::zm=>by show k::(Tn.ks zm).map (·.1)=_;rw[Tn.ks_fst zm];rfl
theorem Tn.ks_snd:∀zm:List (Ae×Tn),(Tn.ks zm).map (·.2)=Tn.ds (zm.map (·.2))
 | []=>rfl
 |(k,t)::zm=>by show t.d::(Tn.ks zm).map (·.2)=_;rw[Tn.ks_snd zm];rfl
def Tn.of_d(d:D):(Tn.of d).d=d:=by
 cases d with
 |lst ds=>show D.lst (Tn.ds (ds.map .sh))=_;rw[Tn.ds_sh]
 |dic kvs=>show D.dic (Tn.ks (kvs.map λp=>(p.1,.sh p.2)))=_;rw[Tn.ks_sh]
 |obj c ns vs=>show D.obj c ns (Tn.ds (vs.map .sh))=_;rw[Tn.ds_sh]
 |_=>rfl
inductive W where
 |sh (d:D)|ow (d:D)|tr (t:Tn)
def W.d:W->D
 | .sh d=>d
 | .ow d=>d
 | .tr t=>t.d
@[simp] theorem W.d_sh(d:D):(W.sh d).d=d:=rfl
@[simp] theorem W.d_ow(d:D):(W.ow d).d=d:=rfl
@[simp] theorem W.d_tr(t:Tn):(W.tr t).d=t.d:=rfl
def ClsAt(K:Frag)(c:Str)(C:Addr):Prop:=nsIn K mainGlobals c=some (some (.ref C))
def XO(a C:Addr)(dx:Option Addr):HO:=.ext λh=>∃us sl,h.get? a=some ⟨.ref C,dx,.fields us,sl⟩/\us[2]? =some .none
mutual
inductive Has(K:Frag)(G:Hp):V->D->Prop where
 |non:Has K G .non .non
 |bl (b:Bool):Has K G (.bl b) (.bl b)
 |int (i:Int):Has K G (.int i) (.int i)
 |str (x:Str):Has K G (.str x) (.str x)
 |lst {a:Addr} {vs:List V} {ds:List D} (h:SqL K G a vs) (r:HasL K G vs ds):Has K G (.ref a) (.lst ds)
 |tup {a:Addr} {vs:List V} {ds:List D} (h:SqT K G a vs) (r:HasL K G vs ds):Has K G (.ref a) (.tup ds)
 |exn0 {a C:Addr} {o:Obj} {c:Str} (hc:ClsAt K c C) (h:G a=some (.frz o (XO a C none))):Has K G (.ref a) (.exn c [] [])
 |exn1 {a C d:Addr} {o:Obj} {c:Str} {ns:List Str} {us:List V} {vs:List D} (hc:ClsAt K c C) (h:G a=some (.frz o (XO a C (some d)))) (hd:G d=some (.xd (ns.zip us))) (hl:ns.length=us.length) (r:HasL K G us vs):Has K G (.ref a) (.exn c ns vs)
 |dic {a:Addr} {kvs:List (Ae×V)} {kds:List (Ae×D)} (h:Rd G a (.dK kvs)) (hk:kvs.map (·.1)=kds.map (·.1)) (r:HasL K G (kvs.map (·.2)) (kds.map (·.2))):Has K G (.ref a) (.dic kds)
 |obj {a C dx:Addr} {c:Str} {ns:List Str} {us:List V} {vs:List D} (hc:ClsAt K c C) (h:G a=some (.ins C dx (ns.zip us))) (hl:ns.length=us.length) (r:HasL K G us vs):Has K G (.ref a) (.obj c ns vs)
inductive HasL(K:Frag)(G:Hp):List V->List D->Prop where
 |nil:HasL K G [] []
 |cons {v:V} {d:D} {vs:List V} {ds:List D} (h:Has K G v d) (r:HasL K G vs ds):HasL K G (v::vs) (d::ds)
end
abbrev AS:=Addr->Prop
mutual
inductive Ow(K:Frag)(G H:Hp):V->Tn->AS->Prop where
 |sh {v:V} {d:D} {S:AS} (h:Has K G v d):Ow K G H v (.sh d) S
 |lst {a:Addr} {vs:List V} {ts:List Tn} {S S1:AS} (h:H a=some (.lst vs)) (ha:S a) (sub:∀b,S1 b->S b/\b≠a) (r:OwL K G H vs ts S1):Ow K G H (.ref a) (.lst ts) S
 |tup {a:Addr} {vs:List V} {ts:List Tn} {S S1:AS} (h:H a=some (.tup vs)) (ha:S a) (sub:∀b,S1 b->S b/\b≠a) (r:OwL K G H vs ts S1):Ow K G H (.ref a) (.tup ts) S
 |dic {a:Addr} {kvs:List (Ae×V)} {zm:List (Ae×Tn)} {S S1:AS} (h:H a=some (.dK kvs)) (hk:kvs.map (·.1)=zm.map (·.1)) (ha:S a) (sub:∀b,S1 b->S b/\b≠a) (r:OwL K G H (kvs.map (·.2)) (zm.map (·.2)) S1):Ow K G H (.ref a) (.dic zm) S
 |obj {a C dx:Addr} {c:Str} {ns:List Str} {us:List V} {ts:List Tn} {S S1:AS} (hc:ClsAt K c C) (h:H a=some (.ins C dx (ns.zip us))) (hl:ns.length=us.length) (ha:S a) (sub:∀b,S1 b->S b/\b≠a) (r:OwL K G H us ts S1):Ow K G H (.ref a) (.obj c ns ts) S
inductive OwL(K:Frag)(G H:Hp):List V->List Tn->AS->Prop where
 |nil {S:AS}:OwL K G H [] [] S
 |cons {v:V} {t:Tn} {vs:List V} {ts:List Tn} {S S1 S2:AS} (h:Ow K G H v t S1) (r:OwL K G H vs ts S2) (dj:∀b,S1 b->S2 b->False) (s1:∀b,S1 b->S b) (s2:∀b,S2 b->S b):OwL K G H (v::vs) (t::ts) S
end
def Same.rdD{H H':Hp}{a:Addr}{u:HO}(e:Same H H')(h:Rd H a u):Rd H' a u:=by
 rcases h with h|⟨o,h⟩
 ·exact .inl (e _ _ h)
 ·exact .inr ⟨o,e _ _ h⟩
def Same.tupS{H H':Hp}{a:Addr}{xs:List V}(e:Same H H')(h:SqT K H a xs):SqT K H' a xs:=by
 rcases h with(h|⟨o,h⟩)|h
 ·exact .inl (.inl (e _ _ h))
 ·exact .inl (.inr ⟨o,e _ _ h⟩)
 ·exact .inr h
mutual
theorem Has.mono{G G':Hp}(e:Same G G'):∀{v:V} {d:D},Has K G v d->Has K G' v d
 |_,_,.non=> .non
 |_,_,.bl b=> .bl b
 |_,_,.int i=> .int i
 |_,_,.str x=> .str x
 |_,_,.lst h r=> .lst (e.seq h) (HasL.mono e r)
 |_,_,.tup h r=> .tup (Same.tupS e h) (HasL.mono e r)
 |_,_,.exn0 hc h=> .exn0 hc (e _ _ h)
 |_,_,.exn1 hc h hd hl r=> .exn1 hc (e _ _ h) (e _ _ hd) hl (HasL.mono e r)
 |_,_,.dic h hk r=> .dic (Same.rdD e h) hk (HasL.mono e r)
 |_,_,.obj hc h hl r=> .obj hc (e _ _ h) hl (HasL.mono e r)
theorem HasL.mono{G G':Hp}(e:Same G G'):∀{vs:List V} {ds:List D},HasL K G vs ds->HasL K G' vs ds
 |_,_,.nil=> .nil
 |_,_,.cons h r=> .cons (Has.mono e h) (HasL.mono e r)
end
theorem HasL.length{G:Hp}:∀{vs:List V} {ds:List D},HasL K G vs ds->vs.length=ds.length
 |_,_,.nil=>rfl
 |_,_,.cons _ r=>by rw[B4,B4,r.length]
theorem HasL.append{G:Hp}:∀{vs ws:List V} {ds es:List D},HasL K G vs ds->HasL K G ws es->HasL K G (vs ++ ws) (ds ++ es)
 |_,_,_,_,.nil,s=>s
 |_,_,_,_,.cons h r,s=> .cons h (r.append s)
theorem HasL.get{G:Hp}:∀{vs:List V} {ds:List D} {i:Nat} {d:D},HasL K G vs ds->ds[i]? =some d->∃v,vs[i]? =some v/\Has K G v d
 |_,_,_,_,.nil,e=>by simp at e
 |_,_,0,_,.cons h _,e=>by simp at e;subst e;exact⟨_,rfl,h⟩
 |_,_,i + 1,d,.cons _ r,e=>by
  obtain⟨u,h1,h2⟩:=HasL.get (i:=i) (d:=d) r (by simpa using e);exact⟨u,by simpa using h1,h2⟩
theorem HasL.take{G:Hp}:∀{vs:List V} {ds:List D} (n:Nat),HasL K G vs ds->HasL K G (vs.take n) (ds.take n)
 |_,_,0,_=> .nil
 |_,_,_ + 1,.nil=> .nil
 |_,_,n + 1,.cons h r=> .cons h (HasL.take n r)
theorem HasL.set{G:Hp}{d:D}(h:Has K G v d):∀{vs:List V} {ds:List D} (i:Nat),HasL K G vs ds->HasL K G (vs.set i v) (ds.set i d)
 |_,_,_,.nil=> .nil
 |_,_,0,.cons _ r=> .cons h r
 |_,_,i + 1,.cons q r=> .cons q (HasL.set h i r)
mutual
theorem Ow.mono{G G' H H':Hp}(e:Same G G'):∀{v:V} {d:Tn} {S S':AS},Ow K G H v d S->(∀b o,S b->H b=some o->H' b=some o)->(∀b,S b->S' b)->Ow K G' H' v d S'
 |_,_,_,_,.sh h,_,_=> .sh (h.mono e)
 |_,_,_,_,.lst h ha sub r,f,i=> .lst (f _ _ ha h) (i _ ha) (λb hb=>⟨i b (sub b hb).1,(sub b hb).2⟩) (OwL.mono e r (λb o hb q=>f b o (sub b hb).1 q) λ_ q=>q)
 |_,_,_,_,.tup h ha sub r,f,i=> .tup (f _ _ ha h) (i _ ha) (λb hb=>⟨i b (sub b hb).1,(sub b hb).2⟩) (OwL.mono e r (λb o hb q=>f b o (sub b hb).1 q) λ_ q=>q)
 |_,_,_,_,.dic h hk ha sub r,f,i=> .dic (f _ _ ha h) hk (i _ ha) (λb hb=>⟨i b (sub b hb).1,(sub b hb).2⟩) (OwL.mono e r (λb o hb q=>f b o (sub b hb).1 q) λ_ q=>q)
 |_,_,_,_,.obj hc h hl ha sub r,f,i=> .obj hc (f _ _ ha h) hl (i _ ha) (λb hb=>⟨i b (sub b hb).1,(sub b hb).2⟩) (OwL.mono e r (λb o hb q=>f b o (sub b hb).1 q) λ_ q=>q)
theorem OwL.mono{G G' H H':Hp}(e:Same G G'):∀{vs:List V} {ds:List Tn} {S S':AS},OwL K G H vs ds S->(∀b o,S b->H b=some o->H' b=some o)->(∀b,S b->S' b)->OwL K G' H' vs ds S'
 |_,_,_,_,.nil,_,_=> .nil
 |_,_,_,_,.cons h r dj s1 s2,f,i=> .cons (Ow.mono e h (λb o hb q=>f b o (s1 b hb) q) λ_ q=>q) (OwL.mono e r (λb o hb q=>f b o (s2 b hb) q) λ_ q=>q) dj (λb q=>i b (s1 b q)) λb q=>i b (s2 b q)
end
mutual
theorem Ow.has{G G' H:Hp}(e:Same G G'):∀{v:V} {d:Tn} {S:AS},Ow K G H v d S->(∀b o,S b->H b=some o->G' b=some o)->Has K G' v d.d
 |_,_,_,.sh h,_=>h.mono e
 |_,_,_,.lst h ha sub r,f=> .lst (SqL.of (f _ _ ha h)) (OwL.has e r λb o hb q=>f b o (sub b hb).1 q)
 |_,_,_,.tup h ha sub r,f=> .tup (SqT.of (f _ _ ha h)) (OwL.has e r λb o hb q=>f b o (sub b hb).1 q)
 |_,_,_,.dic h hk ha sub r,f=> .dic (.inl (f _ _ ha h)) (by rw[Tn.ks_fst];exact hk) (by rw[Tn.ks_snd];exact OwL.has e r λb o hb q=>f b o (sub b hb).1 q)
 |_,_,_,.obj hc h hl ha sub r,f=> .obj hc (f _ _ ha h) hl (OwL.has e r λb o hb q=>f b o (sub b hb).1 q)
theorem OwL.has{G G' H:Hp}(e:Same G G'):∀{vs:List V} {ds:List Tn} {S:AS},OwL K G H vs ds S->(∀b o,S b->H b=some o->G' b=some o)->HasL K G' vs (Tn.ds ds)
 |_,_,_,.nil,_=> .nil
 |_,_,_,.cons h r dj s1 s2,f=> .cons (Ow.has e h λb o hb q=>f b o (s1 b hb) q) (OwL.has e r λb o hb q=>f b o (s2 b hb) q)
end
theorem OwL.of{G H:Hp}:∀{vs:List V} {ds:List D} {S:AS},HasL K G vs ds->OwL K G H vs (ds.map .sh) S
 |_,_,_,.nil=> .nil
 |_,_,_,.cons h r=> .cons (S1:=λ_=>False) (S2:=λ_=>False) (.sh h) (OwL.of r) (λ_ z _=>z) (λ_ z=>z.elim) λ_ z=>z.elim
theorem OwL.off{G H:Hp}:∀{vs:List V} {ds:List D} {S:AS},OwL K G H vs (ds.map .sh) S->HasL K G vs ds
 |_,[],_,h=>by cases h;exact .nil
 |_,d::ds,_,h=>by
  cases h with
  |cons h r dj s1 s2=>
   cases h with
   |sh h=>exact .cons h (OwL.off r)
theorem OwL.length{G H:Hp}:∀{vs:List V} {ds:List Tn} {S:AS},OwL K G H vs ds S->vs.length=ds.length
 |_,_,_,.nil=>rfl
 |_,_,_,.cons _ r _ _ _=>by rw[B4,B4,r.length]
def Ow.list{G H:Hp}{a:Addr}{vs:List V}{ds:List D}{S:AS}(h:H a=some (.lst vs))(ha:S a)(r:HasL K G vs ds):Ow K G H (.ref a) (Tn.of (.lst ds)) S:=
 .lst (S1:=λ_=>False) h ha (λ_ z=>z.elim) (.of r)
def Ow.list_of{G H:Hp}{ds:List D}{S:AS}(t:Ow K G H v (Tn.of (.lst ds)) S):∃a vs,v=.ref a/\S a/\H a=some (.lst vs)/\HasL K G vs ds:=by
 cases t with
 |lst h ha sub r=>exact⟨_,_,rfl,ha,h,r.off⟩
def cm_9(kds:List (Ae×D)):(kds.map λp=>(p.1,Tn.sh p.2)).map (·.2)=(kds.map (·.2)).map Tn.sh:=by
 rw[F8,F8];rfl
def by_8(kds:List (Ae×D)):(kds.map λp=>(p.1,Tn.sh p.2)).map (·.1)=kds.map (·.1):=by
 rw[F8];rfl
def Ow.dict{G H:Hp}{a:Addr}{kvs:List (Ae×V)}{kds:List (Ae×D)}{S:AS}(h:H a=some (.dK kvs))(hk:kvs.map (·.1)=kds.map (·.1))(ha:S a)(r:HasL K G (kvs.map (·.2)) (kds.map (·.2))):Ow K G H (.ref a) (Tn.of (.dic kds)) S:=
 .dic (S1:=λ_=>False) h (by rw[by_8];exact hk) ha (λ_ z=>z.elim) (by rw[cm_9];exact .of r)
def Ow.dict_of{G H:Hp}{kds:List (Ae×D)}{S:AS}(t:Ow K G H v (Tn.of (.dic kds)) S):∃a kvs,v=.ref a/\S a/\H a=some (.dK kvs)/\kvs.map (·.1)=kds.map (·.1)/\HasL K G (kvs.map (·.2)) (kds.map (·.2)):=by
 generalize e:Tn.of (.dic kds)=t' at t;cases t with
 |dic h hk ha sub r=>
  injection e with e
  subst e;rw[cm_9]at r;rw[by_8]at hk;exact⟨_,_,rfl,ha,h,hk,r.off⟩
 |_=>cases e
structure Step(G H G' H':Hp):Prop where
 hh:Same H H'
 gh:Same G' H'
 gg:Same G G'
 nw:∀b,G b=none->H b≠none->G' b=none
theorem Step.refl{G H:Hp}(h:Same G H):Step G H G H:=⟨Same.refl _,h,Same.refl _,λ_ e _=>e⟩
theorem Step.trans{G H G1 H1 G2 H2:Hp}(a:Step G H G1 H1)(b:Step G1 H1 G2 H2):Step G H G2 H2:=
 ⟨a.hh.trans b.hh,b.gh,a.gg.trans b.gg,λc e n=>b.nw c (a.nw c e n) λz=>n (a.hh.free z)⟩
def h_9{p:Addr}(h:H p=none)(o:HO):Same H (upd H p o):=λb u q=>by rw[Aq (Ej q h)];exact q
def as_5{G H:Hp}(h:Same G H)(p:Addr)(o:HO):Same (upd G p o) (upd H p o):=λb u q=>by
 by_cases e:b=p
 ·subst e;rw[Bj]at q⊢;exact q
 ·rw[Aq e]at q⊢;exact h b u q
def Step.new{G H:Hp}(h:Same G H){p:Addr}(e:H p=none)(o:HO):Step G H (L2.upd G p o) (L2.upd H p o):=
 ⟨h_9 e o,as_5 h p o,h_9 (h.free e) o,λb n z=>by
  by_cases q:b=p
  ·subst q;exact absurd e z
  ·rw[Aq q];exact n⟩
def Step.own{G H:Hp}(h:Same G H){p:Addr}(e:H p=none)(o:HO):Step G H G (L2.upd H p o):=
 ⟨h_9 e o,h.trans (h_9 e o),Same.refl _,λ_ n _=>n⟩
open Classical in
def Cz(G H:Hp)(S:AS):Hp:=λb=>if S b then H b else G b
def WP(K:Frag)(G H:Hp)(w:W)(Q:VK):Prop:=match w with
 | .sh d=>∀v G' H',Step G H G' H'->Has K G' v d->Q v H'
 | .ow d=>∀v S G' H',Step G H G' H'->(∀a,S a->H a=none/\G' a=none/\H' a≠none)->Ow K G' H' v (Tn.of d) S->Q v H'
 | .tr t=>∀v S G' H',Step G H G' H'->(∀a,S a->H a=none/\G' a=none/\H' a≠none)->Ow K G' H' v t S->Q v H'
structure EXT where
 p:Xn->Hp->Hp->Prop
 mono:∀x G H G' H',Step G H G' H'->p x G H->p x G' H'
def EX0:EXT:=⟨λ_ _ _=>False,λ_ _ _ _ _ _ h=>h⟩
abbrev Au:=Sg->EXT
def Fy:Au:=λ_=>EX0
def Out(K:Frag)(EX:EXT)(G H:Hp)(r:R W)(Q:VK):Prop:=match r with
 | .ok w=>WP K G H w Q
 | .ex x=>EX.p x G H
 | .no=>False
section
variable{K:Frag}{EX:EXT}{G H G' H':Hp}{Q Q':VK}{w:W}
def WP.mono(s:Step G H G' H')(h:WP K G H w Q):WP K G' H' w Q:=by
 cases w with
 |sh d=>exact λv G2 H2 s2 r=>h v G2 H2 (s.trans s2) r
 |ow d=>exact λv S G2 H2 s2 fr t=>h v S G2 H2 (s.trans s2) (λa ha=>⟨s.hh.free (fr a ha).1,(fr a ha).2⟩) t
 |tr d=>exact λv S G2 H2 s2 fr t=>h v S G2 H2 (s.trans s2) (λa ha=>⟨s.hh.free (fr a ha).1,(fr a ha).2⟩) t
theorem Out.mono{r:R W}(s:Step G H G' H')(h:Out K EX G H r Q):Out K EX G' H' r Q:=by
 cases r with
 |ok w=>exact WP.mono s h
 |ex x=>exact EX.mono _ _ _ _ _ s h
 |no=>exact h
def WP.join{t:Tn}{S:AS}(h:∀v G' H',Step G H G' H'->Has K G' v t.d->Q v H')(s:Step G H G' H')(fr:∀a,S a->H a=none/\G' a=none/\H' a≠none)(t:Ow K G' H' v t S):Q v H':=by
 have sg:Same G' (Cz G' H' S):=λb o q=>by
  unfold Cz
  split
  ·rename_i hb;rw[(fr b hb).2.1]at q;cases q
  ·exact q
 refine h v (Cz G' H' S) H' ⟨s.hh,λb o q=> ?_,s.gg.trans sg,λb n z=> ?_⟩ (t.has sg λb o hb q=> ?_)
 ·unfold Cz at q
  split at q
  ·exact q
  ·exact s.gh b o q
 ·unfold Cz
  split
  ·rename_i hb;exact absurd (fr b hb).1 z
  ·exact s.nw b n z
 ·unfold Cz;rw[if_pos hb];exact q
def WP.intro(h:∀v G' H',Step G H G' H'->Has K G' v w.d->Q v H'):WP K G H w Q:=by
 cases w with
 |sh d=>exact h
 |ow d=>exact λv S G' H' s fr t=>WP.join (t:=Tn.of d) (by rw[Tn.of_d];exact h) s fr t
 |tr d=>exact λv S G' H' s fr t=>WP.join h s fr t
theorem WP.sh(h:WP K G H (.sh w.d) Q):WP K G H w Q:=WP.intro h
def WP.use{d:D}(h:WP K G H (.sh d) Q)(s:Same G H)(r:Has K G v d):Q v H:=h v G H (Step.refl s) r
end
inductive ExcAt(K:Frag)(G:Hp):Value->Option Addr->Xn->Prop where
 |bare {C:Addr} {c:Str} (hc:ClsAt K c C):ExcAt K G (.ref C) none ⟨c,[],[]⟩
 |with_ {C d:Addr} {c:Str} {ns:List Str} {us:List V} {vs:List D} (hc:ClsAt K c C) (hd:G d=some (.xd (ns.zip us))) (hl:ns.length=us.length) (r:HasL K G us vs):ExcAt K G (.ref C) (some d) ⟨c,ns,vs⟩
def EXof(K:Frag)(E:XK):EXT:=⟨λx G H=>∀cls dx G' H',Step G H G' H'->ExcAt K G' cls dx x->E cls dx H',λ_ _ _ _ _ s h cls dx G2 H2 s2=>h cls dx G2 H2 (s.trans s2)⟩
def EXE(K:Frag)(EX:EXT):XK:=λcls dx H=>∃x G,Same G H/\ExcAt K G cls dx x/\EX.p x G H
def EXE.of{E:XK}{cls:Value}{dx:Option Addr}(h:EXE K (EXof K E) cls dx H):E cls dx H:=by
 obtain⟨x,G,s,e,q⟩:=h;exact q cls dx G H (Step.refl s) e
def EXof.in{EX:EXT}{G H:Hp}{x:Xn}(q:EX.p x G H):(EXof K (EXE K EX)).p x G H:=λ_ _ G' H' st e=>⟨x,G',st.gh,e,EX.mono _ _ _ _ _ st q⟩
abbrev DE:=List (Option D)
abbrev FE:=DE->R W
abbrev FT:=DE->R Bool
abbrev FA:=DE->R (List D)
structure HasS(K:Frag)(G:Hp)(σ:Sg)(δ:DE):Prop where
 len:σ.length=δ.length
 get:∀(i:Nat) (d:D),δ[i]? =some (some d)->∃v,σ[i]? =some (some v)/\Has K G v d
theorem HasS.mono{G G':Hp}{σ:Sg}{δ:DE}(e:Same G G')(h:HasS K G σ δ):HasS K G' σ δ:=⟨h.len,λi d q=>by
 obtain⟨v,e1,r⟩:=h.get i d q;exact⟨v,e1,r.mono e⟩⟩
def tD(K:Frag)(EX:Au)(f:FE):TE:=λ σ H Q=>∃G δ,Same G H/\HasS K G σ δ/\Out K (EX σ) G H (f δ) Q
def tDt(K:Frag)(EX:Au)(f:FT):TT:=λ σ H Q=>∃G δ,Same G H/\HasS K G σ δ/\match f δ with
 | .ok b=>∀G' H',Step G H G' H'->Q b H'
 | .ex x=>(EX σ).p x G H
 | .no=>False
def tDa(K:Frag)(EX:Au)(f:FA):TA:=λ σ H Q=>∃G δ,Same G H/\HasS K G σ δ/\match f δ with
 | .ok ds=>∀vs G' H',Step G H G' H'->HasL K G' vs ds->Q vs H'
 | .ex x=>(EX σ).p x G H
 | .no=>False
abbrev ED(X:Cx)(EX:Au)(e:Expr)(f:FE):Prop:=PE X e (tD X.K EX f)
abbrev TD(X:Cx)(EX:Au)(e:Expr)(f:FT):Prop:=PT X e (tDt X.K EX f)
abbrev AD(X:Cx)(EX:Au)(es:List Expr)(f:FA):Prop:=PA X es (tDa X.K EX f)
def PE.imp{e:Expr}{t t':TE}(h:PE X e t)(i:∀σ H Q,t' σ H Q->t σ H Q):PE X e t':=λzd s σ H Q I q=>h zd s σ H Q I (i σ H Q q)
def PT.imp{e:Expr}{t t':TT}(h:PT X e t)(i:∀σ H Q,t' σ H Q->t σ H Q):PT X e t':=λzd s σ H Q I q=>h zd s σ H Q I (i σ H Q q)
def PW.imp{e:Expr}{t t':TT}(h:PW X e t)(i:∀σ H Q,t' σ H Q->t σ H Q):PW X e t':=λwh zd s σ H Q I q=>h wh zd s σ H Q I (i σ H Q q)
def PA.imp{e:List Expr}{t t':TA}(h:PA X e t)(i:∀σ H Q,t' σ H Q->t σ H Q):PA X e t':=λpos zd s σ H Q I q=>h pos zd s σ H Q I (i σ H Q q)
def PS.imp{e:Stmt}{t t':TS}(h:PS X e t)(i:∀D σ H,t' D σ H->t D σ H):PS X e t':=λzd s σ H D I q=>h zd s σ H D I (i D σ H q)
def PSs.imp{e:List Stmt}{t t':TS}(h:PSs X e t)(i:∀D σ H,t' D σ H->t D σ H):PSs X e t':=λzd s σ H D I q=>h zd s σ H D I (i D σ H q)
section
variable{K:Frag}{EX:Au}{G H:Hp}{σ:Sg}{δ:DE}{Q:VK}
def tD.seq{f:FE}{k:W->R W}{P:VK}(g:Same G H)(s:HasS K G σ δ)(h:Out K (EX σ) G H ((f δ).bind k) Q)
  (i:∀w v G' H',f δ=.ok w->Step G H G' H'->Has K G' v w.d->Out K (EX σ) G' H' (k w) Q->P v H'):tD K EX f σ H P:=by
 refine⟨G,δ,g,s, ?_⟩;cases e:f δ with
 |ok w=>
  rw[e]at h;exact WP.intro λv G' H' st r=>i w v G' H' e st r (Out.mono st h)
 |ex x=>rw[e]at h;exact h
 |no=>rw[e]at h;exact h
def tDt.seq{f:FT}{k:Bool->R W}{P:Bool->Hp->Prop}(g:Same G H)(s:HasS K G σ δ)(h:Out K (EX σ) G H ((f δ).bind k) Q)
  (i:∀b G' H',f δ=.ok b->Step G H G' H'->Out K (EX σ) G' H' (k b) Q->P b H'):tDt K EX f σ H P:=by
 refine⟨G,δ,g,s, ?_⟩;cases e:f δ with
 |ok w=>
  rw[e]at h;exact λG' H' st=>i w G' H' e st (Out.mono st h)
 |ex x=>rw[e]at h;exact h
 |no=>rw[e]at h;exact h
abbrev AF:=List D->R W
def tDa.seq{f:FA}{k:AF}{P:List V->Hp->Prop}(g:Same G H)(s:HasS K G σ δ)(h:Out K (EX σ) G H ((f δ).bind k) Q)
  (i:∀ds vs G' H',f δ=.ok ds->Step G H G' H'->HasL K G' vs ds->Out K (EX σ) G' H' (k ds) Q->P vs H'):tDa K EX f σ H P:=by
 refine⟨G,δ,g,s, ?_⟩;cases e:f δ with
 |ok w=>
  rw[e]at h;exact λvs G' H' st r=>i w vs G' H' e st r (Out.mono st h)
 |ex x=>rw[e]at h;exact h
 |no=>rw[e]at h;exact h
end
def ac_2{EX:EXT}{G H:Hp}{Q:VK}{ds:List D}{vs:List V}(o:Out K EX G H (.ok (.ow (.lst ds))) Q)(g:Same G H)(r:HasL K G vs ds):∀p,H p=none->Q (.ref p) (upd H p (.lst vs)):=
 λp hp=>o (.ref p) (λb=>b=p) G _ (Step.own g hp _) (λa e=>by subst e;exact⟨hp,g.free hp,by rw[Bj];simp⟩) (.list Bj rfl r)
end L3
namespace L3
open PySem PySem.Spec PyProof.Rows L2
variable{K:Frag}{fd:FuncData}{mg:AB}{us:List Value}{base:Heap}{H:Hp}{X:Cx}{pos:Pos}{v:V}
def HdOk(A:Around)(h:Heap):Prop:=A.handled=none\/∃(x:Addr) (o:Obj) (us:Array Value),A.handled=some (.ref x)/\h.get? x=some o/\o.data=.fields us/\us[2]? =some .none
def HdOk.kept{A:Around}{h h':Heap}(z:HdOk A h)(k:∀(x:Addr) (o:Obj),A.handled=some (.ref x)->h.get? x=some o->h'.get? x=some o):HdOk A h':=by
 rcases z with z|⟨x,o,us,e,g,r⟩
 ·exact .inl z
 ·exact .inr ⟨x,o,us,e,k x o e g,r⟩
section
variable{prog:Program}{w:World}{A:Around}{E:AA}{s:Shared}
end
structure Tr(h:Heap)(a C:Addr)(dx:Option Addr)(fl:Value)(T:Addr):Prop where
 ob:∃o us,h.get? a=some o/\o.cls=.ref C/\o.dict=dx/\o.data=.fields us/\us[1]? =some (.ref T)/\us[2]? =some .none
 ne:T≠a
 tb:∃o us,h.get? T=some o/\o.data=.fields us/\us[3]? =some fl
structure KeepX(xs fr:List Addr)(h h':Heap):Prop where
 same:∀b o,b∉xs->b∉fr->h.get? b=some o->h'.get? b=some o
 slot:∀b o,b∉xs->h.get? b=some o->∃sl,h'.get? b=some {o with slots:=sl}
def KeepX.trans{xs ys fr:List Addr}{h1 h2 h3:Heap}(a:KeepX xs fr h1 h2)(b:KeepX ys fr h2 h3):KeepX (xs ++ ys) fr h1 h3:=
 ⟨λc o n m e=>b.same c o (λz=>n (B7 _ z)) m (a.same c o (λz=>n (J9 _ z)) m e),λc o n e=>by
  obtain⟨sl,e1⟩:=a.slot c o (λz=>n (J9 _ z)) e;obtain⟨sl',e2⟩:=b.slot c _ (λz=>n (B7 _ z)) e1;exact⟨sl',e2⟩⟩
def KeepX.of_same{xs fr:List Addr}{h h':Heap}(k:∀b o,b∉xs->h.get? b=some o->h'.get? b=some o):KeepX xs fr h h':=
 ⟨λb o n _ e=>k b o n e,λb o n e=>⟨o.slots,k b o n e⟩⟩
def cn_0(o:Obj)(f:Array Value->Array Value):(o.mapFields f).dict=o.dict:=by
 obtain⟨c,d,dt,sl⟩:=o;cases dt <;> rfl
section
variable{M:Model}{A:Around}{E:AA}{s:Shared}{env:Env}{outer:List Env}{base:Heap}{L a C:Addr}{dx:Option Addr}{Q:Unit->Shared->Prop}
def by_9{o:Obj}{us:Array Value}{head:Value}{b:Bool}(hfr:A.frames=some (env::outer))(hl:s.heap.FunFrames base (env::outer))(hf:env.frame=some L)
  (he:s.heap.get? a=some o) (hc:o.cls=.ref C) (hx:o.dict=dx) (hd:o.data=.fields us) (hz:1 < us.size) (c2:us[2]? =some .none)
  (h:∀h' T,s.heap.objs.size<=T->KeepX [a] (frs (env::outer)) s.heap h'->Tr h' a C dx (rawInt L) T->Q .unit {s with heap:=h'}):
  wpAny M A (do let fv<-frameOf env;let pl<-entryPlaceOf L b;let en<-EntryCells.newEntry head fv .none (rawInt L) .none pl;setField (.ref a) 1 en) Q E s:=by
 have nfr:a∉frs (env::outer):=λhm=>by
  obtain⟨_,u,hu,hn⟩:=hl.mem hm;rw[he]at hu;cases hu;exact hn us hd
 refine A7 (wpAny_frameOf_fun hfr hl hf λh1 so=> ?_);refine A7 (wpAny_entryPlaceOf λpl hpl=> ?_);unfold EntryCells.newEntry newFields;refine A7 (Y8 ?_ (hpl.sizeOk5 _ _ _ _ _));have e1:h1.get? a=some o:=(so.2.1 a nfr).trans he;generalize hT:({cls:=.type "traceback",dict:=none,data:=.fields ([head,.ref L,.none,rawInt L,.none] ++ (if pl.isEmpty then List.replicate 6 Value.none else pl)).toArray}:Obj)=oT;have eT:oT.data=.fields ([head,.ref L,.none,rawInt L,.none] ++ (if pl.isEmpty then List.replicate 6 Value.none else pl)).toArray:=by rw[<-hT]
 have e2:(h1.push oT).get? a=some o:=A4 oT e1;refine ZC0 e2 hd hz ?_;have sz:h1.objs.size=s.heap.objs.size:=so.1;have ltA:a < s.heap.objs.size:=A5 he;have neT:h1.objs.size≠a:=λz=>absurd ltA (by rw[<-z,sz];exact D7 _);have d3:=Y0 hd (·.setIfInBounds 1 (Value.ref h1.objs.size));refine h _ h1.objs.size (by rw[sz];exact B5 _) ⟨λb u n m e=> ?_,λb u n e=> ?_⟩ ⟨⟨_,_,R9 _ e2 (V4 d3),(Obj.cls_mapFields _ _).trans hc,(cn_0 _ _).trans hx,d3, ?_, ?_⟩,neT,⟨oT,_, ?_,eT, ?_⟩⟩
 ·have nb:a≠b:=λz=>n (by simp[z]);rw[K1 _ _ nb];exact A4 oT ((so.2.1 b m).trans e)
 ·have nb:a≠b:=λz=>n (by simp[z]);obtain⟨sl,es⟩:=so.2.2 b u e;exact⟨sl,by rw[K1 _ _ nb];exact A4 oT es⟩
 ·simp[hz]
 ·rw[<-c2];simp
 ·rw[K1 _ _ (Ne.symm neT)];exact B9 h1 (V4 eT)
 ·first|(simp;done)|(rcases hpl with rfl|⟨_,_,_,_,_,_,_,rfl⟩ <;> simp)
def bt_9{o:Obj}{us:Array Value}(hfr:A.frames=some (env::outer))(hl:s.heap.FunFrames base (env::outer))(hf:env.frame=some L)
  (he:s.heap.get? a=some o) (hc:o.cls=.ref C) (hx:o.dict=dx) (hd:o.data=.fields us) (h1:us[1]? =some .none) (c2:us[2]? =some .none)
  (h:∀h' T,s.heap.objs.size<=T->KeepX [a] (frs (env::outer)) s.heap h'->Tr h' a C dx (rawInt L) T->Q .unit {s with heap:=h'}):wpAny M A (noteFrame (.ref a) env) Q E s:=by
 unfold noteFrame;simp only[hf];refine A7 (ZC1 he hd h1 ?_);rw[if_neg ⋯];exact by_9 hfr hl hf he hc hx hd (P2.mp h1).1 c2 h
def ba_9{T0:Addr}(hfr:A.frames=some (env::outer))(hl:s.heap.FunFrames base (env::outer))(hf:env.frame=some L)(t:Tr s.heap a C dx .none T0)
  (h:∀h' T,s.heap.objs.size<=T->KeepX [a,T0] (frs (env::outer)) s.heap h'->Tr h' a C dx (rawInt L) T->Q .unit {s with heap:=h'}):wpAny M A (noteFrame (.ref a) env) Q E s:=by
 obtain⟨⟨o,us,he,hc,hx,hd,h1,c2⟩,ne,⟨oT,ws,hT,hdT,h3⟩⟩:=t;unfold noteFrame;simp only[hf];refine A7 (ZC1 he hd h1 ?_);rw[if_pos (show(Value.ref T0 != Value.none)=true from by simp)];refine A7 (ZC1 hT hdT h3 ?_);rw[if_neg (show¬((Value.none ==rawInt L)=true) from by simp[rawInt])];refine A7 (ZC0 hT hdT (P2.mp h3).1 ?_);have oth:∀b,b≠T0->(s.heap.update T0 (Obj.mapFields (·.setIfInBounds 3 Value.none))).get? b=s.heap.get? b:=λb hb=>K1 _ _ (Ne.symm hb);have fj:∀b u,s.heap.get? b=some u->(∀zs,u.data≠ .fields zs)->b≠T0:=λb u hb hn q=>by
  subst q;rw[hT]at hb;cases hb;exact hn ws hdT
 refine by_9 (s:={s with heap:=s.heap.update T0 (Obj.mapFields (·.setIfInBounds 3 Value.none))}) hfr (hl.of_keeps λb u hb hn=>⟨u,(oth b (fj b u hb hn)).trans hb,rfl⟩) hf ((oth a (Ne.symm ne)).trans he) hc hx hd (P2.mp h1).1 c2 λh' T n k tr=>h h' T ?_ ?_ tr
 ·have zz:(s.heap.update T0 (Obj.mapFields (·.setIfInBounds 3 Value.none))).objs.size=s.heap.objs.size:=Heap.size_update _ _ _;rw[<-zz];exact n
 ·have na:∀b,b∉ [a,T0]->b∉ [a]:=λb nb z=>nb (by rw[D1.mp z];exact D5);have nT:∀b,b∉ [a,T0]->b≠T0:=λb nb z=>nb (by rw[z];simp);exact⟨λb u nb m e=>k.same b u (na b nb) m ((oth b (nT b nb)).trans e),λb u nb e=>k.slot b u (na b nb) ((oth b (nT b nb)).trans e)⟩
def u_7{T:Addr}{fl:Value}(t:Tr s.heap a C dx fl T)(h:∀h',(∀b o,b∉ [T]->s.heap.get? b=some o->h'.get? b=some o)->Tr h' a C dx .none T->Q .unit {s with heap:=h'}):wpAny M A (setFlight (.ref a) none) Q E s:=by
 obtain⟨⟨o,us,he,hc,hx,hd,h1,c2⟩,ne,⟨oT,ws,hT,hdT,h3⟩⟩:=t;have sz3:3 < ws.size:=(P2.mp h3).1;unfold setFlight;refine A7 (ZC1 he hd h1 ?_);rw[if_pos (show(Value.ref T != Value.none)=true from by simp)];refine ZC0 hT hdT sz3 (h _ (λb u n e=> ?_) ⟨⟨o,us, ?_,hc,hx,hd,h1,c2⟩,ne,⟨_,_,R9 _ hT (V4 (Y0 hdT _)),Y0 hdT _, ?_⟩⟩)
 ·rw[K1 _ _ (λz=>n (by simp[z]))];exact e
 ·rw[K1 _ _ ne];exact he
 ·simp[sz3]
end
def CXr(P:Program)(w:World):CXT:=λouter H s E e s'=>∃a C dx T H',e=.ref a/\s'.os=s.os/\AllBare s'.gens/\Un (frs outer) [] H H' s.heap s'.heap/\HOk P w H' s'.heap/\
 Tr s'.heap a C dx .none T/\H' a=none/\H' T=none/\s.heap.objs.size<=a/\s.heap.objs.size<=T/\E (.ref C) dx H'
section
variable{X:Cx}{zd:AE}{σ:Sg}{H H':Hp}{s s':Shared}
def Inv.settle{ch:List Addr}{h2:Heap}(I:Inv X zd σ H s)(I':Inv X zd σ H' s')(n:∀b∈ch,s.heap.objs.size<=b/\H' b=none)(k:KeepX ch (frs X.stack) s'.heap h2):Inv X zd σ H' {s' with heap:=h2}:=by
 have trk:∀b u,H' b=some u->b∉ch/\b∉frs X.stack:=λb u e=>⟨λz=>(by rw[(n b z).2]at e;cases e),λz=>(by rw[I'.stkFree b z]at e;cases e)⟩;refine I'.step (g':=s'.gens) (d':=s'.drawn) (t':=s'.toks) (ch:=ch) (λb hb=> ?_) (λb o h1 h2 h3 e _=>k.same b o h3 (λz=> ?_) e) (λb o _ _ h3 e _=>k.slot b o h3 e) (λ_ _ _ _ z=>z) (λb o h3 e=> ?_) (λ_ _ z=>z) (λ_ _ _ z=>z) (λb ps z=>⟨#[],by rw[z];simp⟩) (λm hm=> ?_) (λb u e=> ?_) I'.bare
 ·have lb:=(n b hb).1;refine⟨.inr (C5 I.sz lb),λz=> ?_,λx c e z=> ?_,λp hp z=> ?_⟩
  ·exact absurd (C4 I.lt lb) (by rw[z];exact D7 _)
  ·obtain⟨v,hv⟩:=I.cell x c e;exact absurd (C4 hv.lt lb) (by rw[z];exact D7 _)
  ·exact absurd (C4 (A5 (I.pin p hp).1) lb) (by rw[z];exact D7 _)
 ·rcases C6.mp (I'.stkSub b z) with z|z
  ·exact h1 z
  ·exact h2 z
 ·obtain⟨sl,q⟩:=k.slot b o h3 e;exact⟨_,q⟩
 ·obtain⟨o,es,ep,ho,r⟩:=hm;have nl:X.env.locals∉ch:=λz=>absurd (C4 I.lt (n _ z).1) (D7 _);obtain⟨sl,q⟩:=k.slot _ o nl ho;exact⟨_,es,ep,q,r⟩
 ·refine(I'.hok b u e).stay (λc v hc q=> ?_) (λ_ z=>z) λ_ _ z=>z;rcases hc with rfl|hc
  ·exact k.same c v (trk c u e).1 (trk c u e).2 q
  ·exact k.same c v (trk c _ hc).1 (trk c _ hc).2 q
def Inv.raised{E:XK}{e:Value}(I:Inv X zd σ H s)(c:CXr X.prog X.w X.stack H s E e s'):∃a C dx T H',e=.ref a/\Inv X zd σ H' s'/\Tr s'.heap a C dx .none T/\H' a=none/\H' T=none/\s.heap.objs.size<=a/\s.heap.objs.size<=T/\E (.ref C) dx H':=by
 obtain⟨a,C,dx,T,H',e1,os,br,un,hok,tr,n1,n2,z1,z2,q⟩:=c;exact⟨a,C,dx,T,H',e1,I.call' (ch:=[]) os un hok br (λb z=>absurd z (by simp)),tr,n1,n2,z1,z2,q⟩
end
section
variable{cm:Bool}{P:Program}{w:World}{K:Frag}{mg:AB}{base:Heap}{N:List Str}{qual:Str}{scope:Scope}{f:Addr}{cd:Value}{A:Around}{outer:List Env}{s0:Shared}{H0:Hp}{E E':XK}
def cg_2{zd:AE}{σ:Sg}{s s':Shared}{e:Value}(I:Inv ({Ex (CXr P w) P w K mg base N qual scope f cd A outer s0 H0 E with calm:=cm}:Cx) zd σ H s)
  (c:CXr P w ({Ex (CXr P w) P w K mg base N qual scope f cd A outer s0 H0 E with calm:=cm}:Cx).stack H s E' e s') (i:∀cls dx H',E' cls dx H'->E cls dx H'):({Ex (CXr P w) P w K mg base N qual scope f cd A outer s0 H0 E with calm:=cm}:Cx).xe e s':=by
 obtain⟨a,C,dx,T,H',rfl,I',tr,n1,n2,z1,z2,q⟩:=Inv.raised I c;show wpAny (model P w) _ (leaving _ _) _ _ s';unfold leaving;refine A7 (ba_9 I'.ok.frames I'.stack rfl tr λh1 T2 z3 k1 t1=> ?_);refine u_7 t1 λh2 k2 t2=> ?_;have zT2:H' T2=none:=I'.hok.fresh z3;have J:Inv ({Ex (CXr P w) P w K mg base N qual scope f cd A outer s0 H0 E with calm:=cm}:Cx) zd σ H' {s' with heap:=h2}:=by
  refine Inv.settle (ch:=[a,T] ++ [T2]) I I' (λb hb=> ?_) (k1.trans (KeepX.of_same k2));have:b=a\/b=T\/b=T2:=by simpa using hb
  rcases this with rfl|rfl|rfl
  ·exact⟨z1,n1⟩
  ·exact⟨z2,n2⟩
  ·exact⟨C5 (C5 (B5 _) z1) (C5 (Q0 (A5 tr.ob.choose_spec.choose_spec.1)) z3),zT2⟩
 exact⟨a,C,dx,T2,H',rfl,J.os,J.bare,J.base,J.hok,t2,n1,zT2,C5 I.sz z1,C5 I'.sz z3,i _ _ _ q⟩
def bf_3{zd:AE}{σ:Sg}{H H':Hp}{s s':Shared}{a C:Addr}{dx:Option Addr}{o:Obj}{us:Array Value}(I:Inv ({Ex (CXr P w) P w K mg base N qual scope f cd A outer s0 H0 E with calm:=cm}:Cx) zd σ H s)
  (I':Inv ({Ex (CXr P w) P w K mg base N qual scope f cd A outer s0 H0 E with calm:=cm}:Cx) zd σ H' s') (he:s'.heap.get? a=some o) (hc:o.cls=.ref C) (hx:o.dict=dx) (hd:o.data=.fields us) (h1:us[1]? =some .none) (c2:us[2]? =some .none) (n1:H' a=none) (z1:s.heap.objs.size<=a) (q:E (.ref C) dx H'):
  ({Ex (CXr P w) P w K mg base N qual scope f cd A outer s0 H0 E with calm:=cm}:Cx).xe (.ref a) s':=by
 show wpAny (model P w) _ (leaving _ _) _ _ s';unfold leaving;refine A7 (bt_9 I'.ok.frames I'.stack rfl he hc hx hd h1 c2 λh1 T2 z3 k1 t1=> ?_);refine u_7 t1 λh2 k2 t2=> ?_;have zT2:H' T2=none:=I'.hok.fresh z3;have J:Inv ({Ex (CXr P w) P w K mg base N qual scope f cd A outer s0 H0 E with calm:=cm}:Cx) zd σ H' {s' with heap:=h2}:=by
  refine Inv.settle (ch:=[a] ++ [T2]) I I' (λb hb=> ?_) (k1.trans (KeepX.of_same k2));have:b=a\/b=T2:=by simpa using hb
  rcases this with rfl|rfl
  ·exact⟨z1,n1⟩
  ·exact⟨C5 z1 (C5 (Q0 (A5 he)) z3),zT2⟩
 exact⟨a,C,dx,T2,H',rfl,J.os,J.bare,J.base,J.hok,t2,n1,zT2,C5 I.sz z1,C5 I'.sz z3,q⟩
end
section
variable{prog:Program}{w:World}{A:Around}{E:AA}{h:Heap}{g:Array GenState}{d:Drawn}{t:Nat}{os:OsState}
variable{nm q:Str}{C N:Addr}{bs bm bmB:List Value}{ax:Bool}{sn:List Str}{sub:List Value}{ab:Bool}{col:Option Bool}{dd:Option Addr}{k0 k1 k2 k3 k5:Option Value}{B newId ah:String}
def cg_3(FB:ExcBaseFacts B newId ah bmB)(T:OwnTail h bmB bm){mN:AB}{fI:Addr}{oI:Obj}{Q:PySem.Fin->Shared->Prop}
  (hC:h.get? C=some (excClassObj nm q C N bs bm ax sn sub ab col dd k0 k1 k2 k3 k5 newId)) (hn:h.Ns N mN) (hi:mN "__init__" =some (.ref fI)) (ho:h.get? fI=some oI) (hf:oI.cls=.type "function")
  (z:∀h' e,Heap.MadeExcOf h h' e (.ref C) us->h.objs.size<=e->wpAny (model prog w) A (call (.ref fI) (.ref e::us)) (λr s'=>r=.none/\Q (.done (.ret (.ref e))) s') E ⟨h',g,d,t,os⟩) (hu:us.length<=sizeLine):
  wpAny (model prog w) A (Builtin.«type.__call__» ⟨.ref C::us,[]⟩) Q E ⟨h,g,d,t,os⟩:=by
 wp_walk using N1 hC,wpAny_madeBy_exc hC
 refine Y6 (U1 _ FB.quiet) (wpAny_check_new_subT FB T hC ?_);refine codeAny_exc_new_subT FB T hC ?_ hu;show wpAny _ _ _ _ _ _;generalize e1:({cls:=.type "tuple",data:=.seq us.toArray}:Obj)=o1;generalize e2:({cls:=.ref C,data:=.fields #[.ref h.objs.size,.none,.none,.none,.bool false,.none]}:Obj)=o2;have up:∀b o,h.get? b=some o->((h.push o1).push o2).get? b=some o:=λb o e=>A4 _ (A4 _ e);have ge:((h.push o1).push o2).get? (h.objs.size + 1)=some o2:=by
  have:=B9 (h.push o1) (o:=o2) (by rw[<-e2];rfl)
  rwa[L7]at this
 have gt:((h.push o1).push o2).get? h.objs.size=some o1:=A4 _ (B9 h (by rw[<-e1];rfl));have hC1:=up _ _ hC;have hn1:((h.push o1).push o2).Ns N mN:=hn.keeps up;have cl:o2.cls=.ref C:=by rw[<-e2]
 have hcC:List.contains (Value.ref C::bm) (.ref C)=true:=S3.mpr (.head _);unfold isInstance
 repeat (first|(with_reducible refine N1 ge ?_;rw[cl])|(with_reducible refine X3 hC1 ?_;rw[hcC])|wp_step)
 change wpAny _ _ (mroOf (.ref C) >>=λl=>lookupAlong l _) _ _ _;refine A7 (wpAny_mroOf_exc hC1 ?_);rw[lookupAlong_cons];refine A7 (wpAny_classOwn_exc hC1 hn1 ?_);rw[hi];refine E7 (W2 (A7 ?_));unfold bindSpecial;refine A7 (wpAny_typeOf (T:= "function") ⟨_,up _ _ ho,hf⟩ ?_);rw[if_pos ⋯];refine E7 (A7 (E4 (z _ (h.objs.size + 1) ⟨up,Q1 (L6 _),h.objs.size,by rw[e2];exact ge,Q1 (B5 _),by rw[e1];exact gt⟩ (L6 _)) (λr s' hr=> ?_) λ_ _ x=>x));obtain⟨rfl,hQ⟩:=hr
 wp_walk
 exact hQ
def cn_1(FB:ExcBaseFacts B newId ah bmB)(T:OwnTail h bmB bm){mN:AB}{fI:Addr}{oI:Obj}{Q:AA}
  (hC:h.get? C=some (excClassObj nm q C N bs bm ax sn sub ab col dd k0 k1 k2 k3 k5 newId)) (hn:h.Ns N mN) (hi:mN "__init__" =some (.ref fI)) (ho:h.get? fI=some oI) (hf:oI.cls=.type "function")
  (z:∀h' e,Heap.MadeExcOf h h' e (.ref C) us->h.objs.size<=e->wpAny (model prog w) (A.under (.builtin "type.__call__" ⟨.ref C::us,[]⟩)) (call (.ref fI) (.ref e::us)) (λr s'=>r=.none/\Q (.ref e) s') E ⟨h',g,d,t,os⟩) (hu:us.length<=sizeLine):
  wpAny (model prog w) A (call (.ref C) us) Q E ⟨h,g,d,t,os⟩:=by
 have f1:=tc_lookup;have f2:=tc_bind (.ref C);have Cu:Shared.TypeIs ⟨h,g,d,t,os⟩ (.ref C) "type" :=⟨_,hC,rfl⟩;refine V8 (codeAny_of_tree (?_:wpAny _ _ (callAny (.ref C) _) _ _ _))
 wp_walk using N1 hC
 refine⟨rfl, ?_⟩;exact Z7 (U1 _ nofun) entry_typeCall (Y7 hC (cg_3 FB T hC hn hi ho hf (λh' e hm hz=>z h' e hm hz) hu))
def bb_0{M:Model}{env:Env}{s:Shared}{x:Sem Value}{Q:Flow->Shared->Prop}(hb:bm.contains (.type "BaseException")=true)(hh:A.handled=none)
  (z:wpAny M A x (λv s1=>∃e t dx,v=.ref e/\s1.heap.get? C=some (excClassObj nm q C N bs bm ax sn sub ab col dd k0 k1 k2 k3 k5 newId)/\
   s1.heap.get? e=some {cls:=.ref C,dict:=dx,data:=.fields #[.ref t,.none,.none,.none,.bool false,.none]}/\E (.ref e) s1) E s):wpAny M A (raiseStmt env (some x) none) Q E s:=by
 have hcB:(Value.ref C::bm).contains (.type "BaseException")=true:=by rw[M5,hb,ZD0]
 unfold raiseStmt;refine A7 (E4 z (λv s1 z1=> ?_) λ_ _ y=>y);obtain⟨e,t,dx,rfl,hC,he,hE⟩:=z1;obtain⟨hp,g,d,tk,os⟩:=s1
 repeat (first|with_reducible refine N1 he ?_|with_reducible refine N1 hC ?_|(with_reducible refine X3 hC ?_;rw[hcB])|wp_step)
 exact wpAny_raiseNew_none hh hE
end
section
variable{X:Cx}{EX:Au}{a b c:Expr}{f g h:FE}{pos:Pos}
def Aa(i:Nat):FE:=λ δ=>match δ[i]? with
 |some (some d)=> .ok (.sh d)
 |_=> .no
def eC(d:D):FE:=λ_=> .ok (.sh d)
def Ad(i:Nat){x:Str}(hN:X.N[i]? =some x:=by rfl)(hv:Fg X.env.scope x:=by trivial)(hd:AG x:=by decide)
  (hcd:(x ==("__classdict__" :Str))=false:=by decide):ED X EX (.Name x pos) (Aa i):=
 PE.imp (Fh hN hv hd hcd) λ σ H Q ⟨G,δ,g,s,o⟩=>by
  unfold Aa at o
  split at o
  ·rename_i d e;obtain⟨v,e1,r⟩:=s.get i d e;exact⟨v,e1,WP.use o g r⟩
  ·exact o.elim
def w_2{e:Expr}{d:D}(he:PE X e (tC v))(hd:∀G,Has X.K G v d):ED X EX e (eC d):=
 PE.imp he λ σ H Q ⟨G,δ,g,s,o⟩=>WP.use o g (hd G)
def Am{i:Int}{j pos}:ED X EX (.Constant (.int i) j pos) (eC (.int i)):=w_2 dk_0 λ_=> .int i
def bb_1{b:Bool}{j pos}:ED X EX (.Constant (.bool b) j pos) (eC (.bl b)):=w_2 dr_8 λ_=> .bl b
def dm_6{j pos}:ED X EX (.Constant .none j pos) (eC .non):=w_2 dk_1 λ_=> .non
def aj_9{x:Str}{j pos}:ED X EX (.Constant (.str x) j pos) (eC (.str x)):=w_2 dk_2 λ_=> .str x
def x_2{x:Str}{i:Int}{t:Tok}(hg:Gl X x)(hm:X.mg x=some (.int i t))(hd:AG x:=by decide):ED X EX (.Name x pos) (eC (.int i)):=w_2 (by_1 (v:=.int i) hg hm ⟨t,rfl⟩ hd) λ_=> .int i
def bz_0{x:Str}{z:Str}{t:Tok}(hg:Gl X x)(hm:X.mg x=some (.str z t))(hd:AG x:=by decide):ED X EX (.Name x pos) (eC (.str z)):=w_2 (by_1 (v:=.str z) hg hm ⟨t,rfl⟩ hd) λ_=> .str z
def rD(K:Frag)(r:D->D->R W):R2:=λx y H Q=>∃(EX:EXT) (G:Hp) (a b:D),Same G H/\Has K G x a/\Has K G y b/\Out K EX G H (r a b) Q
abbrev Er(X:Cx)(f:Value->Value->Sem Value)(r:D->D->R W):Prop:=OpR X f (rD X.K r)
def Af(r:D->D->R W)(f g:FE):FE:=λ δ=>(f δ).bind λa=>(g δ).bind λb=>r a.d b.d
def two{r:D->D->R W}{σ:Sg}{Q:VK}(q:tD K EX (Af r f g) σ H Q):tOp (rD K r) (tD K EX f) (tD K EX g) σ H Q:=by
 obtain⟨G,δ,g0,s0,o⟩:=q;exact tD.seq g0 s0 o λw v G1 H1 _ st1 r1 o1=>tD.seq st1.gh (s0.mono st1.gg) o1 λw2 v2 G2 H2 _ st2 r2 o2=>⟨_,G2,w.d,w2.d,st2.gh,r1.mono st2.gg,r2,o2⟩
def Ap{op:Operator}{r:D->D->R W}(ho:Er X (binaryOp op) r)(ha:ED X EX a f)(hb:ED X EX b g):ED X EX (.BinOp a op b pos) (Af r f g):=
 PE.imp (dh_9 ho ha hb) λ_ _ _ q=>two q
def ak_0{op:CmpOp}{r:D->D->R W}(ho:Er X (compareOp op) r)(ha:ED X EX a f)(hb:ED X EX b g)(hm:behindInMarks op b=false):ED X EX (.Compare a [op] [b] pos) (Af r f g):=
 PE.imp (cy_8 ho ha hb hm) λ_ _ _ q=>two q
def Dp:D->R Bool
 | .bl b=> .ok b
 |_=> .no
def Ak(f:FE):FT:=λ δ=>(f δ).bind λw=>Dp w.d
def cz_9{σ:Sg}{Q:Bool->Hp->Prop}(q:tDt K EX (Ak f) σ H Q):tD K EX f σ H λx H'=>∃k,x=.bl k/\Q k H':=by
 obtain⟨G,δ,g0,s0,o⟩:=q;refine⟨G,δ,g0,s0, ?_⟩;unfold Ak at o;cases e:f δ with
 |ok w=>
  rw[e]at o;simp only[R.bind_ok]at o;refine WP.intro λv G' H' st r=> ?_;revert r o;cases w.d with
  |bl k=>intro o r;cases r;exact⟨k,rfl,o G' H' st⟩
  |_=>intro o _;exact False.elim o
 |ex x=>rw[e]at o;exact o
 |no=>rw[e]at o;exact o
def Dl{op:CmpOp}{r:D->D->R W}(ho:Er X (compareOp op) r)(ha:ED X EX a f)(hb:ED X EX b g)(hm:behindInMarks op b=false):TD X EX (.Compare a [op] [b] pos) (Ak (Af r f g)):=
 PT.imp (cy_9 ho ha hb hm) λ σ H Q q=>two (cz_9 q)
def z_8(r r':D->D->R W)(f g h:FE):FE:=λ δ=>(f δ).bind λa=>(g δ).bind λb=>(r a.d b.d).bind λz=>(Dp z.d).bind λk=>
 if k=true then(h δ).bind λc=>r' b.d c.d else .ok (.sh (.bl false))
def dt_7{r r':D->D->R W}{σ:Sg}{Q:VK}(q:tD K EX (z_8 r r' f g h) σ H Q):cm_0 (rD K r) (rD K r') (tD K EX f) (tD K EX g) (tD K EX h) σ H Q:=by
 obtain⟨G,δ,g0,s0,o⟩:=q;refine tD.seq g0 s0 o λw v G1 H1 _ st1 r1 o1=>tD.seq st1.gh (s0.mono st1.gg) o1 λw2 v2 G2 H2 _ st2 r2 o2=>⟨EX σ,G2,w.d,w2.d,st2.gh,r1.mono st2.gg,r2, ?_⟩;revert o2;cases r w.d w2.d with
 |ok z=>
  intro o2;refine WP.intro λv3 G3 H3 st3 r3=> ?_;have o2:Out K (EX σ) G2 H2 ((Dp z.d).bind λk=>if k=true then(h δ).bind λc=>r' w2.d c.d else .ok (.sh (.bl false))) Q:=o2;revert r3 o2;cases z.d with
  |bl k=>
   intro r3 o2;cases r3;refine⟨k,rfl, ?_⟩;cases k with
   |true=>
    rw[if_pos rfl];have o3:Out K (EX σ) G2 H2 ((h δ).bind λc=>r' w2.d c.d) Q:=o2;exact tD.seq st3.gh (s0.mono (st1.gg.trans (st2.gg.trans st3.gg))) (o3.mono st3) λw4 v4 G4 H4 _ st4 r4 o4=>⟨_,G4,w2.d,w4.d,st4.gh,r2.mono (st3.gg.trans st4.gg),r4,o4⟩
   |false=>
    rw[if_neg A6];have o3:WP K G2 H2 (.sh (.bl false)) Q:=o2;exact(o3.mono st3).use st3.gh (.bl false)
  |_=>intro _ o2;exact False.elim o2
 |ex x=>exact λo2=>o2
 |no=>exact λo2=>o2
def bk_6{op op':CmpOp}{r r':D->D->R W}(ho:Er X (compareOp op) r)(ho':Er X (compareOp op') r')(ha:ED X EX a f)(hb:ED X EX b g)(hc:ED X EX c h)
  (hm:lastMarks [op,op'] [b,c]=false:=by with_unfolding_all rfl):ED X EX (.Compare a [op,op'] [b,c] pos) (z_8 r r' f g h):=
 PE.imp (cm_1 ho ho' ha hb hc hm) λ_ _ _ q=>dt_7 q
abbrev TW(X:Cx)(EX:Au)(e:Expr)(f:FT):Prop:=PW X e (tDt X.K EX f)
variable{p q:FT}{z_7:List Expr}
def Eb(p q:FT):FT:=λ δ=>(p δ).bind λb=>if b=true then q δ else .ok false
def tOrF(p q:FT):FT:=λ δ=>(p δ).bind λb=>if b=true then .ok true else q δ
def Fw(p:FT):FT:=λ δ=>(p δ).bind λb=> .ok (!b)
def bz_1(ha:TD X EX a p):TW X EX (.BoolOp .And [a] pos) p:=cy_6 ha
def bu_0(ha:TD X EX a p):TW X EX (.BoolOp .Or [a] pos) p:=dk_3 ha
def tDt.two{σ:Sg}{Q:Bool->Hp->Prop}{k:Bool->DE->R Bool}{P:Bool->Hp->Prop}(h:tDt K EX (λ δ=>(p δ).bind λb=>k b δ) σ H Q)
  (i:∀b H',tDt K EX (k b) σ H' Q->P b H'):tDt K EX p σ H P:=by
 obtain⟨G,δ,g0,s0,o⟩:=h;refine⟨G,δ,g0,s0, ?_⟩;cases e:p δ with
 |ok b=>
  simp only[e,R.bind_ok]at o;refine λG' H' st=>i b H' ⟨G',δ,st.gh,s0.mono st.gg, ?_⟩;cases e2:k b δ with
  |ok c=>rw[e2]at o;exact λG2 H2 st2=>o G2 H2 (st.trans st2)
  |ex x=>rw[e2]at o;exact(EX σ).mono _ _ _ _ _ st o
  |no=>rw[e2]at o;exact o
 |ex x=>simp only[e,R.bind_ex]at o;exact o
 |no=>simp only[e,R.bind_no]at o
def tDt.now{σ:Sg}{Q:Bool->Hp->Prop}{c:Bool}(h:tDt K EX (λ_=> .ok c) σ H Q):Q c H:=by
 obtain⟨G,δ,g0,s0,o⟩:=h;exact o G H (Step.refl g0)
def cn_2(ha:TD X EX a p)(hb:TW X EX (.BoolOp .And (b::z_7) pos) q):TW X EX (.BoolOp .And (a::b::z_7) pos) (Eb p q):=
 PW.imp (dk_4 ha hb) λ σ H Q h=>tDt.two (k:=λb δ=>if b=true then q δ else .ok false) h λb H' h'=>by
  cases b with
  |true=>rw[if_pos rfl];exact h'
  |false=>rw[if_neg A6];exact tDt.now h'
def cn_3(ha:TD X EX a p)(hb:TW X EX (.BoolOp .Or (b::z_7) pos) q):TW X EX (.BoolOp .Or (a::b::z_7) pos) (tOrF p q):=
 PW.imp (dr_9 ha hb) λ σ H Q h=>tDt.two (k:=λb δ=>if b=true then .ok true else q δ) h λb H' h'=>by
  cases b with
  |true=>rw[if_pos rfl];exact tDt.now h'
  |false=>rw[if_neg A6];exact h'
def td_w{e:Expr}(h:TW X EX e p):TD X EX e p:=h.pt
def cn_5(ha:TD X EX a p):TD X EX (.UnaryOp .Not a pos) (Fw p):=
 PT.imp (cl_2 ha) λ σ H Q h=>tDt.two (k:=λb _=> .ok (!b)) h λb H' h'=>tDt.now h'
def eAnd(f g:FE):FE:=λ δ=>(f δ).bind λa=>(Dp a.d).bind λk=>if k=true then g δ else .ok (.sh (.bl false))
def eOr(f g:FE):FE:=λ δ=>(f δ).bind λa=>(Dp a.d).bind λk=>if k=true then .ok (.sh (.bl true)) else g δ
def eNot(f:FE):FE:=λ δ=>(f δ).bind λa=>(Dp a.d).bind λk=> .ok (.sh (.bl (!k)))
def as_6{op}(h:ED X EX a f):ED X EX (.BoolOp op [a] pos) f:=dk_5 h
def tD.boolThen{σ:Sg}{Q:VK}{k:Bool->DE->R W}{P:Bool->Hp->Prop}(h:tD K EX (λ δ=>(f δ).bind λa=>(Dp a.d).bind λc=>k c δ) σ H Q)
  (i:∀c H',tD K EX (k c) σ H' Q->P c H'):tD K EX f σ H λx H'=>∃c,x=.bl c/\P c H':=by
 obtain⟨G,δ,g0,s0,o⟩:=h;refine tD.seq g0 s0 o λw v G1 H1 _ st1 r1 o1=> ?_;revert r1 o1;cases w.d with
 |bl c=>intro r1 o1;cases r1;exact⟨c,rfl,i c H1 ⟨G1,δ,st1.gh,s0.mono st1.gg,o1⟩⟩
 |_=>intro _ o1;exact False.elim o1
def tD.now{σ:Sg}{Q:VK}{d:D}(h:tD K EX (λ_=> .ok (.sh d)) σ H Q)(r:∀G,Has K G v d):Q v H:=by
 obtain⟨G,δ,g0,s0,o⟩:=h;exact WP.use o g0 (r G)
def as_7(ha:ED X EX a f)(hb:ED X EX (.BoolOp .And (b::z_7) pos) g):ED X EX (.BoolOp .And (a::b::z_7) pos) (eAnd f g):=
 PE.imp (dk_6 ha hb) λ σ H Q h=>tD.boolThen (k:=λk δ=>if k=true then g δ else .ok (.sh (.bl false))) h λc H' h'=>by
  cases c with
  |true=>rw[if_pos rfl];exact h'
  |false=>rw[if_neg A6];exact tD.now h' λ_=> .bl false
def dm_7(ha:ED X EX a f):ED X EX (.UnaryOp .Not a pos) (eNot f):=
 PE.imp (dk_7 ha) λ σ H Q h=>tD.boolThen (k:=λk _=> .ok (.sh (.bl (!k)))) h λc H' h'=>tD.now h' λ_=> .bl (!c)
def eIf(p:FT)(f g:FE):FE:=λ δ=>(p δ).bind λk=>if k=true then f δ else g δ
def cn_6(hc:TD X EX c p)(ha:ED X EX a f)(hb:ED X EX b g):ED X EX (.IfExp c a b pos) (eIf p f g):=
 PE.imp (cl_3 hc ha hb) λ σ H Q ⟨G,δ,g0,s0,o⟩=>tDt.seq g0 s0 o λk G' H' _ st o'=>by
  cases k with
  |true=>rw[if_pos rfl];exact⟨G',δ,st.gh,s0.mono st.gg,o'⟩
  |false=>rw[if_neg A6];exact⟨G',δ,st.gh,s0.mono st.gg,o'⟩
def Bu:D->R Bool
 | .non=> .ok false
 | .bl b=> .ok b
 | .int i=> .ok (i != 0)
 | .str x=>if x.length<=16777216 then .ok ((x.length:Int) != 0) else .no
 | .lst ds=> .ok (!ds.isEmpty)
 | .tup ds=> .ok (!ds.isEmpty)
 |_=> .no
def Bn(f:FE):FT:=λ δ=>(f δ).bind λw=>Bu w.d
def bk_7{G:Hp}{vs:List V}{ds:List D}(r:HasL K G vs ds):(!ds.isEmpty)= !vs.isEmpty:=by cases r <;> rfl
def dm_8{G H:Hp}{d:D}{k:Bool}(g:Same G H)(r:Has K G v d)(e:Bu d=.ok k):TruV K v H k:=by
 cases r with
 |non=>cases e;rfl
 |bl b=>cases e;rfl
 |int i=>cases e;rfl
 |str x=>
  have e:(if x.length<=16777216 then R.ok ((x.length:Int) != 0) else .no)=.ok k:=e
  split at e
  ·rename_i hz;cases e;exact⟨by rw[D6];exact hz,rfl⟩
  ·cases e
 |lst h r=>cases e;exact .inl ⟨_,g.seq h,bk_7 r⟩
 |tup h r=>cases e;exact .inr (.inl ⟨_,Same.tupS g h,bk_7 r⟩)
 |exn0 _ _=>cases e
 |exn1 _ _ _ _ _=>cases e
 |dic _ _ _=>cases e
 |obj _ _ _ _=>cases e
def n_8(ha:ED X EX a f)(he:∀whole,isTrue a X.env whole=(do let v<-whole;standAt a.pos;holding [v] (truthy v)):=by intro _;rfl):TD X EX a (Bn f):=
 PT.imp (bk_3 ha he) λ σ H Q ⟨G,δ,g0,s0,o⟩=>by
  refine⟨G,δ,g0,s0, ?_⟩;unfold Bn at o;cases e:f δ with
  |ok w=>
   rw[e]at o;simp only[R.bind_ok]at o;refine WP.intro λv G' H' st r=> ?_;cases e2:Bu w.d with
   |ok k=>rw[e2]at o;exact⟨k,dm_8 st.gh r e2,o G' H' st⟩
   |ex x=>rw[e2]at o;exfalso;revert e2;cases w.d <;> simp only[Bu] <;> intro e2 <;> first|cases e2|(split at e2 <;> cases e2)
   |no=>rw[e2]at o;exact o.elim
  |ex x=>rw[e]at o;exact o
  |no=>rw[e]at o;exact o
variable{e:Expr}{es:List Expr}{fa:FA}
def Ac:FA:=λ_=> .ok []
def Ab(f:FE)(fa:FA):FA:=λ δ=>(f δ).bind λw=>(fa δ).bind λds=> .ok (w.d::ds)
def As:AD X EX [] Ac:=PA.imp r_0 λ σ H Q ⟨G,δ,g0,s0,o⟩=>o [] G H (Step.refl g0) .nil
def Ah(ha:ED X EX e f)(hr:AD X EX es fa)(hs:starEach (e::es) X.env=(false,eval e X.env)::starEach es X.env:=by rfl):AD X EX (e::es) (Ab f fa):=
 PA.imp (i_7 ha hr hs) λ σ H Q ⟨G,δ,g0,s0,o⟩=>by
  refine⟨G,δ,g0,s0, ?_⟩;unfold Ab at o;cases e1:f δ with
  |ok w=>
   rw[e1]at o;simp only[R.bind_ok]at o;refine WP.intro λv G' H' st r=>⟨G',δ,st.gh,s0.mono st.gg, ?_⟩;cases e2:fa δ with
   |ok ds=>rw[e2]at o;exact λvs G2 H2 st2 r2=>o (v::vs) G2 H2 (st.trans st2) (.cons (r.mono st2.gg) r2)
   |ex x=>rw[e2]at o;exact(EX σ).mono _ _ _ _ _ st o
   |no=>rw[e2]at o;exact o
  |ex x=>rw[e1]at o;exact o
  |no=>rw[e1]at o;exact o
def Bq(fa:FA):FE:=λ δ=>(fa δ).bind λds=>if ds.length<=16777216 then .ok (.sh (.tup ds)) else .no
def Cd(fa:FA):FE:=λ δ=>(fa δ).bind λds=>if ds.length<=16777216 then .ok (.ow (.lst ds)) else .no
def j_7{x1}(ha:AD X EX es fa):ED X EX (.Tuple es x1 pos) (Bq fa):=
 PE.imp (dl_8 ha) λ σ H Q ⟨G,δ,g0,s0,o⟩=>tDa.seq g0 s0 o λds vs G' H' _ st r o'=>by
  split at o'
  ·rename_i hz;refine⟨by rw[r.length,D6];exact hz,λp hp=>o' (.ref p) _ _ (Step.new st.gh hp _) (.tup (SqT.of Bj) (r.mono (h_9 (st.gh.free hp) _)))⟩
  ·exact o'.elim
def p_0(ha:AD X EX es fa):ED X EX (.List es pos) (Cd fa):=
 PE.imp (bt_7 ha) λ σ H Q ⟨G,δ,g0,s0,o⟩=>tDa.seq g0 s0 o λds vs G' H' _ st r o'=>by
  split at o'
  ·rename_i hz;refine⟨by rw[r.length,D6];exact hz,λp hp=>ac_2 o' st.gh r p hp⟩
  ·exact o'.elim
def rDc(K:Frag)(fn:AF):List V->Hp->VK->Prop:=λvs H Q=>∃(EX:EXT) (G:Hp) (ds:List D),Same G H/\HasL K G vs ds/\Out K EX G H (fn ds) Q
abbrev y_9(X:Cx)(v:Value)(fn:AF):Prop:=CallR X v (rDc X.K fn)
def An(fn:AF)(fa:FA):FE:=λ δ=>(fa δ).bind fn
def bz_2{fn:AF}{σ:Sg}{Q:VK}(q:tD K EX (An fn fa) σ H Q):tCB (rDc K fn) (tDa K EX fa) σ H Q:=by
 obtain⟨G,δ,g0,s0,o⟩:=q;exact tDa.seq g0 s0 o λds vs G' H' _ st r o'=>⟨_,G',ds,st.gh,r,o'⟩
variable{x:Str}{pp:Pos}{id T:String}{fn:AF}
def Es(hc:y_9 X (.builtin id) fn)(hg:Gl X x)(hm:X.mg x=none)(hv:bootBuiltins x=some (.builtin id))(ha:AD X EX (e::es) fa)(hn:x≠ "__name__" :=by decide)(hdb:AG x:=by decide)
  (he:starEach (e::es) X.env=(false,eval e X.env)::starEach es X.env:=by rfl) (hpl:(backTo pos (starEach es X.env)).any (·.1)=false:=by rfl):ED X EX (.Call (.Name x pp) (e::es) [] pos) (An fn fa):=
 PE.imp (bk_5 hc hg hm hv ha hn hdb he hpl) λ_ _ _ q=>bz_2 q
def ak_1(hc:y_9 X (.type T) fn)(hg:Gl X x)(hm:X.mg x=none)(hv:bootBuiltins x=some (.type T))(ha:AD X EX (e::es) fa)(hn:x≠ "__name__" :=by decide)(hdb:AG x:=by decide)
  (he:starEach (e::es) X.env=(false,eval e X.env)::starEach es X.env:=by rfl) (hpl:(backTo pos (starEach es X.env)).any (·.1)=false:=by rfl):ED X EX (.Call (.Name x pp) (e::es) [] pos) (An fn fa):=
 PE.imp (cf_8 hc hg hm hv ha hn hdb he hpl) λ_ _ _ q=>bz_2 q
def Bk:D->D->R W
 | .lst ds,.int i=>match atI ds i with|some d=> .ok (.sh d)|none=> .no
 | .tup ds,.int i=>match atI ds i with|some d=> .ok (.sh d)|none=> .no
 | .str z,.int i=>if z.length<=16777216 then(match atI z.cps.toList i with|some c=> .ok (.sh (.str ⟨#[c]⟩))|none=> .no) else .no
 |_,_=> .no
theorem HasL.atI{G:Hp}{vs:List V}{ds:List D}{i:Int}{d:D}(r:HasL K G vs ds)(h:L2.atI ds i=some d):∃v,L2.atI vs i=some v/\Has K G v d:=by
 unfold L2.atI at h⊢;rw[r.length];cases e:ixN ds.length i with
 |none=>rw[e]at h;cases h
 |some j=>rw[e]at h;exact r.get h
def ix_d:IxR X (rD X.K Bk):=by
 intro value slice zd s σ H x y v u Q I rx ry h hs;obtain⟨EX,G,a,b,g,ra,rb,o⟩:=h;cases rb with
 |int i=>
  cases ra with
  |lst h r=>
   simp only[Bk]at o
   split at o
   ·rename_i d e;obtain⟨v,e1,r1⟩:=HasL.atI r e;exact cz_6 value slice zd s σ H _ _ _ _ Q I rx ry ⟨_,_,i,v,rfl,rfl,g.seq h,e1,WP.use o g r1⟩ hs
   ·exact o.elim
  |tup h r=>
   simp only[Bk]at o
   split at o
   ·rename_i d e;obtain⟨v,e1,r1⟩:=HasL.atI r e;exact dl_9 value slice zd s σ H _ _ _ _ Q I rx ry ⟨_,_,i,v,rfl,rfl,Same.tupS g h,e1,WP.use o g r1⟩ hs
   ·exact o.elim
  |str z=>
   simp only[Bk]at o
   split at o
   ·rename_i hz
    split at o
    ·rename_i c e;exact dm_0 value slice zd s σ H _ _ _ _ Q I rx ry ⟨z,i,c,rfl,rfl,by rw[D6];exact hz,e,WP.use o g (.str _)⟩ hs
    ·exact o.elim
   ·exact o.elim
  |_=>exact False.elim o
 |_=>cases ra <;> exact False.elim o
def Dv(ha:ED X EX a f)(hb:ED X EX b g)(hs:by_6 b:=by intro _ _;rfl):ED X EX (.Subscript a b pos) (Af Bk f g):=
 PE.imp (dt_6 ix_d ha hb hs) λ_ _ _ q=>two q
end
end L3
namespace L2
open PySem PySem.Spec PyProof.Rows
section
variable{κ:Type} [DecidableEq κ]
def Ci(kvs:List (κ×V))(k:κ):Option V:=(kvs.find? λkv=>decide (kv.1=k)).map (·.2)
def Ek(kvs:List (κ×V))(k:κ)(v:V):List (κ×V):=
 if(kvs.any λkv=>decide (kv.1=k))=true then kvs.map (λkv=>if kv.1=k then(kv.1,v) else kv) else kvs ++ [(k,v)]
def q_4(kvs:List (κ×V))(k:κ):List (κ×V):=kvs.filter λkv=>decide (kv.1≠k)
def i_9{p:κ×V}{r:List (κ×V)}{k:κ}(e:p.1=k):Ci (p::r) k=some p.2:=by simp[Ci,P9,e]
def i_1{p:κ×V}{r:List (κ×V)}{k:κ}(e:¬p.1=k):Ci (p::r) k=Ci r k:=by simp[Ci,P9,e]
theorem z_9(k:κ):∀kvs:List (κ×V),(kvs.any λkv=>decide (kv.1=k))=(Ci kvs k).isSome
 | []=>rfl
 |p::r=>by
  rw[Q4]
  by_cases e:p.1=k
  ·simp only[i_9 e,D9 e,Bool.true_or,Option.isSome_some]
  ·rw[i_1 e,D2 e,Bool.false_or];exact z_9 k r
theorem bk_8(k j:κ)(y:V):∀kvs:List (κ×V),Ci (kvs.map λkv=>if kv.1=k then(kv.1,y) else kv) j=(Ci kvs j).map λx=>if j=k then y else x
 | []=>rfl
 |p::r=>by
  have ih:=bk_8 k j y r;rw[A8]
  by_cases h:p.1=k
  ·rw[if_pos h]
   by_cases e:p.1=j
   ·rw[i_9 (p:=(p.1,y)) e,i_9 e,L5,if_pos (e.symm.trans h)]
   ·rw[i_1 (p:=(p.1,y)) e,i_1 e,ih]
  ·rw[if_neg h]
   by_cases e:p.1=j
   ·rw[i_9 (p:=p) e,i_9 e,L5,if_neg (λz=>h (e.trans z))]
   ·rw[i_1 (p:=p) e,i_1 e,ih]
theorem bb_2(k j:κ)(y:V):∀kvs:List (κ×V),Ci kvs k=none->Ci (kvs ++ [(k,y)]) j=if j=k then some y else Ci kvs j
 | [],_=>by
  by_cases e:k=j
  ·rw[if_pos e.symm];exact i_9 (p:=(k,y)) e
  ·rw[if_neg (λz=>e z.symm)];exact i_1 (p:=(k,y)) e
 |p::r,hn=>by
  rw[Q9];have hk:¬p.1=k:=λz=>by rw[i_9 z]at hn;cases hn
  rw[i_1 hk]at hn;have ih:=bb_2 k j y r hn
  by_cases e:p.1=j
  ·rw[i_9 e,i_9 e,if_neg (λz=>hk (e.trans z))]
  ·rw[i_1 e,i_1 e,ih]
def cn_7(kvs:List (κ×V))(k j:κ)(y:V):Ci (Ek kvs k y) j=if j=k then some y else Ci kvs j:=by
 unfold Ek
 by_cases a:(kvs.any λkv=>decide (kv.1=k))=true
 ·rw[if_pos a,bk_8];rw[z_9]at a
  by_cases e:j=k
  ·obtain⟨x,hx⟩:=L8.mp a;rw[if_pos e,e,hx,L5,if_pos rfl]
  ·rw[if_neg e];cases Ci kvs j with
   |none=>rfl
   |some x=>rw[L5,if_neg e]
 ·rw[if_neg a];refine bb_2 k j y kvs ?_;rw[z_9]at a;cases q:Ci kvs k with
  |none=>rfl
  |some x=>rw[q]at a;exact(a rfl).elim
def u_8(kvs:List (κ×V))(k:κ)(v:V):(Ek kvs k v).length<=kvs.length + 1:=by
 unfold Ek
 split
 ·rw[A3];omega
 ·rw[B8,B4,J8];omega
def RelO.isSome_eq{o:Option V}{u:Option Value}(r:RelO o u):o.isSome=u.isSome:=by
 cases o with
 |none=>cases u with
  |none=>rfl
  |some _=>exact(show False from r).elim
 |some _=>cases u with
  |none=>exact(show False from r).elim
  |some _=>rfl
theorem RelO.getD{o:Option V}{u:Option Value}{d:V}{d':Value}(r:RelO o u)(rd:RelV d d'):RelV (o.getD d) (u.getD d'):=by
 cases o with
 |none=>cases u with
  |none=>exact rd
  |some _=>exact(show False from r).elim
 |some _=>cases u with
  |none=>exact(show False from r).elim
  |some _=>exact r
def KV.val{kvs:List (κ×V)}{vs:List (κ×Value)}(r:KV kvs vs)(k:κ):RelO (Ci kvs k) (valueAt vs k):=by
 unfold KV at r
 induction r with
 |nil=>exact True.intro
 | @cons p q ps qs h t ih=>
  obtain⟨h1,h2⟩:=h
  by_cases e:p.1=k
  ·have e':q.1=k:=h1.symm.trans e;have b:valueAt (q::qs) k=some q.2:=by simp[valueAt,P9,e']
   rw[i_9 e,b];exact h2
  ·have e':¬q.1=k:=λz=>e (h1.trans z);have b:valueAt (q::qs) k=valueAt qs k:=by simp[valueAt,P9,e']
   rw[i_1 e,b];exact ih
theorem KV.any{kvs:List (κ×V)}{vs:List (κ×Value)}(r:KV kvs vs)(k:κ):(kvs.any λkv=>decide (kv.1=k))=vs.any λkv=>decide (kv.1=k):=by
 unfold KV at r
 induction r with
 |nil=>rfl
 |cons h t ih=>rw[Q4,Q4,ih,h.1]
def KV.repl{kvs:List (κ×V)}{vs:List (κ×Value)}(r:KV kvs vs)(k:κ){y:V}{u:Value}(ry:RelV y u):
  KV (kvs.map λkv=>if kv.1=k then(kv.1,y) else kv) (vs.map λkv=>if kv.1=k then(kv.1,u) else kv):=by
 unfold KV at r⊢
 induction r with
 |nil=>exact .nil
 | @cons p q ps qs h t ih=>
  rw[A8,A8];refine .cons ?_ ih;obtain⟨h1,h2⟩:=h
  by_cases e:p.1=k
  ·rw[if_pos e,if_pos (h1.symm.trans e)];exact⟨h1,ry⟩
  ·rw[if_neg e,if_neg (λz=>e (h1.trans z))];exact⟨h1,h2⟩
def KV.put{kvs:List (κ×V)}{vs:List (κ×Value)}(r:KV kvs vs)(k:κ){y:V}{u:Value}(ry:RelV y u):KV (Ek kvs k y) (stored vs k u):=by
 unfold Ek stored;rw[r.any k]
 by_cases e:(vs.any λkv=>decide (kv.1=k))=true
 ·rw[if_pos e,if_pos e];exact r.repl k ry
 ·rw[if_neg e,if_neg e];exact Paired.snoc r ⟨rfl,ry⟩
def KV.drop{kvs:List (κ×V)}{vs:List (κ×Value)}(r:KV kvs vs)(k:κ):KV (q_4 kvs k) (without vs k):=by
 unfold KV at r⊢;unfold q_4 without
 induction r with
 |nil=>exact .nil
 | @cons p q ps qs h t ih=>
  obtain⟨h1,h2⟩:=h;rw[R0,R0]
  by_cases e:p.1=k
  ·have a:¬decide (p.1≠k)=true:=by simp[e]
   have b:¬decide (q.1≠k)=true:=by simp[h1.symm.trans e]
   rw[if_neg a,if_neg b];exact ih
  ·have e':¬q.1=k:=λz=>e (h1.trans z);have a:decide (p.1≠k)=true:=by simp[e]
   have b:decide (q.1≠k)=true:=by simp[e']
   rw[if_pos a,if_pos b];exact .cons ⟨h1,h2⟩ ih
def KV.keys{kvs:List (κ×V)}{vs:List (κ×Value)}(r:KV kvs vs):kvs.map (·.1)=vs.map (·.1):=by
 unfold KV at r
 induction r with
 |nil=>rfl
 |cons h t ih=>rw[A8,A8,ih,h.1]
theorem KV.length{kvs:List (κ×V)}{vs:List (κ×Value)}(r:KV kvs vs):kvs.length=vs.length:=W1 r
def cn_8(kvs:List (κ×V))(k:κ):(q_4 kvs k).length<=kvs.length:=P4 _ _
end
def ag_4{P:Program}{w:World}{k:Ae}{u:Value}(r:RelV (kV k) u):(Dw P w).is k u=true:=by
 cases k with
 |inl i=>obtain⟨t,e⟩:=(show∃t,u=Value.int i t from r);subst e;exact bk_0 P w i t
 |inr x=>obtain⟨t,e⟩:=(show∃t,u=Value.str x t from r);subst e;exact bk_1 P w x t
theorem bb_3{P:Program}{w:World}:∀{ks:List Ae} {us:List Value},Vals (ks.map kV) us->ItemsAre (Dw P w) ks us
 | [],_,r=>by rw[N0]at r;cases r;exact .nil
 |k::ks,_,r=>by
  rw[A8]at r;cases r with
  |cons h t=>exact .cons (ag_4 h) (bb_3 t)
abbrev KT(H:Hp):List (List Ae×V)->List (List Ae×Addr×Value)->Prop:=Paired λp q=>p.1=q.1/\H q.2.1=some (.tup (p.1.map kV))/\RelV p.2 q.2.2
def KT.val{kvs:List (List Ae×V)}{xs:List (List Ae×Addr×Value)}(r:KT H kvs xs)(k:List Ae):RelO (Ci kvs k) ((atKey xs k).map (·.2)):=by
 induction r with
 |nil=>exact True.intro
 | @cons p q ps qs h t ih=>
  obtain⟨h1,_,h2⟩:=h
  by_cases e:p.1=k
  ·have e':q.1=k:=h1.symm.trans e;have b:atKey (q::qs) k=some q.2:=by simp[atKey,P9,e']
   rw[i_9 e,b];exact h2
  ·have e':¬q.1=k:=λz=>e (h1.trans z);have b:atKey (q::qs) k=atKey qs k:=by simp[atKey,P9,e']
   rw[i_1 e,b];exact ih
def KT.repl{kvs:List (List Ae×V)}{xs:List (List Ae×Addr×Value)}(r:KT H kvs xs)(k:List Ae){y:V}{u:Value}(ry:RelV y u):
  KT H (kvs.map λkv=>if kv.1=k then(kv.1,y) else kv) (xs.map (putAt k u)):=by
 induction r with
 |nil=>exact .nil
 | @cons p q ps qs h t ih=>
  rw[A8,A8];refine .cons ?_ ih;obtain⟨h1,h2,h3⟩:=h;unfold putAt
  by_cases e:p.1=k
  ·rw[if_pos e,if_pos (h1.symm.trans e)];exact⟨h1,h2,ry⟩
  ·rw[if_neg e,if_neg (λz=>e (h1.trans z))];exact⟨h1,h2,h3⟩
def KT.put{kvs:List (List Ae×V)}{xs:List (List Ae×Addr×Value)}(r:KT H kvs xs)(k:List Ae){b:Addr}{y:V}{u:Value}(hb:H b=some (.tup (k.map kV)))(ry:RelV y u):
  KT H (Ek kvs k y) (storedH xs k b u):=by
 have e:(kvs.any λkv=>decide (kv.1=k))=(atKey xs k).isSome:=by
  rw[z_9,(r.val k).isSome_eq,Y9]
 unfold Ek storedH;rw[e]
 by_cases q:(atKey xs k).isSome=true
 ·rw[if_pos q,if_pos q];exact r.repl k ry
 ·rw[if_neg q,if_neg q];exact Paired.snoc r ⟨rfl,hb,ry⟩
def KT.keeps{H H':Hp}{kvs:List (List Ae×V)}{xs:List (List Ae×Addr×Value)}(r:KT H kvs xs)(ht:∀b ys,H b=some (.tup ys)->H' b=some (.tup ys)):KT H' kvs xs:=
 Paired.mapP r λ_ _ z=>⟨z.1,ht _ _ z.2.1,z.2.2⟩
section
variable{P:Program}{w:World}{H:Hp}{h:Heap}{a:Addr}
def di_1{u:HO}(ok:HOk P w H h)(e:Rd H a u):ObjOk P w H h a u:=e.ok ok
def r_5{kvs:List (Ae×V)}(ok:HOk P w H h)(e:Rd H a (.dK kvs)):kvs.length<=sizeLine/\(a ==sysModules)=false/\∃vs,KV kvs vs/\h.DictOf (Dw P w) a vs:=
 show ObjOk P w H h a (.dK kvs) from di_1 ok e
def bz_3{kvs:List (Ae×V)}(ok:HOk P w H h)(e:H a=some (.dK kvs)):kvs.length<=sizeLine/\(a ==sysModules)=false/\∃vs,KV kvs vs/\h.DictOf (Dw P w) a vs:=r_5 ok (.inl e)
def ak_2{ks:List Ae}(ok:HOk P w H h)(e:H a=some (.tup (ks.map kV))):(tupleKind (Dw P w)).is h ks a:=by
 obtain⟨_,its,r,o,h1,h2,n,h3⟩:=(show ObjOk P w H h a (.tup (ks.map kV)) from ok a _ e);exact⟨o,its.toArray,n,h1,h2,h3,by simpa using bb_3 r⟩
def as_8{kvs:List (List Ae×V)}(ok:HOk P w H h)(e:Rd H a (.dT kvs)):kvs.length<=sizeLine/\(a ==sysModules)=false/\
  ∃xs,KT H kvs xs/\h.DictOfH (tupleKind (Dw P w)) a xs:=by
 obtain⟨z,y,xs,r,o,es,ep,h1,h2,h3,h4,h5⟩:=(show ObjOk P w H h a (.dT kvs) from di_1 ok e);refine⟨z,y,xs,r,o,es,ep,h1,h2,h3,h4,λx hx=> ?_,h5⟩;have all:∀{l:List (List Ae×V)} {m:List (List Ae×Addr×Value)},KT H l m->∀x∈m,(tupleKind (Dw P w)).is h x.1 x.2.1:=by
  intro l m q
  induction q with
  |nil=>intro x hx;exact nomatch hx
  | @cons p q ps qs hq t ih=>
   intro x hx;rcases C6.mp hx with e|hx
   ·subst e;exact ak_2 ok (by rw[<-hq.1];exact hq.2.1)
   ·exact ih x hx
 exact all r x hx
def dt_8{kvs:List (List Ae×V)}(ok:HOk P w H h)(e:H a=some (.dT kvs)):kvs.length<=sizeLine/\(a ==sysModules)=false/\
  ∃xs,KT H kvs xs/\h.DictOfH (tupleKind (Dw P w)) a xs:=as_8 ok (.inl e)
end
def DGet(H:Hp)(a:Addr)(y:V)(r:Option V):Prop:=
 (∃kvs k,Rd H a (.dK kvs)/\y=kV k/\r=Ci kvs k)\/∃kvs k b,Rd H a (.dT kvs)/\y=.ref b/\H b=some (.tup (k.map kV))/\r=Ci kvs k
def DPut(H:Hp)(a:Addr)(y v:V)(H':Hp):Prop:=
 (∃kvs k,H a=some (.dK kvs)/\y=kV k/\kvs.length < sizeLine/\H'=upd H a (.dK (Ek kvs k v)))\/
 ∃kvs k b,H a=some (.dT kvs)/\y=.ref b/\H b=some (.tup (k.map kV))/\kvs.length < sizeLine/\H'=upd H a (.dT (Ek kvs k v))
def DGet.t{a b:Addr}{kvs:List (List Ae×V)}{k:List Ae}(e:H a=some (.dT kvs))(eb:H b=some (.tup (k.map kV))):DGet H a (.ref b) (Ci kvs k):=.inr ⟨kvs,k,b,.inl e,rfl,eb,rfl⟩
theorem DPut.k{a:Addr}{kvs:List (Ae×V)}{k:Ae}(e:H a=some (.dK kvs))(hl:kvs.length < sizeLine):DPut H a (kV k) v (upd H a (.dK (Ek kvs k v))):=.inl ⟨kvs,k,e,rfl,hl,rfl⟩
def DPut.t{a b:Addr}{kvs:List (List Ae×V)}{k:List Ae}(e:H a=some (.dT kvs))(eb:H b=some (.tup (k.map kV)))(hl:kvs.length < sizeLine):
  DPut H a (.ref b) v (upd H a (.dT (Ek kvs k v))):=.inr ⟨kvs,k,b,e,rfl,eb,hl,rfl⟩
section
variable{X:Cx}{zd:AE}{σ:St}{H:Hp}{s:Shared}{a:Addr}{y v:V}{u r:Value}{o:Option V}{A:Around}{E:AA}
def Inv.big(I:Inv X zd σ H s):sysModules < s.heap.objs.size:=by
 have h:mainGlobals < s.heap.objs.size:=(I.mod.glob.keeps I.bk).lt;exact Nat.lt_trans ⋯ h
def cg_4{Q:AA}(hu:A.units + 1 < cLine)(I:Inv X zd σ H s)(g:DGet H a y (some v))(ry:RelV y u)(h:∀w' s',Inv X zd σ H s'->RelV v w'->Q w' s'):
  wpAny (model X.prog X.w) A (getItem (.ref a) u) Q E s:=by
 rcases g with⟨kvs,k,e,ey,l⟩|⟨kvs,k,b,e,ey,eb,l⟩
 ·subst ey;obtain⟨z,hd,vs,rel,dd⟩:=r_5 I.hok e;obtain⟨w',hw,rw'⟩:=RelO.some_of (v:=v) (o:=valueAt vs k) (by rw[l];exact rel.val k);exact wpAny_getItem_of (ag_4 ry) dd.mapOf hw (h w' _ (I.tok _) rw')
 ·subst ey;cases(show u=Value.ref b from ry);obtain⟨z,hd,xs,rel,dd⟩:=as_8 I.hok e;obtain⟨w',hw,rw'⟩:=RelO.some_of (v:=v) (o:=(atKey xs k).map (·.2)) (by rw[l];exact rel.val k);obtain⟨p,hp,hp2⟩:=F9.mp hw;refine wpAny_getItem_heap (R4 hu) (ak_2 I.hok eb) dd hp ?_;rw[hp2];exact h w' _ (I.tok _) rw'
def d_in{Q:AA}(hu:A.units + 1 < cLine)(I:Inv X zd σ H s)(g:DGet H a y o)(ry:RelV y u)(h:∀s',Inv X zd σ H s'->Q (.bool o.isSome) s'):
  wpAny (model X.prog X.w) A (compareOp .In u (.ref a)) Q E s:=by
 rcases g with⟨kvs,k,e,ey,l⟩|⟨kvs,k,b,e,ey,eb,l⟩
 ·subst ey;obtain⟨z,hd,vs,rel,dd⟩:=r_5 I.hok e;refine wpAny_in_of (ag_4 ry) hd dd.mapOf ?_;rw[<-(rel.val k).isSome_eq,<-l];exact h _ (I.tok _)
 ·subst ey;cases(show u=Value.ref b from ry);obtain⟨z,hd,xs,rel,dd⟩:=as_8 I.hok e;refine wpAny_in_heap (R4 hu) (ak_2 I.hok eb) hd dd ?_;have q:=(rel.val k).isSome_eq;rw[Y9]at q;rw[<-q,<-l];exact h _ (I.tok _)
def da_0{Q:AA}(hu:A.units + 1 < cLine)(I:Inv X zd σ H s)(g:DGet H a y o)(ry:RelV y u)(h:∀s',Inv X zd σ H s'->Q (.bool (!o.isSome)) s'):
  wpAny (model X.prog X.w) A (compareOp .NotIn u (.ref a)) Q E s:=by
 rcases g with⟨kvs,k,e,ey,l⟩|⟨kvs,k,b,e,ey,eb,l⟩
 ·subst ey;obtain⟨z,hd,vs,rel,dd⟩:=r_5 I.hok e;refine wpAny_notIn_of (ag_4 ry) hd dd.mapOf ?_;rw[<-(rel.val k).isSome_eq,<-l];exact h _ (I.tok _)
 ·subst ey;cases(show u=Value.ref b from ry);obtain⟨z,hd,xs,rel,dd⟩:=as_8 I.hok e;refine wpAny_notIn_heap (R4 hu) (ak_2 I.hok eb) hd dd ?_;have q:=(rel.val k).isSome_eq;rw[Y9]at q;rw[<-q,<-l];exact h _ (I.tok _)
def ag_5{h':Heap}{t':Nat}{ob:HO}(I:Inv X zd σ H s)(mu:Mut (H a))(hs:Heap.SameBut a s.heap h')(he:∃q,h'.get? a=some q)(new:ObjOk X.prog X.w (upd H a ob) h' a ob):
  Inv X zd σ (upd H a ob) {s with heap:=h',toks:=t'}:=
 I.write (x:=a) (e:=a) mu (.inl rfl) (λb q hb z=>(hs.2 b hb).trans z) he new
def bf_4{P:Program}{w:World}{H':Hp}{h':Heap}{kvs:List (Ae×V)}{vs:List (Ae×Value)}(z:kvs.length<=sizeLine)(hd:(a ==sysModules)=false)(rel:KV kvs vs)(dd:h'.DictOf (Dw P w) a vs):
  ObjOk P w H' h' a (.dK kvs):=⟨z,hd,vs,rel,dd⟩
def cg_5{H':Hp}{Q:Unit->Shared->Prop}(hu:A.units + 1 < cLine)(I:Inv X zd σ H s)(g:DPut H a y v H')(ry:RelV y u)(rv:RelV v r)(h:∀s',Inv X zd σ H' s'->Q .unit s'):
  wpAny (model X.prog X.w) A (setItem (.ref a) u r) Q E s:=by
 rcases g with⟨kvs,k,e,ey,l,eH⟩|⟨kvs,k,b,e,ey,eb,l,eH⟩
 ·subst ey eH;obtain⟨z,hd,vs,rel,dd⟩:=bz_3 I.hok e;have hz:vs.length<=sizeLine:=by rw[<-rel.length];exact z
  have hl:(Ek kvs k v).length<=sizeLine:=by have:=u_8 kvs k v;omega
  refine wpAny_setItem_pairs (hsz:=hz) (ag_4 ry) dd λh' dd' hs=>h _ ?_;have he:∃q,h'.get? a=some q:=let⟨q,_,_,hq,_⟩:=dd';⟨q,hq⟩;exact ag_5 I (by rw[e];exact True.intro) hs he (bf_4 hl hd (rel.put k rv) dd')
 ·subst ey eH;cases(show u=Value.ref b from ry);obtain⟨z,hd,xs,rel,dd⟩:=dt_8 I.hok e;have hz:xs.length<=sizeLine:=by rw[<-W1 rel];exact z
  have hl:(Ek kvs k v).length<=sizeLine:=by have:=u_8 kvs k v;omega
  refine wpAny_setItem_heap (hsz:=hz) (R4 hu) (ak_2 I.hok eb) dd λh' dd' hs=>h _ ?_;obtain⟨q,es,ep,hq,h2,h3,h4,_,h5⟩:=dd';refine ag_5 I (by rw[e];exact True.intro) hs ⟨q,hq⟩ ⟨hl,hd,_,(rel.put k eb rv).keeps λc ys ec=> ?_,q,es,ep,hq,h2,h3,h4,h5⟩;rw[Aq (dr_7 ec e (λz=>nomatch z))];exact ec
end
section
variable{X:Cx}{zd:AE}{σ:St}{H:Hp}{s:Shared}{a:Addr}{kvs:List (Ae×V)}{k:Ae}{u:Value}{A:Around}{E:AA}
def dt_9{more:List Value}{Q:AA}(I:Inv X zd σ H s)(e:H a=some (.dK kvs))(ry:RelV (kV k) u)(l:Ci kvs k=some v)(hm:more= []\/∃x,more= [x])
  (h:∀w' s',Inv X zd σ (upd H a (.dK (q_4 kvs k))) s'->RelV v w'->Q w' s'):wpAny (model X.prog X.w) A (call (.builtin "dict.pop") (.ref a::u::more)) Q E s:=by
 obtain⟨z,hd,vs,rel,dd⟩:=bz_3 I.hok e;obtain⟨w',hw,rw'⟩:=RelO.some_of (v:=v) (o:=valueAt vs k) (by rw[<-l];exact rel.val k);have hp:(keyPart u).isSome=true:=by
  cases k with
  |inl i=>obtain⟨t,q⟩:=(show∃t,u=Value.int i t from ry);subst q;rfl
  |inr x=>obtain⟨t,q⟩:=(show∃t,u=Value.str x t from ry);subst q;rfl
 have ha:argsOk "dict.pop" ⟨.ref a::u::more,[]⟩:=by
  rcases hm with q|⟨x,q⟩
  ·subst q;exact PySem.F.args_dict_pop_2 _ _
  ·subst q;exact PySem.F.args_dict_pop_3 _ _ _
 refine U6 PySem.F.slot_dict_pop dd.typeIs PySem.F.entry_dict_pop ha (meets_dict_pop_there (Dw X.prog X.w) a (ag_4 ry) more hm hp)
  ⟨vs,w',dd,by rw[<-rel.length];exact z,hw,λh' dd' hs=>h w' _ ?_ rw'⟩
 have he:∃q,h'.get? a=some q:=let⟨q,_,_,hq,_⟩:=dd';⟨q,hq⟩;exact ag_5 I (by rw[e];exact True.intro) hs he (bf_4 (C5 (cn_8 kvs k) z) hd (rel.drop k) dd')
def du_0{Q:AA}(I:Inv X zd σ H s)(e:Rd H a (.dK kvs))(h:∀t s',Inv X zd σ H s'->Q (.int kvs.length t) s'):wpAny (model X.prog X.w) A (call (.builtin "len") [.ref a]) Q E s:=by
 obtain⟨z,hd,vs,rel,dd⟩:=r_5 I.hok e;refine call_len_dict hd dd (by rw[<-rel.length];rw[D6]at z;omega) ?_;rw[<-rel.length];exact h _ _ (I.tok _)
end
def NoSl(i:Expr):Prop:=∀ov iv,subscripted i false ov iv=operate [ov,iv] (getItem ov iv)
def da_1{prog:Program}{w:World}{A:Around}{E:AA}{s:Shared}{env:Env}{value slice:Expr}{T id:String}{Q:AA}
  (hl:typeLookup (.type T) "__getitem__" =pure (some (.builtin id))) (hs:NoSl slice)
  (h:wpAny (model prog w) A (eval value env) (λo s₁=>wpAny (model prog w) A (eval slice env) (λi s₂=>s₂.TypeIs o T/\wpAny (model prog w) A (getItem o i) Q E s₂) E s₁) E s):
  wpAny (model prog w) A (eval (.Subscript value slice pos) env) Q E s:=by
 refine Subscript_ (E4 h (λo s₁ h₁=>E4 h₁ (λi s₂ h₂=> ?_) λ_ _ x=>x) λ_ _ x=>x);obtain⟨hT,h₂⟩:=h₂;unfold subscriptTail;refine A7 ?_;rw[getitemInPython_of_ne hT.not_modules];refine A7 (wpAny_specialOf hT hl ?_);have fin:wpAny (model prog w) A (subscripted slice false o i) (λr s₃=>wpAny (model prog w) A (letTemporaryGo value o r >>=λ_=>pure r) Q E s₃) E s₂:=by
  rw[hs o i];exact wpAny_operating (E4 h₂ (λr s₃ h₃=>A7 (wpAny_letTemporaryGo (E7 h₃))) λ_ _ x=>x)
 first
  |exact E7 (A7 fin)
  |exact A7 (E7 (A7 fin))
  |exact A7 fin
def bk_9{zd:AE}{σ:St}{s:Shared}{a:Addr}{y:V}{o:Option V}(I:Inv X zd σ H s)(g:DGet H a y o):s.TypeIs (.ref a) "dict" :=by
 rcases g with⟨kvs,k,e,_,_⟩|⟨kvs,k,b,e,_,_,_⟩
 ·obtain⟨_,_,vs,_,dd⟩:=r_5 I.hok e;exact dd.typeIs
 ·obtain⟨_,_,xs,_,dd⟩:=as_8 I.hok e;exact dd.typeIs
def du_1(td ty:TE):TE:=λ σ H Q=>td σ H λx H1=>ty σ H1 λy H2=>∃a v,x=.ref a/\DGet H2 a y (some v)/\Q v H2
def du_2(td ty tv:TE):TS:=λD σ H=>tv σ H λv H1=>td σ H1 λx H2=>ty σ H2 λy H3=>∃a H4,x=.ref a/\DPut H3 a y v H4/\D.nx σ H4
section
variable{X:Cx}{o i e value:Expr}{pos pos' zh:Pos}{td ty tv:TE}
def da_2(hu:X.A.units + 1 < cLine)(ho:PE X o td)(hi:PE X i ty)(hs:NoSl i):PE X (.Subscript o i pos) (du_1 td ty):=by
 intro zd s σ H Q I h;refine da_1 PySem.F.slot_dict_getitem.lookup hs (Ay (ho zd s σ H _ I h) λu s1 ⟨x,H1,I1,rx,q1⟩=>Ay (hi zd s1 σ H1 _ I1 q1) λiv s2 ⟨y,H2,I2,ry,a,v,ex,g,q2⟩=> ?_);subst ex;obtain rfl:u=Value.ref a:=rx;exact⟨bk_9 I2 g,cg_4 hu I2 g ry λw' s3 I3 rw'=>⟨v,H2,I3,rw',q2⟩⟩
def bf_5(hu:X.A.units + 1 < cLine)(ho:PE X o td)(hi:PE X i ty)(hv:PE X value tv)(hs:swapsWith value (some (.Subscript o i pos')) pos.line X.env=pure false):
  PS X (.Assign [.Subscript o i pos'] value pos) (du_2 td ty tv):=by
 intro zd s σ H D I h;refine wpAny_Assign_Subscript (Ay (hv zd s σ H _ I h) λr s1 ⟨v,H1,I1,rv,q1⟩=>Ay (ho zd s1 σ H1 _ I1 q1) λu s2 ⟨x,H2,I2,rx,q2⟩=>Ay (hi zd s2 σ H2 _ I2 q2) λiv s3 ⟨y,H3,I3,ry,a,H4,ex,g,q3⟩=> ?_) hs;subst ex;obtain rfl:u=Value.ref a:=rx;exact cg_5 hu I3 g ry rv λs4 I4=>⟨σ,H4,I4,q3⟩
end
def as_9{P:Program}{w:World}(h:Heap)(hb:sysModules < h.objs.size):ObjOk P w H (h.push {cls:=.type "dict",data:=.dict #[]}) h.objs.size (.dK []):=
 ⟨L0 _,O7.mpr (Ne.symm (C9 hb)),[],.nil,Heap.DictOf.new h⟩
def dn_0:TE:=λ_ H Q=>∀p,H p=none->Q (.ref p) (upd H p (.dK []))
section
variable{X:Cx}{pos:Pos}
def cn_9:PE X (.Dict [] [] pos) dn_0:=λzd s σ H Q I h=>
 wpAny_Dict_empty ⟨.ref s.heap.objs.size,_,I.laid (a:=s.heap.objs.size) (o:=.dK []) (t':=s.toks) (λ_ _ q=>A4 _ q) (B5 _) (as_9 s.heap I.big),rfl,h _ (I.hok.fresh (B5 _))⟩
end
def bu_1:List (TE×TE)->St->Hp->(List (V×V)->Hp->Prop)->Prop
 | [],_,H,Q=>Q [] H
 |(tk,tv)::r,σ,H,Q=>tk σ H λx H1=>tv σ H1 λy H2=>bu_1 r σ H2 λps H3=>Q ((x,y)::ps) H3
abbrev VV:List (V×V)->List (Value×Value)->Prop:=Paired λp q=>RelV p.1 q.1/\RelV p.2 q.2
def PPs(X:Cx)(pos:Pos)(keys:List (Option Expr))(values:List Expr)(trs:List (TE×TE)):Prop:=
 ∀(zd:AE) (s:Shared) (σ:St) (H:Hp) (Q:List (V×V)->Hp->Prop),Inv X zd σ H s->bu_1 trs σ H Q->
  wpAny (model X.prog X.w) X.A (evalPairs (pairTrees keys values X.env pos)) (λvs s'=>∃ps H',Inv X zd σ H' s'/\VV ps vs/\Q ps H') X.xe s
def da_3:PPs X pos [] [] []:=λzd s σ H Q I h=>pairTrees_nil_walk ⟨[],H,I,.nil,h⟩
def co_0{k v:Expr}{ks:List (Option Expr)}{vs:List Expr}{tk tv:TE}{trs:List (TE×TE)}(hk:PE X k tk)(hv:PE X v tv)(hr:PPs X pos ks vs trs):
  PPs X pos (some k::ks) (v::vs) ((tk,tv)::trs):=λzd s σ H Q I h=>
 pairTrees_cons_walk (Ay (hk zd s σ H _ I h) λu s1 ⟨x,H1,I1,rx,q1⟩=>Ay (hv zd s1 σ H1 _ I1 q1) λw2 s2 ⟨y,H2,I2,ry,q2⟩=>
  Ay (hr zd s2 σ H2 _ I2 q2) λws s3 ⟨ps,H3,I3,rel,q3⟩=>⟨(x,y)::ps,H3,I3,.cons ⟨rx,ry⟩ rel,q3⟩)
def at_0(kvs more:List (Ae×V)):List (Ae×V):=more.foldl (λzn kv=>Ek zn kv.1 kv.2) kvs
def KV.merge:∀{more:List (Ae×V)} {rs:List (Ae×Value)} {kvs:List (Ae×V)} {vs:List (Ae×Value)},KV more rs->KV kvs vs->KV (at_0 kvs more) (merged vs rs):=by
 intro more rs kvs vs r;unfold KV at r
 induction r generalizing kvs vs with
 |nil=>intro q;exact q
 | @cons p q ps qs h t ih=>
  intro r0;have e:KV (Ek kvs p.1 p.2) (stored vs q.1 q.2):=by
   have:=r0.put p.1 h.2;rw[<-h.1];exact this
  exact ih e
theorem ad_8:∀(more kvs:List (Ae×V)),(at_0 kvs more).length<=kvs.length + more.length
 | [],kvs=>by show kvs.length<=kvs.length + 0;omega
 |p::r,kvs=>by
  have h1:=ad_8 r (Ek kvs p.1 p.2);have h2:=u_8 kvs p.1 p.2;show(at_0 (Ek kvs p.1 p.2) r).length<=_;rw[B4];omega
theorem at_1{P:Program}{w:World}:∀{kvs:List (Ae×V)} {ws:List (Value×Value)},VV (kvs.map λkv=>(kV kv.1,kv.2)) ws->∃rs,Carries (Dw P w) ws rs/\KV kvs rs
 | [],_,r=>by rw[N0]at r;cases r;exact⟨[],True.intro,.nil⟩
 |p::kvs,_,r=>by
  rw[A8]at r;cases r with
  | @cons a b as bs h t=>
   obtain⟨rs,c,q⟩:=at_1 (P:=P) (w:=w) t;obtain⟨b1,b2⟩:=b;exact⟨(p.1,b2)::rs,⟨ag_4 h.1,rfl,c⟩,.cons ⟨rfl,h.2⟩ q⟩
def du_3(trs:List (TE×TE)):TE:=λ σ H Q=>∀p,H p=none->bu_1 trs σ (upd H p (.dK [])) λps H2=>H2 p=some (.dK [])/\∃kvs:List (Ae×V),ps=kvs.map (λkv=>(kV kv.1,kv.2))/\kvs.length<=15/\Q (.ref p) (upd H2 p (.dK (at_0 [] kvs)))
def da_4{keys:List (Option Expr)}{values:List Expr}{trs:List (TE×TE)}(h:PPs X pos keys values trs)(bh:keys.all (·.isSome)=true)(hl:keys.length=values.length)(h0:keys≠ [])
  (h15:keys.length<=15):PE X (.Dict keys values pos) (du_3 trs):=by
 intro zd s σ H Q I q;have hn:=I.hok.fresh (B5 s.heap.objs.size);have I1:=I.laid (a:=s.heap.objs.size) (o:=.dK []) (h':=s.heap.push {cls:=.type "dict",data:=.dict #[]}) (t':=s.toks) (λ_ _ q=>A4 _ q) (B5 _) (as_9 s.heap I.big);refine wpAny_Dict_walk (knd:=Dw X.prog X.w) bh hl h0 h15 (Ay (h zd _ σ _ _ I1 (q _ hn)) λws s2 ⟨ps,H2,I2,rel,e,kvs,ep,lk,q2⟩=> ?_);subst ep;obtain⟨rs,c,rk⟩:=at_1 (P:=X.prog) (w:=X.w) rel;obtain⟨z,hd,vs0,r0,dd⟩:=bz_3 I2.hok e;cases r0;refine⟨rs,c,dd,λh' dd' hs=>⟨.ref s.heap.objs.size,_, ?_,rfl,q2⟩⟩;have hz:(at_0 [] kvs).length<=sizeLine:=by
  have h1:=ad_8 kvs [];rw[J8]at h1;rw[D6];omega
 have he:∃q,h'.get? s.heap.objs.size=some q:=let⟨q,_,_,hq,_⟩:=dd';⟨q,hq⟩;exact ag_5 I2 (by rw[e];exact True.intro) hs he (bf_4 hz hd (rk.merge .nil) dd')
structure M1(X:Cx)(o:Expr)(m:Str)(zg:Pos)(e:Expr)(zf:Pos):Prop where
 base:attributeBase o m X.env (eval o X.env)=eval o X.env
 few:((backTo zf (starEach [e] X.env)).all (λx=> !x.1) && (backToKw zf (keywordEach [] X.env)).all (λx=>x.1.isSome)
  && decide (([e]:List Expr).length + ([]:List Keyword).length + (if([]:List Keyword).isEmpty then 0 else 1) < 30))=true
 line:(zg.endLine ==zf.line)=true
 trees:backTo zf (starEach [e] X.env)= [(false,eval e X.env)]
structure M2(X:Cx)(o:Expr)(m:Str)(zg:Pos)(e f:Expr)(zf:Pos):Prop where
 base:attributeBase o m X.env (eval o X.env)=eval o X.env
 few:((backTo zf (starEach [e,f] X.env)).all (λx=> !x.1) && (backToKw zf (keywordEach [] X.env)).all (λx=>x.1.isSome)
  && decide (([e,f]:List Expr).length + ([]:List Keyword).length + (if([]:List Keyword).isEmpty then 0 else 1) < 30))=true
 line:(zg.endLine ==zf.line)=true
 trees:backTo zf (starEach [e,f] X.env)= [(false,eval e X.env),(false,eval f X.env)]
def IsD(H:Hp)(a:Addr):Prop:=(∃kvs,Rd H a (.dK kvs))\/∃kvs,Rd H a (.dT kvs)
def bu_2{zd:AE}{σ:St}{s:Shared}{a:Addr}(I:Inv X zd σ H s)(d:IsD H a):
  s.TypeIs (.ref a) "dict" /\(∀b,Value.ref a=.ref b->∃ob,s.heap.get? b=some ob/\ob.dict=none)/\(a ==sysModules)=false:=by
 rcases d with⟨kvs,e⟩|⟨kvs,e⟩
 ·obtain⟨_,hd,vs,_,dd⟩:=r_5 I.hok e;refine⟨dd.typeIs,λb q=> ?_,hd⟩;cases q;obtain⟨ob,_,_,h1,h2,_⟩:=dd;exact⟨ob,h1,h2.2.1⟩
 ·obtain⟨_,hd,xs,_,dd⟩:=as_8 I.hok e;refine⟨dd.typeIs,λb q=> ?_,hd⟩;cases q;obtain⟨ob,_,_,h1,h2,_⟩:=dd;exact⟨ob,h1,h2.2.1⟩
section
variable{X:Cx}{zd:AE}{σ:St}{H:Hp}{s:Shared}{a:Addr}{y d:V}{u r:Value}{o:Option V}{A:Around}{E:AA}
def dn_1{Q:AA}(hu:A.units + 1 < cLine)(I:Inv X zd σ H s)(g:DGet H a y o)(ry:RelV y u)(rd:RelV d r)(h:∀w' s',Inv X zd σ H s'->RelV (o.getD d) w'->Q w' s'):
  wpAny (model X.prog X.w) A (call (.builtin "dict.get") [.ref a,u,r]) Q E s:=by
 rcases g with⟨kvs,k,e,ey,l⟩|⟨kvs,k,b,e,ey,eb,l⟩
 ·subst ey;obtain⟨z,hd,vs,rel,dd⟩:=r_5 I.hok e;refine U6 V5 dd.typeIs ZA8 (Z8 _ _ _) (meets_dict_get_default (Dw X.prog X.w) a (ag_4 ry) hd r) ⟨_,dd.mapOf,h _ _ (I.tok _) ?_⟩;rw[l];exact(rel.val k).getD rd
 ·subst ey;cases(show u=Value.ref b from ry);obtain⟨z,hd,xs,rel,dd⟩:=as_8 I.hok e;refine U6 V5 dd.typeIs ZA8 (Z8 _ _ _) (meetsH_dict_get_default (tupleKind (Dw X.prog X.w)) a b hd r) ⟨R4 hu,k,xs,ak_2 I.hok eb,dd,h _ _ (I.tok _) ?_⟩;rw[l];exact(rel.val k).getD rd
end
def dn_2(td ty tx:TE):TE:=λ σ H Q=>td σ H λx H1=>∃a,x=.ref a/\IsD H1 a/\ty σ H1 λy H2=>tx σ H2 λz H3=>∃o,DGet H3 a y o/\Q (o.getD z) H3
def dn_3(td ty:TE):TE:=λ σ H Q=>td σ H λx H1=>∃a,x=.ref a/\IsD H1 a/\ty σ H1 λy H2=>∃kvs k v,H2 a=some (.dK kvs)/\y=kV k/\Ci kvs k=some v/\Q v (upd H2 a (.dK (q_4 kvs k)))
section
variable{X:Cx}{o e f:Expr}{zg zf:Pos}{td ty tx:TE}
def co_1(hu:X.A.units + 1 < cLine)(ho:PE X o td)(he:PE X e ty)(hf:PE X f tx)(m:M2 X o "get" zg e f zf):PE X (.Call (.Attribute o "get" zg) [e,f] [] zf) (dn_2 td ty tx):=by
 intro zd s σ H Q I h;refine Z0 m.base m.few m.line O0 V5 PySem.F.type_dict_get (Ay (ho zd s σ H _ I h) λu s1 ⟨x,H1,I1,rx,a,ex,d,q1⟩=> ?_);subst ex;obtain rfl:u=Value.ref a:=rx;obtain⟨t1,t2,_⟩:=bu_2 I1 d;refine⟨t1,t2, ?_⟩;rw[m.trees];refine M9 rfl (S6 (O9 (Ay (he zd s1 σ H1 _ I1 q1) λiv s2 ⟨y,H2,I2,ry,q2⟩=>
  O9 (Ay (hf zd s2 σ H2 _ I2 q2) λfv s3 ⟨z,H3,I3,rz,ov,g,q3⟩=>U4 ?_))))
 exact dn_1 hu I3 g ry rz λw' s4 I4 rw'=>⟨_,H3,I4,rw',q3⟩
def bl_0(ho:PE X o td)(he:PE X e ty)(m:M1 X o "pop" zg e zf):PE X (.Call (.Attribute o "pop" zg) [e] [] zf) (dn_3 td ty):=by
 intro zd s σ H Q I h;refine Z0 m.base m.few m.line O0 PySem.F.slot_dict_pop PySem.F.type_dict_pop (Ay (ho zd s σ H _ I h) λu s1 ⟨x,H1,I1,rx,a,ex,d,q1⟩=> ?_);subst ex;obtain rfl:u=Value.ref a:=rx;obtain⟨t1,t2,_⟩:=bu_2 I1 d;refine⟨t1,t2, ?_⟩;rw[m.trees];refine M9 rfl (S6 (O9 (Ay (he zd s1 σ H1 _ I1 q1) λiv s2 ⟨y,H2,I2,ry,kvs,k,v,ea,ey,l,q2⟩=>U4 ?_)));subst ey;exact dt_9 I2 ea ry l (.inl rfl) λw' s3 I3 rw'=>⟨v,_,I3,rw',q2⟩
end
section
variable{X:Cx}{zd:AE}{σ:St}{H:Hp}{s:Shared}{a:Addr}{kvs:List (Ae×V)}{A:Around}{E:AA}
end
section
variable{X:Cx}{zd:AE}{σ:St}{H:Hp}{s:Shared}{a:Addr}{y:V}{u:Value}{A:Around}{E:AA}
end
section
variable{X:Cx}
end
section
variable{κ:Type} [DecidableEq κ]
def cg_6{p:κ×V}{r:List (κ×V)}{k:κ}(e:p.1=k):q_4 (p::r) k=q_4 r k:=by
 unfold q_4;rw[R0,if_neg (by simp[e])]
def cg_7{p:κ×V}{r:List (κ×V)}{k:κ}(e:¬p.1=k):q_4 (p::r) k=p::q_4 r k:=by
 unfold q_4;rw[R0,if_pos (by simp[e])]
end
end L2
namespace L3
open PySem PySem.Spec PyProof.Rows L2
variable{K:Frag}{fd:FuncData}{mg:AB}{us:List Value}{base:Heap}{H:Hp}{X:Cx}{pos:Pos}{v:V}
section
variable{X:Cx}
def Cv{EX:EXT}{G H:Hp}{Q:VK}{d:D}(o:Out K EX G H (.ok (.sh d)) Q)(g:Same G H)(r:Has K G v d):Q v H:=WP.use o g r
def du_4(K:Frag):R2:=λx y H Q=>∃l b xs zs,x=.ref l/\y=.ref b/\SqL K H l xs/\SqL K H b zs/\xs.length + zs.length<=sizeLine/\∀p,H p=none->Q (.ref p) (upd H p (.lst (xs ++ zs)))
def da_5:OpR X (binaryOp .Add) (du_4 X.K):=by
 intro zd s σ H x y v u Q I rx ry h;obtain⟨l,b,xs,zs,rfl,rfl,hH,hB,hz,q⟩:=h;cases rx;cases ry;obtain⟨its,r,⟨o,n,e,c,dd,dat⟩,z⟩:=I.list hH;obtain⟨bg,r2,⟨o2,n2,e2,c2,dd2,dat2⟩,z2⟩:=I.list hB;have hl:=r.length;have hl2:=r2.length;obtain⟨cls,dd',data,sl⟩:=o;obtain⟨df,gm,data2,sl2⟩:=o2;simp only at c dd dat c2 dd2 dat2;subst c dd dat c2 dd2 dat2;refine ZA6 ⟨_,e,rfl⟩ ⟨_,e2,rfl⟩ noFill_list_add seq_list_add PySem.F.slot_list_add PySem.F.entry_list_add (PySem.F.args_list_add_2 _ _) (list_addW l b its.toArray bg.toArray n n2 none none sl sl2 (by rw[D0,D0];omega)) ⟨e,e2, ?_⟩;have ea:its.toArray ++ bg.toArray=(its ++ bg).toArray:=by simp
 rw[ea];exact⟨.ref _,_,I.lnew (t':=s.toks) (r.append r2) (by rw[B8];omega),rfl,q _ I.fresh⟩
def Br:D->D->R W
 | .int i,.int j=> .ok (.sh (.int (i + j)))
 | .str x,.str y=>if x.length + y.length<=16777216 then .ok (.sh (.str (x ++ y))) else .no
 | .lst a,.lst b=>if a.length + b.length<=16777216 then .ok (.ow (.lst (a ++ b))) else .no
 |_,_=> .no
def Cj:Er X (binaryOp .Add) Br:=by
 intro zd s σ H x y v u Q I rx ry h;obtain⟨EX,G,a,b,g,ra,rb,o⟩:=h;cases ra with
 |int i=>
  cases rb with
  |int j=>exact dl_1 zd s σ H _ _ _ _ Q I rx ry ⟨i,j,rfl,rfl,Cv o g (.int _)⟩
  |_=>exact False.elim o
 |str x=>
  cases rb with
  |str y=>
   simp only[Br]at o
   split at o
   ·rename_i hz;exact bt_0 zd s σ H _ _ _ _ Q I rx ry ⟨x,y,rfl,rfl,by rw[D6];exact hz,Cv o g (.str _)⟩
   ·exact o.elim
  |_=>exact False.elim o
 |lst h1 r1=>
  cases rb with
  |lst h2 r2=>
   simp only[Br]at o
   split at o
   ·rename_i hz;exact da_5 zd s σ H _ _ _ _ Q I rx ry ⟨_,_,_,_,rfl,rfl,g.seq h1,g.seq h2,by rw[r1.length,r2.length,D6];exact hz,ac_2 o g (r1.append r2)⟩
   ·exact o.elim
  |_=>exact False.elim o
 |_=>cases rb <;> exact False.elim o
def intD(C:Int->Int->Bool)(f:Int->Int->Int):D->D->R W
 | .int i,.int j=>if C i j=true then .ok (.sh (.int (f i j))) else .no
 |_,_=> .no
def ag_6{fn:Value->Value->Sem Value}{C:Int->Int->Bool}{P:Int->Int->Prop}{f:Int->Int->Int}(h:OpR X fn (rI P λi j=> .int (f i j)))(hC:∀i j,C i j=true->P i j):Er X fn (intD C f):=by
 intro zd s σ H x y v u Q I rx ry q;obtain⟨EX,G,a,b,g,ra,rb,o⟩:=q;cases ra with
 |int i=>
  cases rb with
  |int j=>
   simp only[intD]at o
   split at o
   ·rename_i hc;exact h zd s σ H _ _ _ _ Q I rx ry ⟨i,j,rfl,rfl,hC i j hc,Cv o g (.int _)⟩
   ·exact o.elim
  |_=>exact False.elim o
 |_=>cases rb <;> exact False.elim o
def Fe:D->D->R W:=intD (λ_ _=>true) (λi j=>i - j)
def Em(i j:Int):Bool:=decide (i.natAbs < 18446744073709551616\/j.natAbs < 18446744073709551616)
def Dg:D->D->R W:=intD Em (λi j=>i * j)
def divC(_ j:Int):Bool:=decide (0 < j/\j.natAbs < 1361129467683753853853498429727072845824)
def Gb:D->D->R W:=intD divC (λi j=>i / j)
def modC(_ j:Int):Bool:=decide (0 < j)
def Bz:D->D->R W:=intD modC (λi j=>i % j)
def powC(i j:Int):Bool:=decide (0<=j/\j.natAbs<=1000000/\i.natAbs < 18446744073709551616)
def powD:D->D->R W:=intD powC (λi j=>i ^ j.toNat)
def x_3:Er X (binaryOp .Sub) Fe:=ag_6 (P:=λ_ _=>True) (opI λ_ _ _ _ _ _ _ _ q=>sub_int q) λ_ _ _=>trivial
def Ea:Er X (binaryOp .Mult) Dg:=ag_6 dl_2 λi j h=>by
 have h:=K8 h;rcases h with h|h
 ·exact .inl ⟨by omega,by omega⟩
 ·exact .inr ⟨by omega,by omega⟩
def l_1:Er X (binaryOp .FloorDiv) Gb:=ag_6 (P:=λ_ j=>0 < j/\j.natAbs < 1361129467683753853853498429727072845824) (opI λi j _ _ _ _ _ hc q=>by
 have h1:(0:Int) < j:=hc.1;have h2:=hc.2;refine floordiv_int () ?_ (.inl (PyProof.noPylong_of_log2 ?_))
 ·rw[Int.fdiv_eq_ediv_of_nonneg i ()];exact q
 ·have:j.natAbs < 2 ^ 130:=by
   have e:(2:Nat) ^ 130=1361129467683753853853498429727072845824:=by decide
   omega
  have l:j.natAbs.log2 < 130:=(Nat.log2_lt ()).mpr this;omega) λi j h=>K8 h
def Co:Er X (binaryOp .Mod) Bz:=ag_6 dl_3 λi j h=>K8 h
def da_7{i j:Int}(h:powC i j=true):CPow i j:=by
 obtain⟨h1,h2,h3⟩:=K8 h;refine⟨h1,by omega, ?_⟩;have e:(2:Nat) ^ 64=18446744073709551616:=by decide
 omega
def bz_4:Er X (binaryOp .Pow) powD:=ag_6 dl_4 λi j h=>da_7 h
def cmpD(f:Int->Int->Bool):D->D->R W
 | .int i,.int j=> .ok (.sh (.bl (f i j)))
 |_,_=> .no
def bf_7{fn:Value->Value->Sem Value}{f:Int->Int->Bool}(h:OpR X fn (rI0 λi j=> .bl (f i j))):Er X fn (cmpD f):=by
 intro zd s σ H x y v u Q I rx ry q;obtain⟨EX,G,a,b,g,ra,rb,o⟩:=q;cases ra with
 |int i=>
  cases rb with
  |int j=>exact h zd s σ H _ _ _ _ Q I rx ry ⟨i,j,rfl,rfl,Cv o g (.bl _)⟩
  |_=>exact False.elim o
 |_=>cases rb <;> exact False.elim o
def ltD:D->D->R W:=cmpD λi j=>decide (i < j)
def leD:D->D->R W:=cmpD λi j=>decide (i<=j)
def gtD:D->D->R W:=cmpD λi j=>decide (j < i)
def at_3:Er X (compareOp .Lt) ltD:=bf_7 dt_1
def at_4:Er X (compareOp .LtE) leD:=bf_7 dt_2
def bu_3:Er X (compareOp .Gt) gtD:=bf_7 dt_3
mutual
def Db:D->PyData
 | .non=> .none
 | .bl b=> .bool b
 | .int i=> .int i
 | .str x=> .str x
 | .lst ds=> .list (u_9 ds)
 | .tup ds=> .tuple (u_9 ds)
 | .dic _=> .dict []
 | .exn _ _ _=> .dict []
 | .obj _ _ _=> .dict []
def u_9:List D->List PyData
 | []=> []
 |d::ds=>Db d::u_9 ds
end
mutual
theorem Has.reads(hK:X.K=K){zd:AE}{σ:Sg}{s:Shared}(I:Inv X zd σ H s){G:Hp}(g:Same G H):∀{v:V} {d:D} {u:Value},(Db d).canLay0=true->Has K G v d->RelV v u->∃as,Reads s.heap u (Db d) as
 |_,_,_,_,.non,r=>by cases r;exact⟨_,.none⟩
 |_,_,_,_,.bl b,r=>by cases r;exact⟨_,.bool b⟩
 |_,_,_,_,.int i,r=>by obtain⟨t,rfl⟩:=r;exact⟨_,.int i t⟩
 |_,_,_,_,.str x,r=>by obtain⟨t,rfl⟩:=r;exact⟨_,.str x t⟩
 |_,_,_,c,.lst h r,q=>by
  cases q;obtain⟨its,rv,⟨o,n,e,c',_,dat⟩,_⟩:=I.list (by rw[hK];exact g.seq h);obtain⟨as,z⟩:=HasL.reads hK I g c r rv;exact⟨_,.list e c' dat z⟩
 |_,_,_,c,.tup h r,q=>by
  cases q;obtain⟨its,rv,⟨o,e,c',n,dat⟩,_⟩:=I.tuple (by rw[hK];exact Same.tupS g h);obtain⟨as,z⟩:=HasL.reads hK I g c r rv;exact⟨_,.tuple e c' dat z⟩
 |_,_,_,c,.exn0 _ _,_=>absurd c A6
 |_,_,_,c,.exn1 _ _ _ _ _,_=>absurd c A6
 |_,_,_,c,.dic _ _ _,_=>absurd c A6
 |_,_,_,c,.obj _ _ _ _,_=>absurd c A6
theorem HasL.reads(hK:X.K=K){zd:AE}{σ:Sg}{s:Shared}(I:Inv X zd σ H s){G:Hp}(g:Same G H):∀{vs:List V} {ds:List D} {us:List Value},PyData.canLayAll0 (u_9 ds)=true->HasL K G vs ds->Vals vs us->∃as,ReadsAll s.heap us (u_9 ds) as
 |_,_,_,_,.nil,r=>by cases r;exact⟨_,.nil⟩
 |_,_,_,c,.cons h t,r=>by
  cases r with
  |cons r1 r2=>
   have c':(PyData.canLay0 (Db _) && PyData.canLayAll0 (u_9 _))=true:=c;rw[C8]at c';obtain⟨a1,z1⟩:=Has.reads hK I g c'.1 h r1;obtain⟨a2,z2⟩:=HasL.reads hK I g c'.2 t r2;exact⟨_,.cons z1 z2⟩
end
def Fj(a b:D):Bool:=(Db a).canLay0 && (Db b).canLay0 && decide ((Db a).depth<=60)
def Fq(a b:D):Bool:=(Db a).eqv (Db b)
def Dd(a b:D):R W:=match a,b with
 | .str x,.str y=> .ok (.sh (.bl (decide (x=y))))
 |a,b=>if Fj a b=true then .ok (.sh (.bl (Fq a b))) else .no
def Fa(a b:D):R W:=match a,b with
 | .str x,.str y=> .ok (.sh (.bl (!decide (x=y))))
 |a,b=>if Fj a b=true then .ok (.sh (.bl (!Fq a b))) else .no
def bl_1(x y:Str):decide (V.str x=V.str y)=decide (x=y):=by
 by_cases e:x=y
 ·subst e;simp
 ·rw[D2 e,D2 (λz=>e (by injection z))]
def p_1(hu:X.A.units + 64 < cLine):Er X (compareOp .Eq) Dd:=by
 intro zd s σ H x y v u Q I rx ry q;obtain⟨EX,G,a,b,g,ra,rb,o⟩:=q;unfold Dd at o
 split at o
 ·rename_i x y;cases ra;cases rb;exact ds_9 zd s σ H _ _ _ _ Q I rx ry ⟨rfl,by rw[bl_1];exact Cv o g (.bl _)⟩
 ·split at o
  ·rename_i hc;unfold Fj at hc;rw[C8,C8]at hc;obtain⟨⟨h1,h2⟩,h3⟩:=hc;have h3:=K8 h3;obtain⟨as,za⟩:=Has.reads rfl I g h1 ra rx;obtain⟨bs,zb⟩:=Has.reads rfl I g h2 rb ry;refine PySem.SeqAt.compareEq_reads za zb h1 h2 ?_ ⟨.bl _,H,I,rfl,Cv o g (.bl _)⟩;have:=ZB5 (Db a).depth (Db b).depth;omega
  ·exact o.elim
def ak_3(hu:X.A.units + 64 < cLine):Er X (compareOp .NotEq) Fa:=by
 intro zd s σ H x y v u Q I rx ry q;obtain⟨EX,G,a,b,g,ra,rb,o⟩:=q;unfold Fa at o
 split at o
 ·rename_i x y;cases ra;cases rb;exact dt_0 zd s σ H _ _ _ _ Q I rx ry ⟨rfl,by rw[bl_1];exact Cv o g (.bl _)⟩
 ·split at o
  ·rename_i hc;unfold Fj at hc;rw[C8,C8]at hc;obtain⟨⟨h1,h2⟩,h3⟩:=hc;have h3:=K8 h3;obtain⟨as,za⟩:=Has.reads rfl I g h1 ra rx;obtain⟨bs,zb⟩:=Has.reads rfl I g h2 rb ry;refine PySem.SeqAt.compareNe_reads za zb h1 h2 ?_ ⟨.bl _,H,I,rfl,Cv o g (.bl _)⟩;have:=ZB5 (Db a).depth (Db b).depth;omega
  ·exact o.elim
def Bf:D->Bool
 | .non=>true
 | .bl _=>true
 | .int _=>true
 | .str _=>true
 |_=>false
def flV:D->V
 | .bl b=> .bl b
 | .int i=> .int i
 | .str x=> .str x
 |_=> .non
def Has.fl{G:Hp}{d:D}(r:Has K G v d)(f:Bf d=true):v=flV d/\Ft v=true:=by
 cases r with
 |non=>exact⟨rfl,rfl⟩
 |bl b=>exact⟨rfl,rfl⟩
 |int i=>exact⟨rfl,rfl⟩
 |str x=>exact⟨rfl,rfl⟩
 |lst _ _=>cases f
 |tup _ _=>cases f
 |exn0 _ _=>cases f
 |exn1 _ _ _ _ _=>cases f
 |dic _ _ _=>cases f
 |obj _ _ _ _=>cases f
def Has.ofFl{G G':Hp}{d:D}(r:Has K G v d)(f:Bf d=true):Has K G' v d:=by
 cases r with
 |non=>exact .non
 |bl b=>exact .bl b
 |int i=>exact .int i
 |str x=>exact .str x
 |lst _ _=>cases f
 |tup _ _=>cases f
 |exn0 _ _=>cases f
 |exn1 _ _ _ _ _=>cases f
 |dic _ _ _=>cases f
 |obj _ _ _ _=>cases f
theorem HasL.fl{G:Hp}:∀{vs:List V} {ds:List D},HasL K G vs ds->ds.all Bf=true->vs=ds.map flV/\vs.all Ft=true
 |_,_,.nil,_=>⟨rfl,rfl⟩
 |_,_,.cons h r,f=>by
  rw[N7,C8]at f;obtain⟨e1,e2⟩:=h.fl f.1;obtain⟨e3,e4⟩:=HasL.fl r f.2;exact⟨by rw[A8,<-e1,<-e3],by rw[N7,e2,e4];rfl⟩
def eqF(a b:D):Bool:=eqV (flV a) (flV b)
def En(d:D)(ds:List D):Bool:=ds.any λy=>eqF y d
def bz_5(d:D)(ds:List D):inV (flV d) (ds.map flV)=En d ds:=by
 unfold inV En;rw[List.any_map];rfl
def inD(neg:Bool):D->D->R W
 | .str i,.str j=> .ok (.sh (.bl (if neg then !(!(Builtin.Str.occurrences j i 0 j.length 1).isEmpty) else !(Builtin.Str.occurrences j i 0 j.length 1).isEmpty)))
 |d,.lst ds=>if(Bf d && ds.all Bf)=true then .ok (.sh (.bl (if neg then !En d ds else En d ds))) else .no
 |d,.tup ds=>if(Bf d && ds.all Bf)=true then .ok (.sh (.bl (if neg then !En d ds else En d ds))) else .no
 |_,_=> .no
def da_9{EX:EXT}{G H:Hp}{x y:V}{d:D}{e:D}{Q:VK}{neg:Bool}(g:Same G H)(ra:Has X.K G x d)(rb:Has X.K G y e)(hd:∀i j,d=.str i->e=.str j->False)(o:Out X.K EX G H (inD neg d e) Q):rIn X.K neg x y H Q:=by
 cases rb with
 |lst h r=>
  rename_i ds;have o':Out X.K EX G H (if(Bf d && ds.all Bf)=true then .ok (.sh (.bl (if neg then !En d ds else En d ds))) else .no) Q:=by
   cases d <;> exact o
  split at o'
  ·rename_i f;rw[C8]at f;obtain⟨e1,e2⟩:=ra.fl f.1;obtain⟨e3,e4⟩:=r.fl f.2;refine⟨_,_,rfl,.inl (g.seq h),e2,e4, ?_⟩;rw[e1,e3,bz_5];exact Cv o' g (.bl _)
  ·exact o'.elim
 |tup h r=>
  rename_i ds;have o':Out X.K EX G H (if(Bf d && ds.all Bf)=true then .ok (.sh (.bl (if neg then !En d ds else En d ds))) else .no) Q:=by
   cases d <;> exact o
  split at o'
  ·rename_i f;rw[C8]at f;obtain⟨e1,e2⟩:=ra.fl f.1;obtain⟨e3,e4⟩:=r.fl f.2;refine⟨_,_,rfl,.inr (Same.tupS g h),e2,e4, ?_⟩;rw[e1,e3,bz_5];exact Cv o' g (.bl _)
  ·exact o'.elim
 |str j=>
  cases d with
  |str i=>exact(hd i j rfl rfl).elim
  |_=>exact False.elim o
 |_=>cases d <;> exact False.elim o
def dn_4:Er X (compareOp .In) (inD false):=by
 intro zd s σ H x y v u Q I rx ry q;obtain⟨EX,G,a,b,g,ra,rb,o⟩:=q
 by_cases hs:∃i j,a=.str i/\b=.str j
 ·obtain⟨i,j,rfl,rfl⟩:=hs;cases ra;cases rb;exact cf_2 zd s σ H _ _ _ _ Q I rx ry ⟨i,j,rfl,rfl,Cv o g (.bl _)⟩
 ·exact cf_9 zd s σ H _ _ _ _ Q I rx ry (da_9 g ra rb (λi j e1 e2=>hs ⟨i,j,e1,e2⟩) o)
def Dr:List D->R W
 | [.str x]=>if x.length<=16777216 then .ok (.sh (.int x.length)) else .no
 | [.lst ds]=> .ok (.sh (.int ds.length))
 | [.tup ds]=> .ok (.sh (.int ds.length))
 |_=> .no
def j_9:y_9 X (.builtin "len") Dr:=by
 intro zd s σ H vs us Q I rv q;obtain⟨EX,G,ds,g,r,o⟩:=q;cases r with
 |nil=>exact False.elim o
 |cons h t=>
  cases t with
  |cons _ _=>cases h <;> exact False.elim o
  |nil=>
   cases h with
   |str x=>
    simp only[Dr]at o
    split at o
    ·rename_i hz;exact bf_1 zd s σ H _ _ Q I rv ⟨x,rfl,by rw[D6];exact hz,Cv o g (.int _)⟩
    ·exact o.elim
   |lst h r=>exact ag_2 zd s σ H _ _ Q I rv ⟨_,_,rfl,.inl (g.seq h),by rw[r.length];exact Cv o g (.int _)⟩
   |tup h r=>exact ag_2 zd s σ H _ _ Q I rv ⟨_,_,rfl,.inr (Same.tupS g h),by rw[r.length];exact Cv o g (.int _)⟩
   |_=>exact False.elim o
def maxD:List D->R W
 | [.int i,.int j]=> .ok (.sh (.int (if j > i then j else i)))
 |_=> .no
def minD:List D->R W
 | [.int i,.int j]=> .ok (.sh (.int (if j < i then j else i)))
 |_=> .no
def bl_3{G:Hp}{vs:List V}{ds:List D}(r:HasL K G vs ds){P:Prop}(h:∀i j,vs= [.int i,.int j]->ds= [.int i,.int j]->P)(n:(∀i j,ds≠ [.int i,.int j])->P):P:=by
 by_cases e:∃i j,ds= [.int i,.int j]
 ·obtain⟨i,j,rfl⟩:=e;cases r with
  |cons a t=>
   cases t with
   |cons b t2=>
    cases t2;cases a;cases b;exact h i j rfl rfl
 ·exact n λi j z=>e ⟨i,j,z⟩
def db_0{ds:List D}(h:∀i j,ds≠ [.int i,.int j]):maxD ds=.no:=by
 unfold maxD
 split
 ·rename_i i j;exact absurd rfl (h i j)
 ·rfl
def db_1{ds:List D}(h:∀i j,ds≠ [.int i,.int j]):minD ds=.no:=by
 unfold minD
 split
 ·rename_i i j;exact absurd rfl (h i j)
 ·rfl
def ak_4(hc:X.calm=true):y_9 X (.builtin "max") maxD:=by
 intro zd s σ H vs us Q I rv q;obtain⟨EX,G,ds,g,r,o⟩:=q;refine bl_3 r (λi j e1 e2=> ?_) λn=> ?_
 ·subst e1 e2;exact cf_3 hc zd s σ H _ _ Q I rv ⟨i,j,rfl,Cv o g (.int _)⟩
 ·rw[db_0 n]at o;exact o.elim
def cg_9(hc:X.calm=true):y_9 X (.builtin "min") minD:=by
 intro zd s σ H vs us Q I rv q;obtain⟨EX,G,ds,g,r,o⟩:=q;refine bl_3 r (λi j e1 e2=> ?_) λn=> ?_
 ·subst e1 e2;exact cf_4 hc zd s σ H _ _ Q I rv ⟨i,j,rfl,Cv o g (.int _)⟩
 ·rw[db_1 n]at o;exact o.elim
def bu_4:List D->R W
 | [.lst ds]=> .ok (.ow (.lst ds))
 | [.tup ds]=> .ok (.ow (.lst ds))
 |_=> .no
def bl_4:y_9 X (.type "list") bu_4:=by
 intro zd s σ H vs us Q I rv q;obtain⟨EX,G,ds,g,r,o⟩:=q;cases r with
 |nil=>exact False.elim o
 |cons h t=>
  cases t with
  |cons _ _=>cases h <;> exact False.elim o
  |nil=>
   cases h with
   |lst h r=>exact ag_3 zd s σ H _ _ Q I rv ⟨_,_,rfl,.inl (g.seq h),ac_2 o g r⟩
   |tup h r=>exact ag_3 zd s σ H _ _ Q I rv ⟨_,_,rfl,.inr (Same.tupS g h),ac_2 o g r⟩
   |_=>exact False.elim o
def co_3:List D->R W
 | [.lst ds]=> .ok (.sh (.tup ds))
 | [.tup ds]=> .ok (.sh (.tup ds))
 |_=> .no
def bu_5:y_9 X (.type "tuple") co_3:=by
 intro zd s σ H vs us Q I rv q;obtain⟨EX,G,ds,g,r,o⟩:=q;cases r with
 |nil=>exact False.elim o
 |cons h t=>
  cases t with
  |cons _ _=>cases h <;> exact False.elim o
  |nil=>
   cases h with
   |lst h r=>
    refine ad_7 zd s σ H _ _ Q I rv ⟨_,_,rfl,.inl ⟨g.seq h,λp hp=> ?_⟩⟩;exact o (.ref p) _ _ (Step.new g hp _) (.tup (SqT.of Bj) (r.mono (h_9 (g.free hp) _)))
   |tup h r=>exact ad_7 zd s σ H _ _ Q I rv ⟨_,_,rfl,.inr ⟨Same.tupS g h,Cv o g (.tup h r)⟩⟩
   |_=>exact False.elim o
end
structure RoomC(c:Bool)(k:Nat)(A:Around):Prop where
 hd:c=true->A.handled=none
 dp:A.depth + 3 * k + 5 < recursionLimit
 un:A.units + 16 * k + 200 < cLine
def RoomC.mono{c:Bool}{j k:Nat}{A:Around}(r:RoomC c k A)(h:j<=k):RoomC c j A:=⟨r.hd,by have:=r.dp;omega,by have:=r.un;omega⟩
theorem RoomC.deeper{c:Bool}{k:Nat}{A:Around}(r:RoomC c (k + 1) A)(env:Env):RoomC c k (A.deeper env):=
 ⟨r.hd,by have:=r.dp;show A.depth + 1 + 3 * k + 5 < _;omega,by have:=r.un;show A.units + 3 + 16 * k + 200 < _;omega⟩
def RoomC.make{c:Bool}{k:Nat}{A:Around}(r:RoomC c (k + 1) A)(C:Addr)(us:List Value)(kw:List (Str×Value)):RoomC c k (A.under (.builtin "type.__call__" ⟨.ref C::us,kw⟩)):=
 ⟨r.hd,by have:=r.dp;rw[bt_5];omega,by have:=r.un;rw[bt_6];omega⟩
def RoomC.loose{c:Bool}{k:Nat}{A:Around}(r:RoomC c k A):RoomC false k A:=⟨λz=>absurd z A6,r.dp,r.un⟩
theorem RoomC.mark{c:Bool}{k:Nat}{A:Around}(r:RoomC c k A)(h:Option Value):RoomC false k (A.mark h):=⟨λz=>absurd z A6,r.dp,r.un⟩
def RoomC.of{k:Nat}{A:Around}(r:Room k A):RoomC true k A:=⟨λ_=>r.hd,r.dp,r.un⟩
structure FnX(P:Program)(w:World)(K:Frag)(mg:AB)(base:Heap)(c:Bool)(k:Nat)(f:Addr)(fd:FuncData)(ps:List Str)(sp:Sp):Prop where
 len:∀vs H Q E,sp vs H Q E->vs.length=ps.length
 run:∀(A:Around) (outer:List Env) (s:Shared) (H:Hp) (args:Args) (us:List Value) (vs:List V) (Q:VK) (E:XK),RoomC c k A->Env0 P w K mg base A outer s H->BindsTo s fd args (ps.zip us)->Vals vs us->sp vs H Q E->
  codeAny (model P w) A (.call (.ref f) args) (CR (CXr P w) outer P w H s Q E) s
abbrev Gc(c:Bool)(P:Program)(w:World)(K:Frag)(mg:AB)(base:Heap)(N:List Str)(qual:Str)(scope:Scope)(f:Addr)(cd:Value)(A:Around)(outer:List Env)(s:Shared)(H:Hp)(E:XK):Cx:=
 {Ex (CXr P w) P w K mg base N qual scope f cd A outer s H E with calm:=c}
def bu_6{c:Bool}{P:Program}{w:World}{N ps:List Str}{qual:Str}{scope:Scope}{f:Addr}{cd:Value}{A:Around}{outer:List Env}{s s1:Shared}{E:XK}{vs:List V}
  (S:FnScope N ps scope) (hd:c=true->A.handled=none) (e0:Env0 P w K mg base A outer s H) (hl:vs.length=ps.length) (r:Vals vs us)
  (x:InCallC s s.heap.objs.size (bindL (envOfC qual scope s.heap.objs.size f cd).kindOf (ps.zip us) λ_=>none) (cellsFrom (s.heap.objs.size + 1) scope.names []) (bindC (envOfC qual scope s.heap.objs.size f cd).kindOf (ps.zip us) λ_=>none) s1):
  Inv (Gc c P w K mg base N qual scope f cd A outer s H E) [] (start N vs) H s1:=by
 have I:=cf_7 (CX:=CXr P w) (E:=E) (qual:=qual) (f:=f) (cd:=cd) (A:={A with handled:=none}) S rfl ⟨e0.frames,e0.mod,e0.bs,e0.bsz,e0.funs,e0.frf,e0.hok,e0.bare⟩ hl r x;exact⟨⟨I.ok.mod,I.ok.kind,I.ok.glob,I.ok.blt,I.ok.above,I.ok.inj,I.ok.has,I.ok.cab,hd,Around.frames_deeper e0.frames,I.ok.stk,I.ok.exf,I.ok.bs,I.ok.bsz,I.ok.noex,I.ok.exfs,I.ok.funs,I.ok.frf⟩,
  I.os,I.bare,I.base,I.loc,I.cell,I.free,I.freeC,I.pin,I.hok,I.len⟩
def dn_5{c:Bool}{P:Program}{w:World}{k:Nat}{f:Addr}{name qual:Str}{params:Arguments}{body:List Stmt}{scope:Scope}{dV kV doc pm zp ct oc:Value}{an od:Option Addr}
  {osl:Array (Option Value)} {N ps:List Str} {sp:Sp} (lk:K.lookup f=some ⟨oc,od,.func (fnOf name qual params body scope dV kV doc pm an zp ct),osl⟩) (hcd:codeIn K zp qual=true) (S:FnScope N ps scope)
  (len:∀vs H Q E,sp vs H Q E->vs.length=ps.length)
  (zj:∀(A:Around) (outer:List Env) (s:Shared) (H:Hp) (vs:List V) (Q:VK) (E:XK),RoomC c k (A.deeper (envOfC qual scope s.heap.objs.size f zp))->sp vs H Q E->
   ∃t,PSs (Gc c P w K mg base N qual scope f zp A outer s H E) body t/\t {nx:=λ_ H'=>Q .non H',rt:=Q} (start N vs) H):
  FnX P w K mg base c (k + 1) f (fnOf name qual params body scope dV kV doc pm an zp ct) ps sp:=by
 refine⟨len,λA outer s H args us vs Q E hr e0 hb r hsp=> ?_⟩;have hl:=len _ _ _ _ hsp;have KX:K.In s.heap:=e0.mod.kin.keeps λb o e=>(e0.bs b o e).1;have lim:s.heap.NoLimit:=e0.mod.nolimit.keeps λb o e=>(e0.bs b o e).1;have bq:∀y∈ps.zip us,scope.names.lookup y.1=some .local\/(scope.names.lookup y.1=some .cell/\((cellsFrom (s.heap.objs.size + 1) scope.names []).lookup y.1).isSome=true):=λ⟨n,v⟩ hy=>by
  rcases S.par n (W6 hy).1 with q|q
  ·exact .inl q
  ·exact .inr ⟨q,ZB6 _ _ _ (.inl q)⟩
 have dp:A.depth < recursionLimit:=by have:=hr.dp;omega
 refine codeAny_call_function dp (KX _ _ lk) rfl S.co S.gen rfl (codeRec_of KX hcd) (hb _ _ _ _ ?_);refine wpAny_newFunctionEnv_cells S.kind bq λenv he s1 x=> ?_;subst he;refine⟨lim.keeps x.toInCall.keep,codeAny_func ?_⟩;obtain⟨t,ht,hq⟩:=zj A outer s H vs Q E (hr.deeper _) hsp;have I:Inv (Gc c P w K mg base N qual scope f zp A outer s H E) [] (start N vs) H s1:=bu_6 S hr.hd e0 hl r x;refine E4 (ht [] s1 (start N vs) H _ I hq) (λfl s' hs=> ?_) λe s' hs=>hs;have fin:∀{σ':Sg} {H':Hp} {v:V} {u:Value},Inv (Gc c P w K mg base N qual scope f zp A outer s H E) [] σ' H' s'->RelV v u->Q v H'->CE outer P w H s Q u s':=
  λ{σ' H' v u} J rv q=>⟨v,H',J.os,J.bare,J.base,J.hok,rv,q⟩
 cases fl with
 |ret u=>
  obtain⟨v,σ',H',J,rv,q⟩:=hs;exact fin J rv q
 |next=>
  obtain⟨σ',H',J,q⟩:=hs;exact fin (v:=V.non) (u:=Value.none) J rfl q
 |brk=>
  obtain⟨_,_,_,q⟩:=hs;exact False.elim q
 |cont=>
  obtain⟨_,_,_,q⟩:=hs;exact False.elim q
def Fun.okX{c:Bool}{P:Program}{w:World}{x qual:Str}{st:Stmt}{f:Addr}{N ps:List Str}{k:Nat}{sp:Sp}(F:Fun K x qual st f fd)(S:FnScope N ps (Cc st))(len:∀vs H Q E,sp vs H Q E->vs.length=ps.length)
  (zj:∀(zp:Value) (A:Around) (outer:List Env) (s:Shared) (H:Hp) (vs:List V) (Q:VK) (E:XK),RoomC c k (A.deeper (envOfC qual (Cc st) s.heap.objs.size f zp))->sp vs H Q E->
   ∃t,PSs (Gc c P w K mg base N qual (Cc st) f zp A outer s H E) (Ey st) t/\t {nx:=λ_ H'=>Q .non H',rt:=Q} (start N vs) H):FnX P w K mg base c (k + 1) f fd ps sp:=by
 obtain⟨oc,od,kV,doc,pm,an,zp,ct,osl,rfl,lk,hcd⟩:=F.ex;exact dn_5 lk hcd S len λA outer s H vs Q E hr hsp=>zj zp A outer s H vs Q E hr hsp
def Lk(X:Cx)(EX:Au):Prop:=∀(zd:AE) (σ:Sg) (H:Hp) (s:Shared) (e:Value) (s':Shared),Inv X zd σ H s->CXr X.prog X.w X.stack H s (EXE X.K (EX σ)) e s'->X.xe e s'
def x_4:Lk X Fy:=λzd σ H s e s' I c=>by
 obtain⟨a,C,dx,T,H',_,_,_,_,_,_,_,_,_,_,x,G,_,_,q⟩:=c;exact False.elim q
def bf_8{c:Bool}{P:Program}{w:World}{N:List Str}{qual:Str}{scope:Scope}{f:Addr}{cd:Value}{A:Around}{outer:List Env}{s:Shared}{E:XK}:
  Lk (Gc c P w K mg base N qual scope f cd A outer s H E) (λ_=>EXof K E):=λzd σ H s e s' I h=>cg_2 I h λcls dx H' q=>q.of
def Ca(K:Frag)(n:Nat)(F:AF):Sp:=λvs H Q E=>vs.length=n/\∃G ds,Same G H/\HasL K G vs ds/\Out K (EXof K E) G H (F ds) Q
def Bl(n:Nat)(F:AF)(fa:FA):FE:=λ δ=>(fa δ).bind λds=>if ds.length=n then F ds else .no
def FnD(P:Program)(w:World)(K:Frag)(mg:AB)(base:Heap)(c:Bool)(x:Str)(k:Nat)(ps:List Str)(F:AF):Prop:=
 ∃f fd,FnX P w K mg base c k f fd ps (Ca K ps.length F)/\mg x=some (.ref f)/\keepIn K (.ref f)=true/\Binds K fd ps []
section
variable{X:Cx}{EX:Au}{e:Expr}{es:List Expr}{fa:FA}{x:Str}{pp pos:Pos}{c:Bool}{k k':Nat}{ps:List Str}{F:AF}
def aq_1{zd:AE}{σ:Sg}{s:Shared}{Q:VK}{vs:List V}{f:Addr}{sp:Sp}(F:FnX X.prog X.w X.K X.mg X.base c k f fd ps sp)(hr:RoomC c k X.A)(hb:Binds X.K fd ps [])(lk:Lk X EX)
  (I:Inv X zd σ H s) (r:Vals vs us) (h:sp vs H Q (EXE X.K (EX σ))):wpAny (model X.prog X.w) X.A (call (.ref f) us) (EP X zd σ Q) X.xe s:=by
 have hl:us.length=ps.length:=by rw[<-r.length];exact F.len _ _ _ _ h
 have hb':=hb s us I.kIn (by rw[D4];exact hl);rw[D4]at hb';refine V8 (R3 (F.run X.A X.stack s H ⟨us,[]⟩ us vs Q _ hr I.env0 hb' r h) λr s' hq=> ?_);cases r with
 |error e=>exact lk zd σ H s e s' I hq
 |ok fl=>
  cases fl with
  |ret u=>exact I.after hq
  |next=>exact False.elim hq
  |brk=>exact False.elim hq
  |cont=>exact False.elim hq
def Ce(hr:RoomC c k' X.A)(lk:Lk X EX)(h:FnD X.prog X.w X.K X.mg X.base c x k ps F)(ha:AD X EX (e::es) fa)(hk:k<=k':=by decide)(hg:Gl X x:=by rfl)(hdb:AG x:=by decide)
  (he:starEach (e::es) X.env=(false,eval e X.env)::starEach es X.env:=by rfl) (hpl:(backTo pos (starEach es X.env)).any (·.1)=false:=by rfl):
  ED X EX (.Call (.Name x pp) (e::es) [] pos) (Bl ps.length F fa):=by
 obtain⟨f,fd,ok,hm,kp,hb⟩:=h;intro zd s σ H Q I q;obtain⟨G,δ,g0,s0,o⟩:=q;refine M4 (r_9 I hg hm ?_ hdb);have ta:tDa X.K EX fa σ H λvs H1=>Ca X.K ps.length F vs H1 Q (EXE X.K (EX σ)):=by
  refine tDa.seq g0 s0 o λds vs G' H' _ st r o'=> ?_
  split at o'
  ·rename_i hl;refine⟨by rw[r.length];exact hl,G',ds,st.gh,r, ?_⟩;cases q:F ds with
   |ok w=>rw[q]at o';exact o'
   |ex x=>rw[q]at o';exact EXof.in o'
   |no=>rw[q]at o';exact o'.elim
  ·exact o'.elim
 refine X8 (h₀:=X.base) I.ok.mod.kin kp (Ay (ha pos zd s σ H _ I ta) λus s1 ⟨vs,H1,I1,r,q⟩=>⟨I1.kIn, ?_⟩) he hpl;exact aq_1 ok (hr.mono hk) hb lk I1 r q
end
inductive Sl where
 |no|sh (d:D)|ow (d:D)|tr (t:Tn)|lk (d:D)|lt (t:Tn)
abbrev SE:=List Sl
inductive Fl where
 |nx (Δ:SE)|rt (w:W)|bk (Δ:SE)|ct (Δ:SE)|ex (x:Xn) (Δ:SE)|rv (d:D) (Δ:SE)|no
abbrev FS:=SE->Fl
def Sl.pub:Sl->Option D
 | .sh d=>some d
 |_=>none
def Sl.any:Sl->Option D
 | .sh d=>some d
 | .ow d=>some d
 | .tr t=>some t.d
 | .lk d=>some d
 | .lt t=>some t.d
 | .no=>none
def Sl.give:Sl->Sl
 | .ow d=> .sh d
 | .tr t=> .sh t.d
 |s=>s
def Sl.own:Sl->Option Tn
 | .ow d=>some (Tn.of d)
 | .tr t=>some t
 | .lk d=>some (Tn.of d)
 | .lt t=>some t
 |_=>none
def At(Δ:SE):DE:=Δ.map Sl.pub
def Ba(Δ:SE):DE:=Δ.map Sl.any
def gall(Δ:SE):SE:=Δ.map Sl.give
abbrev OS:=Nat->AS
structure HB where
 h:Hp
 b:Nat->Addr
structure Ev(K:Frag)(H0:HB)(G0 G H:Hp)(σ:Sg)(Δ:SE)(A:OS):Prop where
 st:Step G0 H0.h G H
 len:σ.length=Δ.length
 sh:∀(i:Nat) (d:D),Δ[i]? =some (.sh d)->∃v,σ[i]? =some (some v)/\Has K G v d
 ow:∀(i:Nat) (s:Sl) (t:Tn),Δ[i]? =some s->s.own=some t->∃v,σ[i]? =some (some v)/\Ow K G H v t (A i)
 out:∀(i:Nat) (a:Addr),A i a->G a=none/\H0.h a=none/\H a≠none
 dj:∀(i j:Nat) (a:Addr),A i a->A j a->i=j
 lk:∀(i:Nat) (d:D),Δ[i]? =some (.lk d)->σ[i]? =some (some (.ref (H0.b i)))
 lt:∀(i:Nat) (t:Tn),Δ[i]? =some (.lt t)->σ[i]? =some (some (.ref (H0.b i)))
def Cs(G H:Hp)(A:OS):Hp:=Cz G H λb=>∃i,A i b
structure MStep(S:AS)(G H G' H':Hp):Prop where
 hh:∀b o,¬S b->H b=some o->H' b=some o
 al:∀b,H b≠none->H' b≠none
 gh:Same G' H'
 gg:Same G G'
 nw:∀b,G b=none->H b≠none->G' b=none
structure MStep2(S:AS)(G H G' H':Hp):Prop where
 hh:∀b o,¬S b->H b=some o->H' b=some o
 gh:Same G' H'
 gg:Same G G'
 nw:∀b,¬S b->G b=none->H b≠none->G' b=none
def MStep.weak{S:AS}{G H G' H':Hp}(m:MStep S G H G' H'):MStep2 S G H G' H':=⟨m.hh,m.gh,m.gg,λb _=>m.nw b⟩
def Step.m{S:AS}{G H G' H':Hp}(s:Step G H G' H'):MStep S G H G' H':=⟨λb o _ q=>s.hh b o q,λb n z=>n (s.hh.free z),s.gh,s.gg,s.nw⟩
def MStep.andThen{S:AS}{G H G1 H1 G2 H2:Hp}(a:MStep S G H G1 H1)(b:Step G1 H1 G2 H2):MStep S G H G2 H2:=
 ⟨λc o n q=>b.hh c o (a.hh c o n q),λc n z=>a.al c n (b.hh.free z),b.gh,a.gg.trans b.gg,λc e n=>b.nw c (a.nw c e n) (a.al c n)⟩
def MStep.write{S:AS}{G H:Hp}(g:Same G H){a:Addr}(hs:S a)(n:G a=none)(o:HO):MStep S G H G (L2.upd H a o):=
 ⟨λb o' nb q=>by rw[Aq (λz=>nb (by rw[z];exact hs))];exact q,λb nb=>by
  by_cases z:b=a
  ·subst z;rw[Bj];simp
  ·rw[Aq z];exact nb,λb o' q=>by
  by_cases z:b=a
  ·subst z;rw[n]at q;cases q
  ·rw[Aq z];exact g b o' q,Same.refl _,λ_ e _=>e⟩
def x_5(A:OS)(i:Nat)(S:AS):OS:=λj=>if j=i then S else A j
def f_5{A:OS}{i:Nat}{S:AS}:x_5 A i S i=S:=if_pos rfl
def Ge{A:OS}{i j:Nat}{S:AS}(h:j≠i):x_5 A i S j=A j:=if_neg h
section
variable{K:Frag}{H0:HB}{G0 G H G' H':Hp}{σ:Sg}{Δ:SE}{A:OS}
def Ev.gsh(E:Ev K H0 G0 G H σ Δ A):HasS K G σ (At Δ):=⟨by rw[E.len];unfold At;rw[A3],λi d q=>by
 unfold At at q;rw[A9]at q;cases e:Δ[i]? with
 |none=>rw[e]at q;cases q
 |some z=>
  rw[e]at q;cases z with
  |sh d'=>cases q;exact E.sh i d e
  |_=>cases q⟩
def Ev.aH(E:Ev K H0 G0 G H σ Δ A):Same (Cs G H A) H:=λb o q=>by
 unfold Cs Cz at q
 split at q
 ·exact q
 ·exact E.st.gh b o q
def Ev.aG(E:Ev K H0 G0 G H σ Δ A):Same G (Cs G H A):=λb o q=>by
 unfold Cs Cz
 split
 ·rename_i hb;obtain⟨i,hb⟩:=hb;rw[(E.out i b hb).1]at q;cases q
 ·exact q
def Ev.aStep(E:Ev K H0 G0 G H σ Δ A):Step G0 H0.h (Cs G H A) H:=
 ⟨E.st.hh,E.aH,E.st.gg.trans E.aG,λb n z=>by
  unfold Cs Cz
  split
  ·rename_i hb;obtain⟨i,hb⟩:=hb;exact absurd (E.out i b hb).2.1 z
  ·exact E.st.nw b n z⟩
def Ev.aIn{A:OS}{G H:Hp}{i:Nat}{b:Addr}{o:HO}(hb:A i b)(q:H b=some o):Cs G H A b=some o:=by
 unfold Cs Cz;rw[if_pos ⟨i,hb⟩];exact q
def Ev.gall(E:Ev K H0 G0 G H σ Δ A):HasS K (Cs G H A) σ (Ba Δ):=⟨by rw[E.len];unfold Ba;rw[A3],λi d q=>by
 unfold Ba at q;rw[A9]at q;cases e:Δ[i]? with
 |none=>rw[e]at q;cases q
 |some z=>
  rw[e]at q;cases z with
  |sh d'=>
   cases q;obtain⟨v,e1,r⟩:=E.sh i d e;exact⟨v,e1,r.mono E.aG⟩
  |ow d'=>
   cases q;obtain⟨v,e1,t⟩:=E.ow i _ _ e rfl;have r:=t.has E.aG λb o hb q=>Ev.aIn hb q;rw[Tn.of_d]at r;exact⟨v,e1,r⟩
  |tr t'=>
   cases q;obtain⟨v,e1,t⟩:=E.ow i _ _ e rfl;exact⟨v,e1,t.has E.aG λb o hb q=>Ev.aIn hb q⟩
  |lk d'=>
   cases q;obtain⟨v,e1,t⟩:=E.ow i _ _ e rfl;have r:=t.has E.aG λb o hb q=>Ev.aIn hb q;rw[Tn.of_d]at r;exact⟨v,e1,r⟩
  |lt t'=>
   cases q;obtain⟨v,e1,t⟩:=E.ow i _ _ e rfl;exact⟨v,e1,t.has E.aG λb o hb q=>Ev.aIn hb q⟩
  |no=>cases q⟩
def Ev.grow(E:Ev K H0 G0 G H σ Δ A)(s:Step G H G' H'):Ev K H0 G0 G' H' σ Δ A:=
 ⟨E.st.trans s,E.len,λi d e=>let⟨v,e1,r⟩:=E.sh i d e;⟨v,e1,r.mono s.gg⟩,λi z d e z'=>let⟨v,e1,t⟩:=E.ow i z d e z';⟨v,e1,t.mono s.gg (λb o _ q=>s.hh b o q) λ_ q=>q⟩,
  λi a ha=>let⟨h1,h2,h3⟩:=E.out i a ha;⟨s.nw a h1 h3,h2,λz=>h3 (s.hh.free z)⟩,E.dj,E.lk,E.lt⟩
def Ev.keep(E:Ev K H0 G0 G H σ Δ A)(s:Same H H'):Ev K H0 G0 G H' σ Δ A:=
 E.grow ⟨s,E.st.gh.trans s,Same.refl _,λ_ n _=>n⟩
def Eu{α:Type}{l:List α}{i j:Nat}{x y:α}(h:(l.set i x)[j]? =some y):(i=j/\y=x)\/(i≠j/\l[j]? =some y):=by
 by_cases e:i=j
 ·subst e;rw[List.getElem?_set]at h;simp only[if_true]at h
  split at h
  ·exact .inl ⟨rfl,(J7 h).symm⟩
  ·cases h
 ·rw[C1 e]at h;exact .inr ⟨e,h⟩
def bu_7{α:Type}{l:List α}{i:Nat}{x y:α}(h:(l.set i x)[i]? =some y):i < l.length:=by
 by_cases hh:i < l.length
 ·exact hh
 ·rw[K7 (by rw[F3];omega)]at h;cases h
def Ev.put(E:Ev K H0 G0 G H σ Δ A){i:Nat}{d:D}(r:Has K G v d):Ev K H0 G0 G H (σ.set i (some v)) (Δ.set i (.sh d)) A:=by
 refine⟨E.st,by rw[F3,F3];exact E.len,λj d' e=> ?_,λj z d' e zo=> ?_,E.out,E.dj,λj d' e=> ?_,λj d' e=> ?_⟩
 ·rcases Eu e with⟨rfl,q⟩|⟨n,q⟩
  ·cases q;exact⟨v,by rw[F4 (by rw[E.len];exact bu_7 e)],r⟩
  ·obtain⟨v',e1,r'⟩:=E.sh j d' q;exact⟨v',by rw[C1 n];exact e1,r'⟩
 ·rcases Eu e with⟨rfl,q⟩|⟨n,q⟩
  ·subst q;cases zo
  ·obtain⟨v',e1,t⟩:=E.ow j z d' q zo;exact⟨v',by rw[C1 n];exact e1,t⟩
 ·rcases Eu e with⟨rfl,q⟩|⟨n,q⟩
  ·cases q
  ·rw[C1 n];exact E.lk j d' q
 ·rcases Eu e with⟨rfl,q⟩|⟨n,q⟩
  ·cases q
  ·rw[C1 n];exact E.lt j d' q
def Ev.putO(E:Ev K H0 G0 G H σ Δ A){i:Nat}{z:Sl}{d:Tn}{S:AS}(fr:∀a,S a->H0.h a=none/\G a=none/\H a≠none)(zo:z.own=some d)(zl:∀d,z≠ .lk d)(t:Ow K G H v d S)(nw:∀j a,A j a->¬S a)(zt:∀d,z=.lt d->v=.ref (H0.b i):=by intro _ z;cases z):
  Ev K H0 G0 G H (σ.set i (some v)) (Δ.set i z) (x_5 A i S):=by
 refine⟨E.st,by rw[F3,F3];exact E.len,λj d' e'=> ?_,λj z' d' e' zo'=> ?_,λj a ha=> ?_,λj j' a h1 h2=> ?_,λj d' e'=> ?_,λj d' e'=> ?_⟩
 ·rcases Eu e' with⟨rfl,q⟩|⟨nn,q⟩
  ·subst q;cases zo
  ·obtain⟨v',e1,r'⟩:=E.sh j d' q;exact⟨v',by rw[C1 nn];exact e1,r'⟩
 ·rcases Eu e' with⟨rfl,q⟩|⟨nn,q⟩
  ·subst q;rw[zo]at zo';cases zo';exact⟨v,by rw[F4 (by rw[E.len];exact bu_7 e')],by rw[f_5];exact t⟩
  ·obtain⟨v',e1,x⟩:=E.ow j z' d' q zo';exact⟨v',by rw[C1 nn];exact e1,by rw[Ge (Ne.symm nn)];exact x⟩
 ·by_cases z:j=i
  ·subst z;rw[f_5]at ha;obtain⟨a1,a2,a3⟩:=fr a ha;exact⟨a2,a1,a3⟩
  ·rw[Ge z]at ha;exact E.out j a ha
 ·by_cases z:j=i
  ·by_cases z':j'=i
   ·rw[z,z']
   ·rw[z,f_5]at h1;rw[Ge z']at h2;exact absurd h1 (nw j' a h2)
  ·by_cases z':j'=i
   ·rw[Ge z]at h1;rw[z',f_5]at h2;exact absurd h2 (nw j a h1)
   ·rw[Ge z]at h1;rw[Ge z']at h2;exact E.dj j j' a h1 h2
 ·rcases Eu e' with⟨rfl,q⟩|⟨nn,q⟩
  ·exact absurd q.symm (zl d')
  ·rw[C1 nn];exact E.lk j d' q
 ·rcases Eu e' with⟨rfl,q⟩|⟨nn,q⟩
  ·rw[F4 (by rw[E.len];exact bu_7 e'),zt d' q.symm]
  ·rw[C1 nn];exact E.lt j d' q
def Ev.step2(E:Ev K H0 G0 G H σ Δ A){i:Nat}{z:Sl}{d':Tn}{S:AS}(zo:z.own=some d')(zl:∀d,z≠ .lk d)(zt:∀d,z=.lt d->σ[i]? =some (some (.ref (H0.b i))))(ms:MStep2 (A i) G H G' H')(s:σ[i]? =some (some v))(fr:∀a,S a->(A i a\/H a=none)/\G' a=none/\H' a≠none)(t:Ow K G' H' v d' S):
  Ev K H0 G0 G' H' σ (Δ.set i z) (x_5 A i S):=by
 have st:Step G0 H0.h G' H':=⟨λb o q=>ms.hh b o (λhb=>by rw[(E.out i b hb).2.1]at q;cases q) (E.st.hh b o q),ms.gh,E.st.gg.trans ms.gg,
  λb n z=>ms.nw b (λhb=>z (E.out i b hb).2.1) (E.st.nw b n z) λq=>z (E.st.hh.free q)⟩
 refine⟨st,by rw[F3];exact E.len,λj d2 e'=> ?_,λj z' d2 e' zo'=> ?_,λj a ha=> ?_,λj j' a h1 h2=> ?_,λj d2 e'=> ?_,λj d2 e'=> ?_⟩
 ·rcases Eu e' with⟨rfl,q⟩|⟨nn,q⟩
  ·subst q;cases zo
  ·obtain⟨v',e1,r'⟩:=E.sh j d2 q;exact⟨v',e1,r'.mono ms.gg⟩
 ·rcases Eu e' with⟨rfl,q⟩|⟨nn,q⟩
  ·subst q;rw[zo]at zo';cases zo';exact⟨v,s,by rw[f_5];exact t⟩
  ·obtain⟨v',e1,x⟩:=E.ow j z' d2 q zo';rw[Ge (Ne.symm nn)];exact⟨v',e1,x.mono ms.gg (λb o hb q=>ms.hh b o (λhi=>nn (E.dj i j b hi hb)) q) λ_ q=>q⟩
 ·by_cases z:j=i
  ·subst z;rw[f_5]at ha;obtain⟨a1,a2,a3⟩:=fr a ha;refine⟨a2, ?_,a3⟩;rcases a1 with a1|a1
   ·exact(E.out j a a1).2.1
   ·exact E.st.hh.free a1
  ·rw[Ge z]at ha;obtain⟨h1,h2,h3⟩:=E.out j a ha;have hn:¬A i a:=λhb=>z (E.dj j i a ha hb);refine⟨ms.nw a hn h1 h3,h2,λq=> ?_⟩;cases e:H a with
   |none=>exact h3 e
   |some o=>rw[ms.hh a o hn e]at q;cases q
 ·have own:∀k,k≠i->A k a->¬S a:=λk nk hk hs=>by
   rcases(fr a hs).1 with q|q
   ·exact nk (E.dj k i a hk q)
   ·exact(E.out k a hk).2.2 q
  by_cases z:j=i
  ·by_cases z':j'=i
   ·rw[z,z']
   ·rw[z,f_5]at h1;rw[Ge z']at h2;exact absurd h1 (own j' z' h2)
  ·by_cases z':j'=i
   ·rw[Ge z]at h1;rw[z',f_5]at h2;exact absurd h2 (own j z h1)
   ·rw[Ge z]at h1;rw[Ge z']at h2;exact E.dj j j' a h1 h2
 ·rcases Eu e' with⟨rfl,q⟩|⟨nn,q⟩
  ·exact absurd q.symm (zl d2)
  ·exact E.lk j d2 q
 ·rcases Eu e' with⟨rfl,q⟩|⟨nn,q⟩
  ·exact zt d2 q.symm
  ·exact E.lt j d2 q
def Ev.step(E:Ev K H0 G0 G H σ Δ A){i:Nat}{z:Sl}{d':Tn}{S:AS}(zo:z.own=some d')(zl:∀d,z≠ .lk d)(ms:MStep (A i) G H G' H')(s:σ[i]? =some (some v))(fr:∀a,S a->(A i a\/H a=none)/\G' a=none/\H' a≠none)(t:Ow K G' H' v d' S)(zt:∀d,z≠ .lt d:=by intro _ z;cases z):
  Ev K H0 G0 G' H' σ (Δ.set i z) (x_5 A i S):=E.step2 zo zl (λd e=>absurd e (zt d)) ms.weak s fr t
def Ev.writeL(E:Ev K H0 G0 G H σ Δ A){i:Nat}{a:Addr}{vs:List V}{ds:List D}(s:σ[i]? =some (some (.ref a)))(m:A i a)(r:HasL K G vs ds):Ev K H0 G0 G (upd H a (.lst vs)) σ (Δ.set i (.ow (.lst ds))) (x_5 A i (A i)):=
 have ms:=MStep.write E.st.gh m (E.out i a m).1 (.lst vs)
 E.step rfl (λ_ z=>by cases z) ms s (λb hb=>⟨.inl hb,(E.out i b hb).1,ms.al b (E.out i b hb).2.2⟩) (Ow.list Bj m r)
def Ev.writeD(E:Ev K H0 G0 G H σ Δ A){i:Nat}{a:Addr}{kvs:List (Ae×V)}{kds:List (Ae×D)}(s:σ[i]? =some (some (.ref a)))(m:A i a)(hk:kvs.map (·.1)=kds.map (·.1))(r:HasL K G (kvs.map (·.2)) (kds.map (·.2))):Ev K H0 G0 G (upd H a (.dK kvs)) σ (Δ.set i (.ow (.dic kds))) (x_5 A i (A i)):=
 have ms:=MStep.write E.st.gh m (E.out i a m).1 (.dK kvs)
 E.step rfl (λ_ z=>by cases z) ms s (λb hb=>⟨.inl hb,(E.out i b hb).1,ms.al b (E.out i b hb).2.2⟩) (Ow.dict Bj hk m r)
end
def give1(Δ:SE)(j:Nat):SE:=match Δ[j]? with
 |some s=>Δ.set j s.give
 |none=>Δ
def gsome(js:List Nat)(Δ:SE):SE:=js.foldl give1 Δ
section
variable{K:Frag}{H0:HB}{G0 G H:Hp}{σ:Sg}{Δ:SE}{A:OS}
def t_0{α:Type}{l:List α}{j:Nat}{x:α}(h:l[j]? =some x):l.set j x=l:=by
 apply U7;intro i
 by_cases e:j=i
 ·subst e;have hlt:j < l.length:=(B6.mp h).1;rw[F4 hlt,h]
 ·rw[C1 e]
def Ev.give3(E:Ev K H0 G0 G H σ Δ A){j:Nat}{z:Sl}{t:Tn}(e:Δ[j]? =some z)(zo:z.own=some t):Same G (Cz G H (A j))/\Ev K H0 G0 (Cz G H (A j)) H σ (Δ.set j (.sh t.d)) (x_5 A j λ_=>False):=by
   obtain⟨v,s1,t⟩:=E.ow j z t e zo;have sg:Same G (Cz G H (A j)):=λb o q=>by
    unfold Cz
    split
    ·rename_i hb;rw[(E.out j b hb).1]at q;cases q
    ·exact q
   have gh:Same (Cz G H (A j)) H:=λb o q=>by
    unfold Cz at q
    split at q
    ·exact q
    ·exact E.st.gh b o q
   refine⟨sg,⟨E.st.hh,gh,E.st.gg.trans sg,λb h1 h2=> ?_⟩,by rw[F3];exact E.len,λi d' e'=> ?_,λi z' d' e' zo'=> ?_,λi b hb=> ?_,λi i' b h1 h2=> ?_,λi d' e'=> ?_,λi d' e'=> ?_⟩
   ·unfold Cz
    split
    ·rename_i hb;exact absurd (E.out j b hb).2.1 h2
    ·exact E.st.nw b h1 h2
   ·rcases Eu e' with⟨rfl,q⟩|⟨n,q⟩
    ·cases q;refine⟨v,s1,t.has sg λb o hb q=> ?_⟩;unfold Cz;rw[if_pos hb];exact q
    ·obtain⟨v',e1,r⟩:=E.sh i d' q;exact⟨v',e1,r.mono sg⟩
   ·rcases Eu e' with⟨rfl,q⟩|⟨n,q⟩
    ·subst q;cases zo'
    ·obtain⟨v',e1,t'⟩:=E.ow i z' d' q zo';rw[Ge (Ne.symm n)];exact⟨v',e1,t'.mono sg (λb o _ q=>q) λ_ q=>q⟩
   ·by_cases z:i=j
    ·subst z;rw[f_5]at hb;exact hb.elim
    ·rw[Ge z]at hb;obtain⟨k1,k2,k3⟩:=E.out i b hb;refine⟨?_,k2,k3⟩;unfold Cz;rw[if_neg λq=>z (E.dj i j b hb q)];exact k1
   ·by_cases z:i=j
    ·subst z;rw[f_5]at h1;exact h1.elim
    ·by_cases z':i'=j
     ·subst z';rw[f_5]at h2;exact h2.elim
     ·rw[Ge z]at h1;rw[Ge z']at h2;exact E.dj i i' b h1 h2
   ·rcases Eu e' with⟨rfl,q⟩|⟨n,q⟩
    ·cases q
    ·exact E.lk i d' q
   ·rcases Eu e' with⟨rfl,q⟩|⟨n,q⟩
    ·cases q
    ·exact E.lt i d' q
def Ev.give2(E:Ev K H0 G0 G H σ Δ A){j:Nat}{z:Sl}{t:Tn}(e:Δ[j]? =some z)(zo:z.own=some t):∃G' A',Same G G'/\Ev K H0 G0 G' H σ (Δ.set j (.sh t.d)) A':=⟨_,_,E.give3 e zo⟩
theorem Ev.give1(E:Ev K H0 G0 G H σ Δ A)(j:Nat):∃G' A',Same G G'/\Ev K H0 G0 G' H σ (L3.give1 Δ j) A':=by
 unfold L3.give1;cases e:Δ[j]? with
 |none=>exact⟨G,A,Same.refl _,E⟩
 |some s=>
  cases s with
  |no=>exact⟨G,A,Same.refl _,by show Ev K H0 G0 G H σ (Δ.set j .no) A;rw[t_0 e];exact E⟩
  |sh d=>exact⟨G,A,Same.refl _,by show Ev K H0 G0 G H σ (Δ.set j (.sh d)) A;rw[t_0 e];exact E⟩
  |ow d=>
   have:=E.give2 e (t:=Tn.of d) rfl;rw[Tn.of_d]at this;exact this
  |tr t=>exact E.give2 e rfl
  |lk d=>exact⟨G,A,Same.refl _,by show Ev K H0 G0 G H σ (Δ.set j (.lk d)) A;rw[t_0 e];exact E⟩
  |lt t=>exact⟨G,A,Same.refl _,by show Ev K H0 G0 G H σ (Δ.set j (.lt t)) A;rw[t_0 e];exact E⟩
theorem Ev.gsome:∀(js:List Nat) {G:Hp} {Δ:SE} {A:OS},Ev K H0 G0 G H σ Δ A->∃G' A',Same G G'/\Ev K H0 G0 G' H σ (L3.gsome js Δ) A'
 | [],G,Δ,A,E=>⟨G,A,Same.refl _,E⟩
 |j::js,G,Δ,A,E=>by
  obtain⟨G1,A1,s1,E1⟩:=E.give1 j;obtain⟨G2,A2,s2,E2⟩:=Ev.gsome js E1;exact⟨G2,A2,s1.trans s2,E2⟩
end
def Fin(K:Frag)(EX:Au)(H0:HB)(G0 G1:Hp)(D:Ends):Fl->Prop
 | .nx Δ=>∀σ G H O,Ev K H0 G0 G H σ Δ O->Same G1 G->D.nx σ H
 | .bk Δ=>∀σ G H O,Ev K H0 G0 G H σ Δ O->Same G1 G->D.bk σ H
 | .ct Δ=>∀σ G H O,Ev K H0 G0 G H σ Δ O->Same G1 G->D.ct σ H
 | .rt w=>WP K G0 H0.h w D.rt
 | .rv d Δ=>∀v σ G H O,Ev K H0 G0 G H σ Δ O->Same G1 G->Has K G v d->D.rt v H
 | .ex x Δ=>∀σ G H O,Ev K H0 G0 G H σ Δ O->Same G1 G->(EX σ).p x G H
 | .no=>False
def Fin.mono{EX:Au}{H0:HB}{G0 G1 G2:Hp}{D:Ends}{r:Fl}(s:Same G1 G2)(h:Fin K EX H0 G0 G1 D r):Fin K EX H0 G0 G2 D r:=by
 cases r with
 |nx Δ=>exact λ σ G H O E q=>h σ G H O E (s.trans q)
 |bk Δ=>exact λ σ G H O E q=>h σ G H O E (s.trans q)
 |ct Δ=>exact λ σ G H O E q=>h σ G H O E (s.trans q)
 |rt w=>exact h
 |rv d Δ=>exact λv σ G H O E q=>h v σ G H O E (s.trans q)
 |ex x Δ=>exact λ σ G H O E q=>h σ G H O E (s.trans q)
 |no=>exact h
def tS(K:Frag)(EX:Au)(g:FS):TS:=λD σ H=>∃H0 G0 G Δ O,Ev K H0 G0 G H σ Δ O/\Fin K EX H0 G0 G D (g Δ)
abbrev SD(X:Cx)(EX:Au)(st:Stmt)(g:FS):Prop:=PS X st (tS X.K EX g)
abbrev BD(X:Cx)(EX:Au)(st:List Stmt)(g:FS):Prop:=PSs X st (tS X.K EX g)
section
variable{X:Cx}{EX:Au}{st:Stmt}{sts:List Stmt}{g h:FS}{pos:Pos}{e:Expr}{f:FE}{p:FT}
def Bc:FS:=λ Δ=> .nx Δ
def Ag(g h:FS):FS:=λ Δ=>match g Δ with
 | .nx Δ'=>h Δ'
 |r=>r
def Eh:BD X EX [] Bc:=PSs.imp cy_7 λD σ H ⟨H0,G0,G,Δ,O,E,q⟩=>q σ G H O E (Same.refl _)
def Bd(h1:SD X EX st g):BD X EX [st] g:=be_6 h1
def Av(h1:SD X EX st g)(h2:BD X EX sts h):BD X EX (st::sts) (Ag g h):=
 PSs.imp (cl_4 h1 h2) λD σ H ⟨H0,G0,G,Δ,O,E,q⟩=>by
  refine⟨H0,G0,G,Δ,O,E, ?_⟩;unfold Ag at q;cases e:g Δ with
  |nx Δ'=>rw[e]at q;exact λ σ' G' H' O' E' sm=>⟨H0,G0,G',Δ',O',E',Fin.mono sm q⟩
  |bk Δ'=>rw[e]at q;exact q
  |ct Δ'=>rw[e]at q;exact q
  |rt w=>rw[e]at q;exact q
  |rv d Δ'=>rw[e]at q;exact q
  |ex x Δ'=>rw[e]at q;exact q
  |no=>rw[e]at q;exact q
def exG(js:List Nat)(f:FE)(Δ:SE):Fl:=match f (At (gsome js Δ)) with
 | .ex x=> .ex x (gsome js Δ)
 |_=> .no
def exT(js:List Nat)(p:FT)(Δ:SE):Fl:=match p (At (gsome js Δ)) with
 | .ex x=> .ex x (gsome js Δ)
 |_=> .no
def bl_5{H0:HB}{G0 G G1 H:Hp}{σ:Sg}{Δ:SE}{O:OS}{D:Ends}{js:List Nat}{Q:VK}(E:Ev K H0 G0 G H σ Δ O)(sg:Same G1 G)(q:Fin K EX H0 G0 G1 D (exG js f Δ)):tD K EX f σ H Q:=by
 obtain⟨G',O',s',E'⟩:=E.gsome js;refine⟨G',At (gsome js Δ),E'.st.gh,E'.gsh, ?_⟩;unfold exG at q;cases e:f (At (gsome js Δ)) with
 |ok w=>rw[e]at q;exact q.elim
 |ex x=>rw[e]at q;exact q σ G' H O' E' (sg.trans s')
 |no=>rw[e]at q;exact q.elim
def co_4{H0:HB}{G0 G G1 H:Hp}{σ:Sg}{Δ:SE}{O:OS}{D:Ends}{js:List Nat}{Q:Bool->Hp->Prop}(E:Ev K H0 G0 G H σ Δ O)(sg:Same G1 G)(q:Fin K EX H0 G0 G1 D (exT js p Δ)):tDt K EX p σ H Q:=by
 obtain⟨G',O',s',E'⟩:=E.gsome js;refine⟨G',At (gsome js Δ),E'.st.gh,E'.gsh, ?_⟩;unfold exT at q;cases e:p (At (gsome js Δ)) with
 |ok w=>rw[e]at q;exact q.elim
 |ex x=>rw[e]at q;exact q σ G' H O' E' (sg.trans s')
 |no=>rw[e]at q;exact q.elim
def Az(js:List Nat)(f:FE):FS:=λ Δ=>match f (Ba Δ) with
 | .ok w=> .rt w
 | .ex _=>exG js f Δ
 | .no=> .no
def Ck(js:List Nat)(he:ED X EX e f):SD X EX (.Return (some e) pos) (Az js f):=
 PS.imp (bs_5 he) λD σ H ⟨H0,G0,G,Δ,O,E,q⟩=>by
  unfold Az at q;cases e1:f (Ba Δ) with
  |ok w=>
   rw[e1]at q;exact⟨Cs G H O,Ba Δ,E.aH,E.gall,by rw[e1];exact WP.mono E.aStep q⟩
  |ex x=>rw[e1]at q;exact bl_5 E (Same.refl _) q
  |no=>rw[e1]at q;exact q.elim
def Cl(i:Nat):FS:=λ Δ=>match Δ[i]? with
 |some (.sh d)=> .rt (.sh d)
 |some (.ow d)=> .rt (.ow d)
 |some (.tr t)=> .rt (.tr t)
 |_=> .no
def ac_3(i:Nat){x:Str}{pos pos':Pos}(hN:X.N[i]? =some x:=by rfl)(hv:Fg X.env.scope x:=by trivial)(hd:AG x:=by decide)
  (hcd:(x ==("__classdict__" :Str))=false:=by decide):SD X EX (.Return (some (.Name x pos)) pos') (Cl i):=
 PS.imp (bs_5 (Fh hN hv hd hcd)) λD σ H ⟨H0,G0,G,Δ,O,E,q⟩=>by
  unfold Cl at q
  split at q
  ·rename_i d e;obtain⟨v,e1,r⟩:=E.sh i d e;exact⟨v,e1,(WP.mono (w:=.sh d) (Q:=D.rt) E.st q).use E.st.gh r⟩
  ·rename_i d e;obtain⟨v,e1,t⟩:=E.ow i _ _ e rfl;exact⟨v,e1,q v (O i) G H E.st (λa ha=>let⟨h1,h2,h3⟩:=E.out i a ha;⟨h2,h1,h3⟩) t⟩
  ·rename_i d e;obtain⟨v,e1,t⟩:=E.ow i _ _ e rfl;exact⟨v,e1,q v (O i) G H E.st (λa ha=>let⟨h1,h2,h3⟩:=E.out i a ha;⟨h2,h1,h3⟩) t⟩
  ·exact q.elim
def Dy(i:Nat)(Δ:SE):R W->Fl
 | .ok (.sh d)=> .nx (Δ.set i (.sh d))
 | .ok (.ow d)=> .nx (Δ.set i (.ow d))
 | .ok (.tr t)=> .nx (Δ.set i (.tr t))
 | .ex x=> .ex x Δ
 | .no=> .no
def Al(i:Nat)(js:List Nat)(f:FE):FS:=λ Δ=>match f (At Δ) with
 | .ok (.sh d)=> .nx (Δ.set i (.sh d))
 | .ok (.ow d)=> .nx (Δ.set i (.ow d))
 | .ok (.tr t)=> .nx (Δ.set i (.tr t))
 | .ex x=> .ex x Δ
 | .no=>match f (Ba Δ) with
  | .ex _=>Dy i (gsome js Δ) (f (At (gsome js Δ)))
  | .no=> .no
  | .ok w=>if Bf w.d=true then .nx (Δ.set i (.sh w.d)) else Dy i (gsome js Δ) (f (At (gsome js Δ)))
def aq_2{H0:HB}{G0 G G1 H:Hp}{σ:Sg}{Δ:SE}{O:OS}{D:Ends}{i:Nat}(E:Ev K H0 G0 G H σ Δ O)(sg:Same G1 G)
  (q:Fin K EX H0 G0 G1 D (Dy i Δ (f (At Δ)))):tAsg (tD K EX f) (ba_1 i) D σ H:=by
 refine⟨G,At Δ,E.st.gh,E.gsh, ?_⟩;unfold Dy at q;cases e1:f (At Δ) with
 |ok w=>
  rw[e1]at q;cases w with
  |sh d=>exact λv G' H' st r=>q _ G' H' O ((E.grow st).put r) (sg.trans st.gg)
  |ow d=>
   intro v S G' H' st fr t;exact q _ G' H' _ ((E.grow st).putO (λa ha=>⟨E.st.hh.free (fr a ha).1,(fr a ha).2⟩) rfl (λ_ z=>by cases z) t λj a hj hs=>(E.out j a hj).2.2 (fr a hs).1) (sg.trans st.gg)
  |tr d=>
   intro v S G' H' st fr t;exact q _ G' H' _ ((E.grow st).putO (λa ha=>⟨E.st.hh.free (fr a ha).1,(fr a ha).2⟩) rfl (λ_ z=>by cases z) t λj a hj hs=>(E.out j a hj).2.2 (fr a hs).1) (sg.trans st.gg)
 |ex x=>rw[e1]at q;exact q σ G H O E sg
 |no=>rw[e1]at q;exact q
def bl_6{D:Ends}{σ:Sg}{i:Nat}{js:List Nat}(q:tS K EX (Al i js f) D σ H):tAsg (tD K EX f) (ba_1 i) D σ H:=by
 obtain⟨H0,G0,G,Δ,O,E,q⟩:=q;unfold Al at q;cases e1:f (At Δ) with
 |ok w=>
  rw[e1]at q;refine aq_2 E (Same.refl _) ?_;unfold Dy;rw[e1];cases w <;> exact q
 |ex x=>
  rw[e1]at q;refine aq_2 E (Same.refl _) ?_;unfold Dy;rw[e1];exact q
 |no=>
  rw[e1]at q;cases e2:f (Ba Δ) with
  |ok w=>
   simp only[e2]at q
   split at q
   ·rename_i fl;refine⟨Cs G H O,Ba Δ,E.aH,E.gall, ?_⟩;rw[e2];exact WP.intro λv G' H' st r=>q _ G H' O ((E.keep st.hh).put (r.ofFl fl)) (Same.refl _)
   ·obtain⟨G',O',sg,E'⟩:=E.gsome js;exact aq_2 E' sg q
  |ex x=>
   simp only[e2]at q;obtain⟨G',O',sg,E'⟩:=E.gsome js;exact aq_2 E' sg q
  |no=>simp only[e2]at q;exact q.elim
def Bp{i:Nat}(js:List Nat){x:Str}{pos':Pos}(he:ED X EX e f)(hN:X.N.Nodup)(hi:X.N[i]? =some x:=by rfl)(hx:Ep X.env.scope x:=by trivial)(hs:swapsWith e (some (.Name x pos')) pos.line X.env=pure false:=by rfl)
  (hf:X.fn x=true\/X.env.scope.names.lookup x=some .local:=by trivial):SD X EX (.Assign [.Name x pos'] e pos) (Al i js f):=
 PS.imp (be_7 hN hi hx he hs hf) λD σ H q=>bl_6 q
def sExpr(js:List Nat)(f:FE):FS:=λ Δ=>match f (Ba Δ) with
 | .ok _=> .nx Δ
 | .ex _=>exG js f Δ
 | .no=> .no
def db_2(js:List Nat)(he:ED X EX e f)(hs:swapsWith e none pos.line X.env=pure false:=by rfl):SD X EX (.Expr e pos) (sExpr js f):=
 PS.imp (ac_1 he hs) λD σ H ⟨H0,G0,G,Δ,O,E,q⟩=>by
  unfold sExpr at q;cases e1:f (Ba Δ) with
  |ok w=>
   rw[e1]at q;exact⟨Cs G H O,Ba Δ,E.aH,E.gall,by rw[e1];exact WP.intro λv G' H' st r=>q σ G H' O (E.keep st.hh) (Same.refl _)⟩
  |ex x=>rw[e1]at q;exact bl_5 E (Same.refl _) q
  |no=>rw[e1]at q;exact q.elim
def Bx(js:List Nat)(p:FT)(g h:FS):FS:=λ Δ=>match p (Ba Δ) with
 | .ok b=>if b=true then g Δ else h Δ
 | .ex _=>exT js p Δ
 | .no=> .no
def bb_4{H0:HB}{G0 G H:Hp}{σ:Sg}{Δ:SE}{O:OS}{D:Ends}{k:Bool->Fl}{P:Bool->Hp->Prop}{js:List Nat}(E:Ev K H0 G0 G H σ Δ O)
  {G1:Hp} (sg:Same G1 G) (q:Fin K EX H0 G0 G1 D (match p (Ba Δ) with| .ok b=>k b| .ex _=>exT js p Δ| .no=> .no)) (i:∀b H',p (Ba Δ)=.ok b->Ev K H0 G0 G H' σ Δ O->Fin K EX H0 G0 G1 D (k b)->P b H'):tDt K EX p σ H P:=by
 cases e1:p (Ba Δ) with
 |ok b=>rw[e1]at q;exact⟨Cs G H O,Ba Δ,E.aH,E.gall,by rw[e1];exact λG' H' st=>i b H' e1 (E.keep st.hh) q⟩
 |ex x=>rw[e1]at q;exact co_4 E sg q
 |no=>rw[e1]at q;exact q.elim
def Ec(js:List Nat){c:Expr}{as bs:List Stmt}(hc:TD X EX c p)(ha:BD X EX as g)(hb:BD X EX bs h):SD X EX (.If c as bs pos) (Bx js p g h):=
 PS.imp (dh_8 hc ha hb) λD σ H ⟨H0,G0,G,Δ,O,E,q⟩=>bb_4 (k:=λb=>if b=true then g Δ else h Δ) E (Same.refl _) q λb H' _ E' q'=>by
  cases b with
  |true=>rw[if_pos rfl];exact⟨H0,G0,G,Δ,O,E',q'⟩
  |false=>rw[if_neg A6];exact⟨H0,G0,G,Δ,O,E',q'⟩
def v_8(js:List Nat)(p:FT)(g:FS):Nat->FS
 |0=>λ_=> .no
 |n + 1=>λ Δ=>match p (Ba Δ) with
  | .ok b=>if b=true then(match g Δ with
    | .nx Δ'=>v_8 js p g n Δ'
    | .ct Δ'=>v_8 js p g n Δ'
    | .bk Δ'=> .nx Δ'
    |r=>r) else .nx Δ
  | .ex _=>exT js p Δ
  | .no=> .no
def co_5(js:List Nat)(n:Nat){c:Expr}{body:List Stmt}(hp:PassesOwn (model X.prog X.w) X.A X.env X.xe)(hc:TD X EX c p)(hb:BD X EX body g):SD X EX (.While c body [] pos) (v_8 js p g n):=
 PS.imp (cl_6 hp hc hb) λD σ H ⟨H0,G0,G1,Δ,O,E,q⟩=>by
  refine⟨λm σ H=>∃G Δ O,Ev X.K H0 G0 G H σ Δ O/\Same G1 G/\Fin X.K EX H0 G0 G1 D (v_8 js p g m Δ),⟨n,G1,Δ,O,E,Same.refl _,q⟩, ?_⟩
  rintro m σ H ⟨G,Δ,O,E,sg,q⟩
  cases m with
  |zero=>exact False.elim q
  |succ m=>
   refine bb_4 (k:=λb=>if b=true then(match g Δ with| .nx Δ'=>v_8 js p g m Δ'| .ct Δ'=>v_8 js p g m Δ'| .bk Δ'=> .nx Δ'|r=>r) else .nx Δ) E sg q λb H' _ E' q'=> ?_;cases b with
   |false=>rw[if_neg A6];exact q' σ G H' O E' sg
   |true=>
    rw[if_pos rfl];rw[if_pos rfl]at q';refine⟨λ σ' H'=>∃G Δ O,Ev X.K H0 G0 G H' σ' Δ O/\Same G1 G/\Fin X.K EX H0 G0 G1 D (v_8 js p g m Δ),λ σ' H' w=>⟨m,Q8 _,w⟩,H0,G0,G,Δ,O,E', ?_⟩;cases e1:g Δ with
    |nx Δ'=>rw[e1]at q';exact λ σ' G' H' O' E2 s2=>⟨G',Δ',O',E2,sg.trans s2,q'⟩
    |ct Δ'=>rw[e1]at q';exact λ σ' G' H' O' E2 s2=>⟨G',Δ',O',E2,sg.trans s2,q'⟩
    |bk Δ'=>rw[e1]at q';exact Fin.mono (r:=.nx Δ') sg q'
    |rt w=>rw[e1]at q';exact q'
    |rv d Δ'=>rw[e1]at q';exact Fin.mono (r:=.rv d Δ') sg q'
    |ex x Δ'=>rw[e1]at q';exact Fin.mono (r:=.ex x Δ') sg q'
    |no=>rw[e1]at q';exact q'
end
def Bb(n:Nat)(ds:List D):SE:=ds.map Sl.sh ++ List.replicate (n - ds.length) .no
def Ar(n:Nat)(g:FS)(ds:List D):R W:=match g (Bb n ds) with
 | .nx _=> .ok (.sh .non)
 | .rt w=> .ok w
 | .ex x _=> .ex x
 |_=> .no
def co_6{G H:Hp}{vs:List V}{ds:List D}{N:List Str}(g:Same G H)(r:HasL K G vs ds):Ev K ⟨H,λ_=>0⟩ G G H (L2.start N vs) (Bb N.length ds) (λ_ _=>False):=by
 refine⟨Step.refl g, ?_,λi d e=> ?_,λi z d e zo=> ?_,λ_ _ ha=>ha.elim,λ_ _ _ ha=>ha.elim,λi d e=> ?_,λi d e=> ?_⟩
 ·unfold L2.start Bb;simp only[B8,A3,K6,r.length]
 ·unfold Bb at e
  by_cases hi:i < ds.length
  ·rw[D8 (by rw[A3];exact hi),A9]at e;cases q:ds[i]? with
   |none=>rw[q]at e;cases e
   |some d'=>
    rw[q]at e;cases e;obtain⟨v,e1,h⟩:=r.get q;refine⟨v, ?_,h⟩;unfold L2.start;rw[D8 (by rw[A3,r.length];exact hi),A9,e1];rfl
  ·rw[G6 (by rw[A3];omega),K3]at e
   split at e <;> cases e
 ·exfalso;unfold Bb at e
  by_cases hi:i < ds.length
  ·rw[D8 (by rw[A3];exact hi),A9]at e;cases q:ds[i]? with
   |none=>rw[q]at e;cases e
   |some d'=>rw[q]at e;cases e;cases zo
  ·rw[G6 (by rw[A3];omega),K3]at e
   split at e
   ·cases e;cases zo
   ·cases e
 ·exfalso;unfold Bb at e
  by_cases hi:i < ds.length
  ·rw[D8 (by rw[A3];exact hi),A9]at e;cases q:ds[i]? with
   |none=>rw[q]at e;cases e
   |some d'=>rw[q]at e;cases e
  ·rw[G6 (by rw[A3];omega),K3]at e
   split at e <;> cases e
 ·exfalso;unfold Bb at e
  by_cases hi:i < ds.length
  ·rw[D8 (by rw[A3];exact hi),A9]at e;cases q:ds[i]? with
   |none=>rw[q]at e;cases e
   |some d'=>rw[q]at e;cases e
  ·rw[G6 (by rw[A3];omega),K3]at e
   split at e <;> cases e
def fn_D{c:Bool}{P:Program}{w:World}{x qual:Str}{st:Stmt}{f:Addr}{N ps:List Str}{k:Nat}{g:FS}(F:Fun K x qual st f fd)(S:FnScope N ps (Cc st))
  (zj:∀(zp:Value) (A:Around) (outer:List Env) (s:Shared) (H:Hp) (E:XK),RoomC c k (A.deeper (envOfC qual (Cc st) s.heap.objs.size f zp))->
   BD (Gc c P w K mg base N qual (Cc st) f zp A outer s H E) (λ_=>EXof K E) (Ey st) g):FnX P w K mg base c (k + 1) f fd ps (Ca K ps.length (Ar N.length g)):=by
 refine Fun.okX F S (λvs H Q E h=>h.1) λzp A outer s H vs Q E hr h=>⟨_,zj zp A outer s H E hr, ?_⟩;obtain⟨hl,G,ds,g0,r,o⟩:=h;refine⟨⟨H,λ_=>0⟩,G,G,_,_,co_6 g0 r, ?_⟩;unfold Ar at o;cases e:g (Bb N.length ds) with
 |nx Δ=>rw[e]at o;exact λ σ G' H' O E' _=>(WP.mono (w:=.sh .non) (Q:=Q) E'.st o).use E'.st.gh .non
 |rt w=>rw[e]at o;exact o
 |rv d Δ=>rw[e]at o;exact o.elim
 |ex x Δ=>rw[e]at o;exact λ σ G' H' O E' _=>(EXof K E).mono _ _ _ _ _ E'.st o
 |bk Δ=>rw[e]at o;exact o.elim
 |ct Δ=>rw[e]at o;exact o.elim
 |no=>rw[e]at o;exact o
def dn_6{c:Bool}{P:Program}{w:World}{x:Str}{st:Stmt}{f:Addr}{ps:List Str}{k:Nat}{Fn:AF}(F:Fun K x x st f fd)(hm:mg x=some (.ref f))(hb:Binds K fd ps [])
  (ok:FnX P w K mg base c k f fd ps (Ca K ps.length Fn)):FnD P w K mg base c x k ps Fn:=⟨f,fd,ok,hm,F.kp,hb⟩
def co_7(x:Str):It:=⟨λi _=>i < x.cps.size,λi H v H'=>H'=H/\∃c,x.cps[i]? =some c/\v=.str ⟨#[c]⟩,λi _=>i=x.cps.size⟩
def bu_8{P:Program}{w:World}{tg:Expr}{it:Addr}{n:Nat}{Pv:Nat->Value->Prop}{St:Nat->Heap->Prop}{J:It}
  (W:∀A':Around,A'.handled=none->Walks P w A' it [it] [it] n Pv St)
  (bc:∀i h,St i h->∃o nm vs,h.get? it=some o/\o.cls=.type nm/\o.data=.fields vs/\ ["enumerate","zip","dict_itemiterator","dict_reverseitemiterator","odict_iterator","itertools.zip_longest","itertools.pairwise"].contains nm=false)
  (cu:∀(i:Nat) (h h':Heap),St i h->(∀b∈ [it],∀o,h.get? b=some o->h'.get? b=some o)->St i h') (bt:∀(A:Around) (i:Nat) (s:Shared) (Q E:AA),St i s.heap->Q (.ref it) s->wpAny (model P w) A (pyIter (.ref it)) Q E s)
  (hgo:∀i H,J.go i H->i < n) (hst:∀i H,J.stop i H->i=n) (hy:∀i H u,Pv i u->∃x,RelV x u/\J.yld i H x H):Turn P w K tg J [it] it St where
 mem:=by simp
 obj:=λi h st b hb=>by
  have e:b=it:=by simpa using hb
  subst e;obtain⟨o,nm,vs,e,c,d,_⟩:=bc i h st;exact⟨o,e,λv z=>by rw[d]at z;cases z⟩
 keep:=cu
 item:=by
  intro X hP hw hK hc i zd s σ H E I hf st hg;subst hP hw hK;obtain⟨f0,f1,f2,f3,f4,f5⟩:=hf it (by simp);refine(W X.A (I.ok.hd hc)).item i s _ _ (hgo i H hg) st λv h' tk hv st' kk=> ?_;have I1:Inv X zd σ H {s with heap:=h',toks:=tk}:=I.turned (λb o hb e=>kk b o (by simpa using hb) e) f0 f1 f3 f4 f5;obtain⟨x,rx,yx⟩:=hy i H v hv;obtain⟨o,nm,vs,e,c,d,hn⟩:=bc (i + 1) h' st';exact⟨v,rfl,bk_2 (s:={s with heap:=h',toks:=tk}) e c d hn ⟨x,H,I1,rx,yx,st',λb hb=>(hf b hb).1⟩⟩
 done:=by
  intro X hP hw hK hc i zd s σ H E I hf st hg;subst hP hw hK;obtain⟨f0,f1,f2,f3,f4,f5⟩:=hf it (by simp);obtain rfl:=hst i H hg;exact(W X.A (I.ok.hd hc)).done s _ _ st λh' tk kk=>⟨rfl,I.turned (λb o hb e=>kk b o (by simpa using hb) e) f0 f1 f3 f4 f5⟩
 self:=bt
def ItD(K:Frag)(G1:Hp)(J:It)(ds:List D):Prop:=∀G H,Same G1 G->Same G H->∀i,
 (∀d,ds[i]? =some d->J.go i H/\∀x H',J.yld i H x H'->∃G',Step G H G' H'/\Has K G' x d)/\(ds.length=i->J.stop i H)
abbrev FI:=DE->R (List D)
def tI(K:Frag)(EX:Au)(fi:FI):TI:=λ σ H Q=>∃G δ,Same G H/\HasS K G σ δ/\match fi δ with
 | .ok ds=>∀J G' H',Step G H G' H'->ItD K G' J ds->Q J H'
 | .ex x=>(EX σ).p x G H
 | .no=>False
abbrev ID(X:Cx)(EX:Au)(tg iter:Expr)(fi:FI):Prop:=PI X tg iter (tI X.K EX fi)
def PI.imp{tg e:Expr}{t t':TI}(h:PI X tg e t)(i:∀σ H Q,t' σ H Q->t σ H Q):PI X tg e t':=λzd s σ H Q I q=>h zd s σ H Q I (i σ H Q q)
section
variable{X:Cx}{EX:Au}{tg e a b:Expr}{f:FE}{fa:FA}{p pos:Pos}
def tDa.seqI{G H:Hp}{σ:Sg}{δ:DE}{k:List D->R (List D)}{Q:It->Hp->Prop}{P:List V->Hp->Prop}(g:Same G H)(s:HasS K G σ δ)
  (h:match(fa δ).bind k with| .ok ds=>∀J G' H',Step G H G' H'->ItD K G' J ds->Q J H'| .ex x=>(EX σ).p x G H| .no=>False)
  (i:∀ds vs G' H',Step G H G' H'->HasL K G' vs ds->(match k ds with| .ok ds=>∀J G2 H2,Step G' H' G2 H2->ItD K G2 J ds->Q J H2| .ex x=>(EX σ).p x G' H'| .no=>False)->P vs H'):tDa K EX fa σ H P:=by
 refine⟨G,δ,g,s, ?_⟩;cases e:fa δ with
 |ok ds=>
  rw[e]at h;simp only[R.bind_ok]at h;refine λvs G' H' st r=>i ds vs G' H' st r ?_;cases e2:k ds with
  |ok ds'=>rw[e2]at h;exact λJ G2 H2 st2 it=>h J G2 H2 (st.trans st2) it
  |ex x=>rw[e2]at h;exact(EX σ).mono _ _ _ _ _ st h
  |no=>rw[e2]at h;exact h
 |ex x=>rw[e]at h;exact h
 |no=>rw[e]at h;exact h
def Ga(lo:Int)(n:Nat):List D:=(List.range n).map λ(k:Nat)=>D.int (lo + (k:Int))
def ak_5{lo:Int}{n i:Nat}{d:D}(h:(Ga lo n)[i]? =some d):i < n/\d=.int (lo + (i:Int)):=by
 unfold Ga at h;rw[A9]at h
 by_cases hi:i < n
 ·rw[X4 hi]at h;cases h;exact⟨hi,rfl⟩
 ·rw[K7 (by rw[O4];omega)]at h;cases h
def ac_4(lo:Int)(n:Nat):(Ga lo n).length=n:=by unfold Ga;rw[A3,O4]
def ch_0{G:Hp}(lo:Int)(n:Nat):ItD K G (Itr lo n) (Ga lo n):=λG' H _ g i=>by
 refine⟨λd e=> ?_,λe=> ?_⟩
 ·obtain⟨hi,rfl⟩:=ak_5 e;refine⟨hi,λx H' y=> ?_⟩;obtain⟨e1,e2⟩:=y;subst e1 e2;exact⟨G',Step.refl g,.int _⟩
 ·rw[ac_4]at e;exact S8 e
def Cr:List D->R (List D)
 | [.int j]=>if j.natAbs < 4611686018427387904 then .ok (Ga 0 j.toNat) else .no
 |_=> .no
def Bv(k:List D->R (List D))(fa:FA):FI:=λ δ=>(fa δ).bind k
def w_4(hm:X.mg "range" =none)(ha:AD X EX [a] fa)(hg:Gl X "range" :=by rfl)(hs:starEach [a] X.env= [(false,eval a X.env)]:=by rfl):ID X EX tg (.Call (.Name "range" p) [a] [] pos) (Bv Cr fa):=
 PI.imp (cf_0 hg hm ha hs) λ σ H Q ⟨G,δ,g0,s0,o⟩=>tDa.seqI g0 s0 o λds vs G' H' st r o'=>by
  cases r with
  |nil=>exact False.elim o'
  |cons h t=>
   cases t with
   |cons _ _=>cases h <;> exact False.elim o'
   |nil=>
    cases h with
    |int j=>
     by_cases hc:j.natAbs < 4611686018427387904
     ·rw[show Cr [.int j]=.ok (Ga 0 j.toNat) from if_pos hc]at o';exact⟨j,rfl,by omega,by omega,o' _ G' H' (Step.refl st.gh) (ch_0 0 j.toNat)⟩
     ·rw[show Cr [.int j]=.no from if_neg hc]at o';exact o'.elim
    |_=>exact False.elim o'
def v_0(x:Str):List D:=x.cps.toList.map λc=> .str ⟨#[c]⟩
def Fb:D->R (List D)
 | .lst ds=> .ok ds
 | .tup ds=> .ok ds
 | .str x=> .ok (v_0 x)
 |_=> .no
def El(f:FE):FI:=λ δ=>(f δ).bind λw=>Fb w.d
def iAny(K:Frag)(tl:TE):TI:=λ σ H Q=>tl σ H λx H1=>
 (∃a,x=.ref a/\(∃xs,SqL K H1 a xs)/\Q (Itl K a) H1)\/(∃a,x=.ref a/\(∃xs,SqT K H1 a xs)/\Q (Itt K a) H1)\/(∃z,x=.str z/\Q (co_7 z) H1)
def dn_7{l:Expr}{tl:TE}(hl:PE X l tl):PI X tg l (iAny X.K tl):=by
 intro zd s σ H Q I h;refine Ay (hl zd s σ H _ I h) λv s1 ⟨x,H1,I1,r1,q1⟩=> ?_;rcases q1 with⟨a,e,⟨xs,hq⟩,q⟩|⟨a,e,⟨xs,hq⟩,q⟩|⟨z,e,q⟩
 ·subst e;cases r1;obtain⟨its,rv,p,hz⟩:=I1.list hq;refine U8 p.isList ?_;refine⟨s1.heap.objs.size,[s1.heap.objs.size],_,_,H1,rfl,I1.kept (t':=s1.toks) λb o e=>A4 _ e,ce_9 a _,⟨_,B9 _ rfl,rfl,rfl⟩,λb hb=> ?_,q⟩;have e:b=s1.heap.objs.size:=by simpa using hb
  subst e;exact I1.fpOk (B5 _) (I1.hok.fresh (B5 _))
 ·subst e;cases r1;obtain⟨its,rv,p,hz⟩:=I1.tuple hq;refine wpAny_pyIter_tuple (show s1.heap.IsTuple a its.toArray from p) ?_;refine⟨s1.heap.objs.size,[s1.heap.objs.size],_,_,H1,rfl,I1.kept (t':=s1.toks) λb o e=>A4 _ e,bs_7 a _,⟨_,B9 _ rfl,rfl,rfl⟩,λb hb=> ?_,q⟩;have e:b=s1.heap.objs.size:=by simpa using hb
  subst e;exact I1.fpOk (B5 _) (I1.hok.fresh (B5 _))
 ·subst e;obtain⟨t,rfl⟩:=r1;have fin:∀(nm:String) (St:Nat->Heap->Prop),(∀i h,St i h↔h.IsStrIter s1.heap.objs.size nm z t i)->(∀A':Around,A'.handled=none->Walks X.prog X.w A' s1.heap.objs.size [s1.heap.objs.size] [s1.heap.objs.size] z.cps.size (SignAt z) St)->
    ["enumerate","zip","dict_itemiterator","dict_reverseitemiterator","odict_iterator","itertools.zip_longest","itertools.pairwise"].contains nm=false->
    (∀(A:Around) (i:Nat) (s:Shared) (Q E:AA),s.heap.IsStrIter s1.heap.objs.size nm z t i->Q (.ref s1.heap.objs.size) s->wpAny (model X.prog X.w) A (pyIter (.ref s1.heap.objs.size)) Q E s)->
    PIE X zd σ tg Q (.ref s1.heap.objs.size) {s1 with heap:=s1.heap.push {cls:=.type nm,data:=.fields #[.str z t,.int 0 0]}}:=by
   intro nm St hS W hn hslf;refine⟨s1.heap.objs.size,[s1.heap.objs.size],St,co_7 z,H1,rfl,I1.kept (t':=s1.toks) λb o e=>A4 _ e,
    bu_8 W (λi h st=> ?_) (λi h h' st k=> ?_) (λA i s Q E st h=>hslf A i s Q E ((hS _ _).mp st) h) (λi H g=>g) (λi H g=> ?_) (λi H u hu=> ?_),(hS _ _).mpr ⟨_,B9 _ rfl,rfl,rfl⟩,λb hb=> ?_,q⟩
   ·obtain⟨o,ho,hc,hd⟩:=(hS _ _).mp st;exact⟨o,nm,_,ho,hc,hd,hn⟩
   ·obtain⟨o,ho,r⟩:=(hS _ _).mp st;exact(hS _ _).mpr ⟨o,k _ (by simp) o ho,r⟩
   ·exact g
   ·obtain⟨c,u',e1,e2⟩:=hu;subst e2;exact⟨.str ⟨#[c]⟩,⟨u',rfl⟩,rfl,c,e1,rfl⟩
   ·have e:b=s1.heap.objs.size:=by simpa using hb
    subst e;exact I1.fpOk (B5 _) (I1.hok.fresh (B5 _))
  cases ha:z.cps.all (· < 128)
  ·exact wpAny_pyIter_wide ha (fin "str_iterator" _ (λ_ _=>Iff.rfl) (λA' hA=>Walks.strWide hA _ z t) ⋯ λA i s Q E st h=>wpAny_pyIter_striter_wide st h)
  ·exact wpAny_pyIter_ascii ha (fin "str_ascii_iterator" _ (λ_ _=>Iff.rfl) (λA' hA=>Walks.strAscii hA _ z t) ⋯ λA i s Q E st h=>wpAny_pyIter_striter_ascii st h)
def co_8{G:Hp}{a:Addr}{vs:List V}{ds:List D}(h:SqL K G a vs)(r:HasL K G vs ds):ItD K G (Itl K a) ds:=λG' H g1 g i=>by
 refine⟨λd e=> ?_,λe=> ?_⟩
 ·obtain⟨v,e1,hv⟩:=r.get e;refine⟨⟨vs,v,(g1.trans g).seq h,e1⟩,λx H' y=> ?_⟩;obtain⟨e2,y⟩:=y;subst e2;have e3:=y vs ((g1.trans g).seq h);rw[e1]at e3;cases e3;exact⟨G',Step.refl g,hv.mono g1⟩
 ·exact⟨vs,(g1.trans g).seq h,by rw[r.length];exact S8 e⟩
def db_3{G:Hp}{a:Addr}{vs:List V}{ds:List D}(h:SqT K G a vs)(r:HasL K G vs ds):ItD K G (Itt K a) ds:=λG' H g1 g i=>by
 refine⟨λd e=> ?_,λe=> ?_⟩
 ·obtain⟨v,e1,hv⟩:=r.get e;refine⟨⟨vs,v,Same.tupS (g1.trans g) h,e1⟩,λx H' y=> ?_⟩;obtain⟨e2,y⟩:=y;subst e2;have e3:=y vs (Same.tupS (g1.trans g) h);rw[e1]at e3;cases e3;exact⟨G',Step.refl g,hv.mono g1⟩
 ·exact⟨vs,Same.tupS (g1.trans g) h,by rw[r.length];exact S8 e⟩
def db_4{G:Hp}(z:Str):ItD K G (co_7 z) (v_0 z):=λG' H g1 g i=>by
 refine⟨λd e=> ?_,λe=> ?_⟩
 ·unfold v_0 at e;rw[A9]at e;cases q:z.cps.toList[i]? with
  |none=>rw[q]at e;cases e
  |some c=>
   rw[q]at e;cases e;have hi:i < z.cps.size:=by
    have:=(B6.mp q).1;simpa using this
   refine⟨hi,λx H' y=> ?_⟩;obtain⟨e2,c',e3,e4⟩:=y;subst e2 e4;have:z.cps.toList[i]? =some c':=by simpa using e3
   rw[q]at this;cases this;exact⟨G',Step.refl g,.str _⟩
 ·unfold v_0 at e;rw[A3]at e;show i=z.cps.size;simp at e;omega
def Fp(he:ED X EX e f):ID X EX tg e (El f):=
 PI.imp (dn_7 he) λ σ H Q ⟨G,δ,g0,s0,o⟩=>by
  refine⟨G,δ,g0,s0, ?_⟩;unfold El at o;cases e1:f δ with
  |ok w=>
   rw[e1]at o;simp only[R.bind_ok]at o;refine WP.intro λv G' H' st r=> ?_;revert r o;cases w.d with
   |lst ds=>
    intro o r;cases r with
    |lst h r=>exact .inl ⟨_,rfl,⟨_,st.gh.seq h⟩,o _ G' H' st (co_8 h r)⟩
   |tup ds=>
    intro o r;cases r with
    |tup h r=>exact .inr (.inl ⟨_,rfl,⟨_,Same.tupS st.gh h⟩,o _ G' H' st (db_3 h r)⟩)
   |str z=>
    intro o r;cases r;exact .inr (.inr ⟨z,rfl,o _ G' H' st (db_4 z)⟩)
   |_=>intro o _;exact False.elim o
  |ex x=>rw[e1]at o;exact o
  |no=>rw[e1]at o;exact o
end
abbrev FG:=D->SE->R SE
def tG(K:Frag)(EX:Au)(fg:FG):TG:=λv σ H Q=>∃H0 G0 G Δ O d,Ev K H0 G0 G H σ Δ O/\Has K G v d/\match fg d Δ with
 | .ok Δ'=>∀σ' G' H' O',Ev K H0 G0 G' H' σ' Δ' O'->Same G G'->Q σ' H'
 | .ex _=>False
 | .no=>False
def PG.imp{tg:Expr}{t t':TG}(h:PG X tg t)(i:∀v σ H Q,t' v σ H Q->t v σ H Q):PG X tg t':=λzd s σ H v u Q I r q=>h zd s σ H v u Q I r (i v σ H Q q)
abbrev GD(X:Cx)(EX:Au)(tg:Expr)(fg:FG):Prop:=PG X tg (tG X.K EX fg)
section
variable{X:Cx}{EX:Au}{pos:Pos}
def gV(i:Nat):FG:=λd Δ=> .ok (Δ.set i (.sh d))
def ac_5{i:Nat}{x:Str}(hN:X.N.Nodup)(hi:X.N[i]? =some x:=by rfl)(hx:Ep X.env.scope x:=by trivial)
  (hf:X.fn x=true\/X.env.scope.names.lookup x=some .local:=by trivial):GD X EX (.Name x pos) (gV i):=
 PG.imp (m_2 hN hi hx hf) λv σ H Q ⟨H0,G0,G,Δ,O,d,E,r,q⟩=>q _ G H O (E.put r) (Same.refl _)
def gV2(i j:Nat):FG:=λd Δ=>match d with
 | .tup [a,b]=> .ok ((Δ.set i (.sh a)).set j (.sh b))
 |_=> .no
def bu_9{i j k:Nat}{x y:Str}{p1 p2:Pos}(hc:X.calm=true)(hN:X.N.Nodup)(hi:X.N[i]? =some x:=by rfl)(hj:X.N[j]? =some y:=by rfl)(hx:Ep X.env.scope x:=by trivial)(hy:Ep X.env.scope y:=by trivial)
  (hf:X.fn x=true\/X.env.scope.names.lookup x=some .local:=by trivial) (hf2:X.fn y=true\/X.env.scope.names.lookup y=some .local:=by trivial)
  (hn:(assignEach [.Name x p1,.Name y p2] X.env).length=2:=by rfl) (hst:(assignEach [.Name x p1,.Name y p2] X.env).findIdx? (·.1)=none:=by rfl)
  (hs:(assignEach [.Name x p1,.Name y p2] X.env).map (·.2)=assign (.Name x p1) X.env::(assignEach [.Name y p2] X.env).map (·.2):=by rfl) (hs2:(assignEach [.Name y p2] X.env).map (·.2)=assign (.Name y p2) X.env::(assignEach [] X.env).map (·.2):=by rfl):
  GD X EX (.Tuple [.Name x p1,.Name y p2] k pos) (gV2 i j):=
 PG.imp (bs_6 hc (l_8 (m_2 hN hi hx hf) (l_8 (m_2 hN hj hy hf2) ag_1 hs2) hs) hn hst) λv σ H Q ⟨H0,G0,G,Δ,O,d,E,r,q⟩=>by
  cases r with
  |tup h r=>
   cases r with
   |nil=>exact False.elim q
   |cons r1 r=>
    cases r with
    |nil=>exact False.elim q
    |cons r2 r=>
     cases r with
     |nil=>exact⟨_,_,rfl,Same.tupS E.st.gh h,rfl,_,_,rfl,_,_,rfl,rfl,q _ G H O ((E.put r1).put r2) (Same.refl _)⟩
     |cons _ _=>exact False.elim q
  |_=>exact False.elim q
def gV3(i j l:Nat):FG:=λd Δ=>match d with
 | .tup [a,b,c]=> .ok (((Δ.set i (.sh a)).set j (.sh b)).set l (.sh c))
 | .lst [a,b,c]=> .ok (((Δ.set i (.sh a)).set j (.sh b)).set l (.sh c))
 |_=> .no
def De(fg:FG)(g:FS):List D->FS
 | []=>λ Δ=> .nx Δ
 |d::ds=>λ Δ=>match fg d Δ with
  | .ok Δ1=>(match g Δ1 with
   | .nx Δ2=>De fg g ds Δ2
   | .ct Δ2=>De fg g ds Δ2
   | .bk Δ2=> .nx Δ2
   |r=>r)
  | .ex _=> .no
  | .no=> .no
def Fu(js:List Nat)(fi:FI)(fg:FG)(g:FS):FS:=λ Δ=>match fi (At Δ) with
 | .ok ds=>De fg g ds Δ
 | .ex x=> .ex x Δ
 | .no=>match fi (At (gsome js Δ)) with
  | .ok ds=>De fg g ds (gsome js Δ)
  | .ex x=> .ex x (gsome js Δ)
  | .no=> .no
def aa_2{α:Type}{l:List α}{i:Nat}(h:i < l.length):∃x,l[i]? =some x/\l.drop i=x::l.drop (i + 1):=⟨l[i],by simp[h],List.drop_eq_getElem_cons h⟩
def ac_6{fg:FG}{g:FS}{H0:HB}{G0 G1 H1:Hp}{J:It}{ds:List D}{Δ:SE}{O:OS}{σ:Sg}{D:Ends}(E:Ev K H0 G0 G1 H1 σ Δ O)(it:ItD K G1 J ds)(q:Fin K EX H0 G0 G1 D (De fg g ds Δ)):
  ∃W:Nat->Nat->Sg->Hp->Prop,(∃m,W 0 m σ H1)/\∀i m σ H,W i m σ H->
   (J.stop i H/\D.nx σ H)\/(J.go i H/\∃N:Sg->Hp->Prop,(∀σ' H',N σ' H'->∃m',m' < m/\W (i + 1) m' σ' H')/\∀x H',J.yld i H x H'->tG K EX fg x σ H' λ σ2 H2=>tS K EX g {D with nx:=N,ct:=N,bk:=D.nx} σ2 H2):=by
 refine⟨λi m σ H=>m=ds.length - i/\i<=ds.length/\∃G Δ O,Ev K H0 G0 G H σ Δ O/\Same G1 G/\Fin K EX H0 G0 G1 D (De fg g (ds.drop i) Δ),⟨ds.length,by simp,L0 _,G1,Δ,O,E,Same.refl _,q⟩, ?_⟩
 rintro i m σ H ⟨rfl,hi,G,Δ,O,E,sg,q⟩
 obtain⟨i1,i2⟩:=it G H sg E.st.gh i
 by_cases hlt:i < ds.length
 ·obtain⟨d,e1,e2⟩:=aa_2 hlt;obtain⟨go,yl⟩:=i1 d e1;refine .inr ⟨go,λ σ' H'=>∃G Δ O,Ev K H0 G0 G H' σ' Δ O/\Same G1 G/\Fin K EX H0 G0 G1 D (De fg g (ds.drop (i + 1)) Δ),λ σ' H' w=>⟨ds.length - (i + 1),by omega,rfl,hlt,w⟩,λx H' y=> ?_⟩;obtain⟨G',st,hx⟩:=yl x H' y;rw[e2]at q;refine⟨H0,G0,G',Δ,O,d,E.grow st,hx, ?_⟩;have q':Fin K EX H0 G0 G1 D (match fg d Δ with
   | .ok Δ1=>(match g Δ1 with
    | .nx Δ2=>De fg g (ds.drop (i + 1)) Δ2
    | .ct Δ2=>De fg g (ds.drop (i + 1)) Δ2
    | .bk Δ2=> .nx Δ2
    |r=>r)
   | .ex _=> .no
   | .no=> .no):=q
  cases e3:fg d Δ with
  |ok Δ1=>
   rw[e3]at q';intro σ2 G2 H2 O2 E2 s2;have s12:Same G1 G2:=sg.trans (st.gg.trans s2);refine⟨H0,G0,G2,Δ1,O2,E2, ?_⟩;cases e4:g Δ1 with
   |nx Δ2=>simp only[e4]at q';exact λ σ3 G3 H3 O3 E3 s3=>⟨G3,Δ2,O3,E3,s12.trans s3,q'⟩
   |ct Δ2=>simp only[e4]at q';exact λ σ3 G3 H3 O3 E3 s3=>⟨G3,Δ2,O3,E3,s12.trans s3,q'⟩
   |bk Δ2=>simp only[e4]at q';exact λ σ3 G3 H3 O3 E3 s3=>q' σ3 G3 H3 O3 E3 (s12.trans s3)
   |rt w=>simp only[e4]at q';exact q'
   |rv d Δ2=>simp only[e4]at q';exact λv σ3 G3 H3 O3 E3 s3=>q' v σ3 G3 H3 O3 E3 (s12.trans s3)
   |ex x Δ2=>simp only[e4]at q';exact λ σ3 G3 H3 O3 E3 s3=>q' σ3 G3 H3 O3 E3 (s12.trans s3)
   |no=>simp only[e4]at q';exact q'
  |ex x=>rw[e3]at q';exact q'
  |no=>rw[e3]at q';exact q'
 ·have e:ds.length=i:=by omega
  refine .inl ⟨i2 e, ?_⟩;rw[U9 ()]at q;exact q σ G H O E sg
def x_6{tg iter:Expr}{body:List Stmt}{fi:FI}{fg:FG}{g:FS}(js:List Nat)(hp:PassesOwn (model X.prog X.w) X.A X.env X.xe)(hc:X.calm=true)(hi:ID X EX tg iter fi)(hg:GD X EX tg fg)(hb:BD X EX body g)
  (hs:∀x,foldedSetIterable iter X.env x=pure x:=by intro _;rfl):SD X EX (.For tg iter body [] pos) (Fu js fi fg g):=
 PS.imp (cl_8 hp hc hi hg hb hs) λD σ H ⟨H0,G0,G,Δ,O,E,q⟩=>by
  unfold Fu at q;cases e1:fi (At Δ) with
  |ok ds=>
   rw[e1]at q;refine⟨G,At Δ,E.st.gh,E.gsh, ?_⟩;rw[e1];exact λJ G' H' st it=>ac_6 (E.grow st) it (Fin.mono st.gg q)
  |ex x=>
   rw[e1]at q;exact⟨G,At Δ,E.st.gh,E.gsh,by rw[e1];exact q σ G H O E (Same.refl _)⟩
  |no=>
   rw[e1]at q;obtain⟨G1,O1,sg,E1⟩:=E.gsome js;refine⟨G1,At (gsome js Δ),E1.st.gh,E1.gsh, ?_⟩;cases e2:fi (At (gsome js Δ)) with
   |ok ds=>
    simp only[e2]at q;exact λJ G' H' st it=>ac_6 (E1.grow st) it (Fin.mono (sg.trans st.gg) q)
   |ex x=>simp only[e2]at q;exact q σ G1 H O1 E1 sg
   |no=>simp only[e2]at q;exact q
def sApp(i:Nat)(f:FE):FS:=λ Δ=>match Δ[i]? with
 |some (.ow (.lst ds))=>if ds.length < 16777216 then(match f (At Δ) with
   | .ok w=> .nx (Δ.set i (.ow (.lst (ds ++ [w.d]))))
   | .ex x=> .ex x Δ
   | .no=>match f (Ba Δ) with
    | .ok w=>if Bf w.d=true then .nx (Δ.set i (.ow (.lst (ds ++ [w.d])))) else .no
    |_=> .no) else .no
 |_=> .no
def co_9{i:Nat}{x:Str}{e:Expr}{f:FE}{p1 zg zf:Pos}(he:ED X EX e f)(hN:X.N[i]? =some x:=by rfl)(hv:Fg X.env.scope x:=by trivial)(hd:AG x:=by decide)
  (hcd:(x ==("__classdict__" :Str))=false:=by decide) (hsw:swapsWith (.Call (.Attribute (.Name x p1) "append" zg) [e] [] zf) none pos.line X.env=pure false:=by rfl)
  (ae:attributeBase (.Name x p1) "append" X.env (eval (.Name x p1) X.env)=eval (.Name x p1) X.env:=by rfl)
  (bb:((backTo zf (starEach [e] X.env)).all (λx=> !x.1) && (backToKw zf (keywordEach [] X.env)).all (λx=>x.1.isSome)
   && decide ([e].length + ([]:List Keyword).length + (if([]:List Keyword).isEmpty then 0 else 1) < 30))=true:=by rfl)
  (af:(zg.endLine ==zf.line)=true:=by rfl) (hs:starEach [e] X.env=(false,eval e X.env)::starEach [] X.env:=by rfl) (ag:(backTo zf (starEach [] X.env)).any (·.1)=false:=by rfl):
  SD X EX (.Expr (.Call (.Attribute (.Name x p1) "append" zg) [e] [] zf) pos) (sApp i f):=
 PS.imp (ac_1 (by_7 U3 Z2 Z3 aj_8 (Fh hN hv hd hcd) (i_7 he r_0 hs) ae bb af hs ag) hsw) λD σ H ⟨H0,G0,G,Δ,O,E,q⟩=>by
  unfold sApp at q
  split at q
  ·rename_i ds e1
   split at q
   ·rename_i hz;obtain⟨v0,s1,t⟩:=E.ow i _ _ e1 rfl;obtain⟨a,vs,rfl,m,hH,rl⟩:=t.list_of
    ·skip
     refine⟨.ref a,s1,.inl ⟨rfl,_,SqL.of hH⟩, ?_⟩;have fin:∀{G' H':Hp} {v:V} {d:L3.D},Ev X.K H0 G0 G' H' σ Δ O->Same G G'->H' a=some (.lst vs)->HasL X.K G' vs ds->Has X.K G' v d->Fin X.K EX H0 G0 G D (.nx (Δ.set i (.ow (.lst (ds ++ [d])))))->
       bf_2 (.ref a) [v] H' λ_ H1=>D.nx σ H1:=λ{G' H' v d} E' sg hH' r' hv' q'=>
      ⟨a,vs,v,rfl,rfl,hH',by rw[r'.length,D6];exact hz,q' σ G' _ _ (E'.writeL s1 m (r'.append (.cons hv' .nil))) sg⟩
     cases e2:f (At Δ) with
     |ok w=>
      simp only[e2]at q;refine⟨G,At Δ,E.st.gh,E.gsh, ?_⟩;rw[e2];exact WP.intro λv G' H' st r=>fin (E.grow st) st.gg (st.hh _ _ hH) (rl.mono st.gg) r q
     |ex x=>
      simp only[e2]at q;exact⟨G,At Δ,E.st.gh,E.gsh,by rw[e2];exact q σ G H O E (Same.refl _)⟩
     |no=>
      simp only[e2]at q;refine⟨Cs G H O,Ba Δ,E.aH,E.gall, ?_⟩;cases e3:f (Ba Δ) with
      |ok w=>
       simp only[e3]at q
       split at q
       ·rename_i fl;exact WP.intro λv G' H' st r=>fin (E.keep st.hh) (Same.refl _) (st.hh _ _ hH) rl (r.ofFl fl) q
       ·exact q.elim
      |ex x=>simp only[e3]at q;exact q.elim
      |no=>simp only[e3]at q;exact q
   ·exact q.elim
  ·exact q.elim
end
def r_2(X:Cx)(scope:Scope)(cl:List (Str×Addr))(N':List Str)(C:Addr)(s0:Shared)(H0:Hp)(fp:List Addr)(pn:AE):Cx where
 prog:=X.prog
 w:=X.w
 K:=X.K
 mg:=X.mg
 base:=X.base
 A:=X.A
 N:=N'
 s₀:=s0
 H₀:=H0
 env:=compEnvC scope cl C X.env
 outer:=X.stack
 stack:=X.stack
 ex:=fp
 fn:=λ_=>false
 calm:=X.calm
 pn:=pn
 xe:=λ_ _=>False
abbrev FGc:=D->DE->R DE
def tGc(K:Frag)(EX:Au)(fg:FGc):TG:=λv σ H Q=>∃G δ d,Same G H/\HasS K G σ δ/\Has K G v d/\match fg d δ with
 | .ok δ'=>∀σ',HasS K G σ' δ'->HasS K G σ' δ->Q σ' H
 | .ex x=>(EX σ).p x G H
 | .no=>False
abbrev GC(X:Cx)(EX:Au)(tg:Expr)(fg:FGc):Prop:=PG X tg (tGc X.K EX fg)
def CTs(X:Cx)(EX:Au)(ifs:List Expr)(p:FT):Prop:=
 ∀(zd:AE) (s:Shared) (σ:Sg) (H:Hp) (Q:Bool->Hp->Prop),Inv X zd σ H s->tDt X.K EX p σ H Q->
  wpAny (model X.prog X.w) X.A (forIn ifs true λc r=>if r=true then do let ok<-isTrue c X.env (eval c X.env);pure (ForInStep.yield ok) else pure (ForInStep.yield r)) (TP X zd σ Q) X.xe s
section
variable{X:Cx}{EX:Au}{pos:Pos}
def gC(i:Nat):FGc:=λd δ=>match δ[i]? with
 |some none=> .ok (δ.set i (some d))
 |_=> .no
def HasS.put{G:Hp}{σ:Sg}{δ:DE}{d:D}(h:HasS K G σ δ)(r:Has K G v d)(i:Nat):HasS K G (σ.set i (some v)) (δ.set i (some d)):=by
 refine⟨by rw[F3,F3];exact h.len,λj d' e=> ?_⟩;rcases Eu e with⟨rfl,q⟩|⟨n,q⟩
 ·cases q;have hlt:i < δ.length:=by
   by_cases hh:i < δ.length
   ·exact hh
   ·rw[K7 (by rw[F3];omega)]at e;cases e
  exact⟨v,by rw[F4 (by rw[h.len];exact hlt)],r⟩
 ·obtain⟨v',e1,r'⟩:=h.get j d' q;exact⟨v',by rw[C1 n];exact e1,r'⟩
def db_5{i:Nat}{x:Str}(hN:X.N.Nodup)(hi:X.N[i]? =some x:=by rfl)(hx:Ep X.env.scope x:=by trivial)
  (hf:X.fn x=true\/X.env.scope.names.lookup x=some .local:=by trivial):GC X EX (.Name x pos) (gC i):=
 PG.imp (m_2 hN hi hx hf) λv σ H Q ⟨G,δ,d,g,s,r,q⟩=>by
  unfold gC at q;cases e:δ[i]? with
  |none=>rw[e]at q;exact q.elim
  |some o=>
   rw[e]at q;cases o with
   |some _=>exact q.elim
   |none=>
    refine q _ (s.put r i) ⟨by rw[F3];exact s.len,λj d' e'=> ?_⟩;obtain⟨v',e1,r'⟩:=s.get j d' e';refine⟨v', ?_,r'⟩;rw[C1]
    ·exact e1
    ·rintro rfl
     rw[e]at e';cases e'
def ak_6:CTs X EX [] (λ_=> .ok true):=λzd s σ H Q I ⟨G,δ,g,h,q⟩=>wpAny_tests_nil ⟨H,I,q G H (Step.refl g)⟩
def bf_9{c:Expr}{p:FT}(h:TD X EX c p):CTs X EX [c] p:=λzd s σ H Q I q=>wpAny_tests_one (h zd s σ H Q I q)
def Fv(fg:FGc)(p:FT)(f:FE)(δ:DE):List D->R (List D)
 | []=> .ok []
 |d::ds=>(fg d δ).bind λ δ1=>(p δ1).bind λb=>if b=true then(f δ1).bind λw=>(Fv fg p f δ ds).bind λrs=> .ok (w.d::rs) else Fv fg p f δ ds
def R.calm{α:Type}:R α->R α
 | .ok w=> .ok w
 |_=> .no
@[simp] theorem R.calm_ok{α:Type}(a:α):(R.ok a).calm=.ok a:=rfl
@[simp] theorem R.calm_ex{α:Type}(x:Xn):(R.ex x:R α).calm=.no:=rfl
@[simp] theorem R.calm_no{α:Type}:(R.no:R α).calm=.no:=rfl
def Ch(m:Nat)(fi:FI)(fg:FGc)(p:FT)(f:FE):FE:=λ δ=>((fi δ).bind λds=>if ds.length<=16777216 then(Fv fg p f (δ ++ List.replicate m none) ds).bind λrs=> .ok (.ow (.lst rs)) else .no).calm
def R.calm_never{α:Type}{r:R α}{x:Xn}(h:r.calm=.ex x):False:=by
 cases r <;> cases h
def bl_7{m:Nat}{fi:FI}{fg:FGc}{p:FT}{f:FE}{δ:DE}{x:Xn}(h:Ch m fi fg p f δ=.ex x):False:=R.calm_never h
@[reducible] def dn_8(prog:Program)(w:World)(A:Around)(env:Env)(tg elt:Expr)(ifs:List Expr)(it zn:Value)(bad:AA)(fin more:Shared->Prop):Option Value->Shared->Prop
 |none=>fin
 |some v=>wpAny (model prog w) A (letOwnedTupleGo tg it v) (λ_=>wpAny (model prog w) A (assign tg env v) (λ_=>
   wpAny (model prog w) A (forIn ifs true λc r=>if r=true then do let ok<-isTrue c env (eval c env);pure (ForInStep.yield ok) else pure (ForInStep.yield r)) (λok=>
    if ok=true then wpAny (model prog w) A (eval elt env) (λx=>wpAny (model prog w) A (call (.builtin "list.append") [zn,x]) (λ_=>more) bad) bad else more) bad) bad) bad
def bv_0{prog:Program}{w:World}{A:Around}{R:Result->Shared->Prop}{s:Shared}{elt target iter:Expr}{ifs:List Expr}{scope:Scope}{it zn:Value}{env:Env}(I:Nat->Shared->Prop)
  (turn:∀n s,I n s->wpAny (model prog w) A (pyNext it) (dn_8 prog w A env target elt ifs it zn (notedBy (model prog w) A env λe=>R (.error e)) (R (.ok .next)) λs'=>∃m,m < n/\I m s') (notedBy (model prog w) A env λe=>R (.error e)) s)
  (n:Nat) (h:I n s):codeAny (model prog w) A (.compLoop (.ListComp elt [⟨target,iter,ifs,0⟩] scope pos) 0 it zn env) R s:=by
 refine codeAny_loop rfl I (λk t hk=>wpAny_noted (env:=env) (m:=compTurn (.ListComp elt [⟨target,iter,ifs,0⟩] scope pos) 0 it zn env) (compTurn_list .. ▸ ?_)) n h;refine A7 (R8 (A7 (Ay (turn k t hk) ?_)))
 rintro (_|v) t1 g1
 ·exact E7 g1
 refine A7 (Ay g1 λ_ t2 g2=>A7 (Ay g2 λ_ t3 g3=>A7 (Ay g3 ?_)))
 rintro (_|_) t4 g4
 ·exact E7 ⟨rfl,g4⟩
 ·exact A7 (A7 (Ay g4 λ_ t5 g5=>A7 (Ay g5 λ_ t6 g6=>E7 (E7 ⟨rfl,g6⟩))))
structure CompN(X:Cx)(scope:Scope)(cl:List (Str×Addr))(N':List Str):Prop where
 clos:closureFor scope X.env=pure cl
 cell:∀y∈scope.names,y.2≠ .cell
 kind:scope.kind=.function
 names:∀y∈scope.names,y.2=.local->scope.names.lookup y.1=some .local
 sub:∀x c,cl.lookup x=some c->X.env.cells.lookup x=some c
 has:∀x,((relabel scope X.env).names.lookup x=some .cell\/(relabel scope X.env).names.lookup x=some .free)->∃c,cl.lookup x=some c
 old:∀(i:Nat) (x:Str),N'[i]? =some x->i < X.N.length->Fg (relabel scope X.env) x->X.N[i]? =some x/\(X.env.scope.names.lookup x=some .cell\/X.env.scope.names.lookup x=some .free)/\(∃c,cl.lookup x=some c)/\((relabel scope X.env).names.lookup x=some .cell\/(relabel scope X.env).names.lookup x=some .free)
def Fm(cells:List (Str×Addr)):List (Str×NameKind)->List (Str×Addr)->List (Str×Addr)
 | [],zn=>zn
 |(x,k)::r,zn=>Fm cells r (if k=.free then(x,(cells.lookup x).getD 0)::zn else zn)
def ay_6{scope:Scope}{env:Env}(h:∀p∈scope.names,p.2=.free->∃c,env.cells.lookup p.1=some c):closureFor scope env=pure (Fm env.cells scope.names []):=by
 have all:∀(names:List (Str×NameKind)) (zn:List (Str×Addr)),(∀p∈names,p.2=.free->∃c,env.cells.lookup p.1=some c)->
   (forIn names zn λ(x:Str×NameKind) (r:List (Str×Addr))=>if(x.2 == .free)=true then do let a<-cellOf env x.1;pure (ForInStep.yield ((x.1,a)::r)) else pure (ForInStep.yield r):Sem (List (Str×Addr)))=pure (Fm env.cells names zn):=by
  intro names
  induction names with
  |nil=>intro zn _;rfl
  |cons p r ih=>
   intro zn hp;obtain⟨x,k⟩:=p;rw[List.forIn_cons]
   by_cases hk:k=.free
   ·subst hk;obtain⟨c,e⟩:=hp (x,.free) D5 rfl;have e1:cellOf env x=pure c:=by unfold cellOf;rw[show env.cells.lookup x=some c from e]
    simp only[N5,if_true,e1,pure_bind];rw[ih _ λq hq=>hp q (C7 _ hq)];show _=pure (Fm env.cells r (if NameKind.free=.free then(x,(env.cells.lookup x).getD 0)::zn else zn));rw[if_pos rfl,show env.cells.lookup x=some c from e];rfl
   ·have hb:(k ==NameKind.free)=false:=by simpa using hk
    simp only[hb,N6,T6,pure_bind];rw[ih _ λq hq=>hp q (C7 _ hq)];show _=pure (Fm env.cells r (if k=.free then(x,(env.cells.lookup x).getD 0)::zn else zn));rw[if_neg hk]
 unfold closureFor;have:=all scope.names [] h;simpa using this
theorem bl_8{cells:List (Str×Addr)}{q:Str×Addr}:∀{names:List (Str×NameKind)} {zn:List (Str×Addr)},q∈Fm cells names zn->q∈zn\/((q.1,NameKind.free)∈names/\q.2=(cells.lookup q.1).getD 0)
 | [],zn,h=> .inl h
 |(x,k)::r,zn,h=>by
  rcases bl_8 (names:=r) h with h|⟨h1,h2⟩
  ·split at h
   ·rename_i hk;rcases C6.mp h with rfl|h
    ·exact .inr ⟨by rw[hk];exact D5,rfl⟩
    ·exact .inl h
   ·exact .inl h
  ·exact .inr ⟨C7 _ h1,h2⟩
theorem bl_9{cells:List (Str×Addr)}{x:Str}:∀{names:List (Str×NameKind)} {zn:List (Str×Addr)},(zn.lookup x).isSome=true->((Fm cells names zn).lookup x).isSome=true
 | [],zn,h=>h
 |(y,k)::r,zn,h=>by
  refine bl_9 (names:=r) ?_
  split
  ·rw[E9]
   split
   ·rfl
   ·exact h
  ·exact h
theorem bm_0{cells:List (Str×Addr)}{x:Str}:∀{names:List (Str×NameKind)} {zn:List (Str×Addr)},(x,NameKind.free)∈names->((Fm cells names zn).lookup x).isSome=true
 |(y,k)::r,zn,h=>by
  rcases C6.mp h with h|h
  ·cases h;refine bl_9 (names:=r) ?_;rw[if_pos rfl,E9];simp
  ·exact bm_0 (names:=r) h
theorem t_1{env:Env}:∀(names:List (Str×NameKind)) (x:Str),
  (names.map λ(n,k)=>if(k ==NameKind.free && env.scope.kind == .function && env.kindOf n ==some .cell) then(n,NameKind.cell) else(n,k)).lookup x=(names.lookup x).map λk=>if(k ==NameKind.free && env.scope.kind == .function && env.kindOf x ==some .cell)=true then NameKind.cell else k
 | [],x=>rfl
 |(n,k)::r,x=>by
  have ih:=t_1 (env:=env) r x;show List.lookup x ((if(k ==NameKind.free && env.scope.kind == .function && env.kindOf n ==some .cell)=true then(n,NameKind.cell) else(n,k))::_)=_;cases hx:x ==n with
  |true=>
   have e:x=n:=eq_of_beq hx;subst e
   by_cases hc:(k ==NameKind.free && env.scope.kind == .function && env.kindOf x ==some .cell)=true
   ·rw[if_pos hc];simp only[E9,N5,L5];rw[if_pos hc]
   ·rw[if_neg hc];simp only[E9,N5,L5];rw[if_neg hc]
  |false=>
   by_cases hc:(k ==NameKind.free && env.scope.kind == .function && env.kindOf n ==some .cell)=true
   ·rw[if_pos hc];simp only[E9,hx];exact ih
   ·rw[if_neg hc];simp only[E9,hx];exact ih
def bz_6(inner outer:List (Str×NameKind))(N N':List Str):Bool:=
 (inner.all λp=>p.2 != .cell && (p.2 != .local || inner.lookup p.1 ==some .local) && (p.2 != .free || (outer.lookup p.1 ==some .cell || outer.lookup p.1 ==some .free))) &&
 (List.range N.length).all λi=>match N'[i]? with
  |some x=>(match inner.lookup x with
   |some .free=>N[i]? ==some x && (outer.lookup x ==some .cell || outer.lookup x ==some .free)
   |some .local=>false
   |some .cell=>false
   |_=>true)
  |none=>true
def at_5{scope:Scope}{N':List Str}(ok:X.Ok)(hk:scope.kind=.function)(hb:bz_6 scope.names X.env.scope.names X.N N'=true):CompN X scope (Fm X.env.cells scope.names []) N':=by
 unfold bz_6 at hb;rw[C8]at hb;obtain⟨h1,h2⟩:=hb;have h1:=F0.mp h1;have h2:=F0.mp h2;have fr:∀p∈scope.names,p.2=.free->∃c,X.env.cells.lookup p.1=some c:=λp hp hf=>by
  have z:=h1 p hp;simp only[hf,C8,T8,bne_iff_ne,M8]at z;exact ok.has p.1 (by
   rcases z.2 with z|z
   ·exact absurd rfl z
   ·exact z)
 have inn:∀x k,scope.names.lookup x=some k->(x,k)∈scope.names:=λx k e=>N3 e;have ay:∀p∈scope.names,p.2≠ .cell:=λp hp hc=>by
  have z:=h1 p hp;rw[hc]at z;simp at z
 have de:∀x,scope.names.lookup x=some .free->∃c,(Fm X.env.cells scope.names []).lookup x=some c:=λx e=>L8.mp (bm_0 (inn x _ e));have ff:∀x,((relabel scope X.env).names.lookup x=some .cell\/(relabel scope X.env).names.lookup x=some .free)->scope.names.lookup x=some .free:=λx h=>by
  unfold relabel at h;rw[t_1]at h;cases e:scope.names.lookup x with
  |none=>rw[e]at h;simp at h
  |some k=>
   rw[e]at h;have nc:=ay (x,k) (inn x k e);cases k with
   |free=>rfl
   |cell=>exact absurd rfl nc
   |«local»=>simp at h
   |globalExplicit=>simp at h
   |globalImplicit=>simp at h
 refine⟨ay_6 fr,ay,hk,λy hy hl=> ?_,λx c e=> ?_,λx h=>de x (ff x h),λi x e hi hv=> ?_⟩
 ·have z:=h1 y hy;simp only[hl,C8,T8,bne_iff_ne,M8]at z;rcases z.1.2 with z|z
  ·exact absurd rfl z
  ·exact z
 ·rcases bl_8 (N3 e) with z|⟨z1,z2⟩
  ·exact absurd z (by simp)
  ·obtain⟨c',e'⟩:=fr (x,.free) z1 rfl;have z2:c=(X.env.cells.lookup x).getD 0:=z2;have e':X.env.cells.lookup x=some c':=e';rw[e']at z2⊢;cases z2;rfl
 ·have z:=h2 i (K9.mpr hi);rw[e]at z;dsimp only at z;have look:scope.names.lookup x=some .free/\(((relabel scope X.env).names.lookup x=some .cell\/(relabel scope X.env).names.lookup x=some .free)):=by
   unfold Fg relabel at hv;unfold relabel;rw[t_1]at hv⊢;cases q:scope.names.lookup x with
   |none=>rw[q]at hv;simp at hv
   |some k=>
    rw[q]at hv z;cases k with
    |free=>
     refine⟨rfl, ?_⟩
     by_cases hc:(X.env.scope.kind == .function && X.env.kindOf x ==some .cell)=true
     ·left;simp[Bool.and_assoc,hc]
     ·right;simp[Bool.and_assoc,hc]
    |cell=>simp at z
    |«local»=>simp at z
    |globalExplicit=>simp at hv
    |globalImplicit=>simp at hv
  rw[look.1]at z;simp only[C8,T8,M8]at z;exact⟨z.1,z.2,de x look.1,look.2⟩
structure TurnZ(P:Program)(w:World)(K:Frag)(tg:Expr)(J:It)(fp:List Addr)(it:Addr)(tn:Nat->Heap->Prop)(B:Cx->Prop):Prop where
 obj:∀i h,tn i h->∀b∈fp,∃o,h.get? b=some o/\∀v,o.data≠ .cell v
 keep:∀i h h',tn i h->(∀b∈fp,∀o,h.get? b=some o->h'.get? b=some o)->tn i h'
 item:∀(X:Cx),X.prog=P->X.w=w->X.K=K->∀(i:Nat) (zd:AE) (s:Shared) (σ:Sg) (H:Hp) (E:AA),B X->Inv X zd σ H s->(∀b∈fp,Fc X zd H b)->tn i s.heap->J.go i H->
  wpAny (model P w) X.A (pyNext (.ref it)) (λr s1=>∃u,r=some u/\
   wpAny (model P w) X.A (letOwnedTupleGo tg (.ref it) u) (λ_ s2=>∃x H',Inv X zd σ H' s2/\RelV x u/\J.yld i H x H'/\tn (i + 1) s2.heap/\∀b∈fp,H' b=none) E s1) E s
 done:∀(X:Cx),X.prog=P->X.w=w->X.K=K->∀(i:Nat) (zd:AE) (s:Shared) (σ:Sg) (H:Hp) (E:AA),B X->Inv X zd σ H s->(∀b∈fp,Fc X zd H b)->tn i s.heap->J.stop i H->
  wpAny (model P w) X.A (pyNext (.ref it)) (λr s1=>r=none/\Inv X zd σ H s1) E s
 self:∀(A:Around) (i:Nat) (s:Shared) (Q:AA) (E:AA),tn i s.heap->Q (.ref it) s->wpAny (model P w) A (pyIter (.ref it)) Q E s
def z_0:Cx->Prop:=λX=>X.calm=true
def Turn.z{P:Program}{w:World}{tg:Expr}{J:It}{fp:List Addr}{it:Addr}{tn:Nat->Heap->Prop}(T:Turn P w K tg J fp it tn):TurnZ P w K tg J fp it tn z_0:=
 ⟨T.obj,T.keep,λX a b c i zd s σ H E hc=>T.item X a b c hc i zd s σ H E,λX a b c i zd s σ H E hc=>T.done X a b c hc i zd s σ H E,T.self⟩
def BX:Cx->Prop:=λX=>X.A.handled=none\/∃(x:Addr) (o:Obj) (u:HO) (us:Array Value),X.A.handled=some (.ref x)/\X.H₀ x=some (.frz o u)/\o.data=.fields us/\us[2]? =some .none
def BX.ne{zd:AE}{s:Shared}{σ:Sg}{a:Addr}(b:BX X)(I:Inv X zd σ H s)(n:H a=none):X.A.handled≠some (.ref a):=λz=>by
 rcases b with b|⟨x,o,u,us,e,h,_⟩
 ·rw[b]at z;cases z
 ·rw[e]at z;injection z with z;injection z with z;rw[<-z,I.base.frzs x o u h]at n;cases n
def PIZ(X:Cx)(B:Cx->Prop)(tg iter:Expr)(wi:TI):Prop:=
 ∀(zd:AE) (s:Shared) (σ:Sg) (H:Hp) (R:It->Hp->Prop),Inv X zd σ H s->wi σ H R->
  wpAny (model X.prog X.w) X.A (eval iter X.env) (λv s1=>wpAny (model X.prog X.w) X.A (pyIter v) (λitv s2=>∃(it:Addr) (fp:List Addr) (tn:Nat->Heap->Prop) (J:It) (H':Hp),itv=.ref it/\Inv X zd σ H' s2/\TurnZ X.prog X.w X.K tg J fp it tn B/\tn 0 s2.heap/\(∀b∈fp,Fc X zd H' b)/\R J H') X.xe s1) X.xe s
theorem PI.z{tg iter:Expr}{wi:TI}(h:PI X tg iter wi):PIZ X z_0 tg iter wi:=λzd s σ H R I q=>
 E4 (h zd s σ H R I q) (λv s1 h1=>E4 h1 (λitv s2 ⟨it,fp,tn,J,H',e,I2,T,r⟩=>⟨it,fp,tn,J,H',e,I2,Turn.z T,r⟩) λ_ _ z=>z) λ_ _ z=>z
def ch_2{elt iter tg:Expr}{ifs:List Expr}{scope:Scope}{N':List Str}{fi:FI}{fg:FGc}{p:FT}{f:FE}{m:Nat}(hx0:∀e s,¬X.xe e s){B:Cx->Prop}(hk:scope.kind=.function)(hb:bz_6 scope.names X.env.scope.names X.N N'=true)
  (hm:N'.length=X.N.length + m)
  (hin:∀C s0 H0 fp pn,GC (r_2 X scope (Fm X.env.cells scope.names []) N' C s0 H0 fp pn) Fy tg fg/\CTs (r_2 X scope (Fm X.env.cells scope.names []) N' C s0 H0 fp pn) Fy ifs p/\ED (r_2 X scope (Fm X.env.cells scope.names []) N' C s0 H0 fp pn) Fy elt f)
  {zd:AE} {s:Shared} {σ:Sg} {δ:DE} (I:Inv X zd σ H s) {Z:Hp->Hp->Prop} (hZ:∀G2 H2,Z G2 H2->Same G2 H2/\HasS X.K G2 σ δ) (hB:∀C s0 H0 fp pn,Inv X zd σ H0 s0->B (r_2 X scope (Fm X.env.cells scope.names []) N' C s0 H0 fp pn))
  (hit:wpAny (model X.prog X.w) X.A (eval iter X.env) (λxv s₁=>wpAny (model X.prog X.w) X.A (pyIter xv) (λitv s₂=>∃(it:Addr) (fp:List Addr) (tn:Nat->Heap->Prop) (J:It) (H2:Hp) (ds:List D) (G2:Hp),itv=.ref it/\Inv X zd σ H2 s₂/\TurnZ X.prog X.w X.K tg J fp it tn B/\tn 0 s₂.heap/\(∀b∈fp,Fc X zd H2 b)/\fi δ=.ok ds/\Z G2 H2/\ItD X.K G2 J ds) X.xe s₁) X.xe s)
  {RR:Value->Addr->Result->Shared->Prop}
  (o:match Ch m fi fg p f δ with| .ok _=>True| .ex x=>False| .no=>False)
  (hRR:∀(Da C:Addr) (s1:Shared) (G2 H2 G' H':Hp) (vs:List V) (rs:List D),Ch m fi fg p f δ=.ok (.ow (.lst rs))->Inv X zd σ H' s1->(∃m,s1.heap.Ns C m)->Fc X zd H' C->Z G2 H2->Step G2 H2 G' H'->H2 Da=none->H' Da=some (.lst vs)->G' Da=none->HasL X.K G' vs rs->RR (.ref Da) C (.ok .next) s1):
  wpAny (model X.prog X.w) X.A (eval iter X.env) (λx s₁=>wpAny (model X.prog X.w) X.A (pyIter x) (λit s₂=>wpAny (model X.prog X.w) X.A (newList []) (λzn s₃=>
   wpAny (model X.prog X.w) X.A (newFunctionEnv scope X.env.globals (Fm X.env.cells scope.names []) [] X.env.qual none .none (some X.env)) (λcenv s₄=>
    codeAny (model X.prog X.w) X.A (.compStart (.ListComp elt [⟨tg,iter,ifs,0⟩] scope pos) 0 it zn {cenv with scope:=relabel scope X.env}) (RR zn cenv.locals) s₄) X.xe s₃) X.xe s₂) X.xe s₁) X.xe s:=by
 have n:=at_5 I.ok hk hb;generalize hcle:Fm X.env.cells scope.names []=cl at n hin hB⊢;have cv:∀ds,fi δ=.ok ds->ds.length<=16777216/\(match Fv fg p f (δ ++ List.replicate m none) ds with| .ok rs=>Ch m fi fg p f δ=.ok (.ow (.lst rs))| .ex x=>False| .no=>False):=λds e=>by
  unfold Ch at o⊢;simp only[e,R.bind_ok]at o⊢
  by_cases hz:ds.length<=16777216
  ·refine⟨hz, ?_⟩;rw[if_pos hz]at o⊢;cases e2:Fv fg p f (δ ++ List.replicate m none) ds with
   |ok rs=>rfl
   |ex x=>rw[e2]at o;exact o
   |no=>rw[e2]at o;exact o
  ·rw[if_neg hz]at o;exact o.elim
 
 refine E4 hit (λxv s₁ h₁=>E4 h₁ (λitv s₂ h₂=> ?_) λ_ _ e=>(hx0 _ _ e).elim) λ_ _ e=>(hx0 _ _ e).elim;obtain⟨it,fp,tn,J,H2,ds,G2,rfl,I2,T,st2,f2,e2,hz2,itd⟩:=h₂;obtain⟨sg2,h0⟩:=hZ G2 H2 hz2;obtain⟨hz,o⟩:=cv ds e2
 
 have hfD:H2 s₂.heap.objs.size=none:=I2.hok.fresh (B5 _);refine Y8 (wpAny_newFunctionEnv n.cell (by intro y hy;simp at hy) (λh₁ hns₁ hsb₁=> ?_) n.kind);dsimp only at hns₁ hsb₁⊢;generalize hDa:s₂.heap.objs.size=Da at hfD;have hDn: @Eq Nat s₂.heap.objs.size Da:=hDa;have I3:Inv X zd σ (upd H2 Da (.lst [])) {s₂ with heap:=s₂.heap.push {cls:=.type "list",dict:=none,data:=.seq ([]:List Value).toArray}}:=by
  rw[<-hDa];exact I2.lnew (t':=s₂.toks) .nil (L0 _)
 generalize hH3:s₂.heap.push {cls:=.type "list",dict:=none,data:=.seq ([]:List Value).toArray}=hp3 at hns₁ hsb₁ I3⊢;have hC:hp3.objs.size=Da + 1:=by rw[<-hH3,L7,hDa]
 generalize hCe:hp3.objs.size=C at hns₁ hsb₁ hC;have hCn: @Eq Nat hp3.objs.size C:=hCe;have hC2: @Eq Nat C (Da + 1):=hC;have fh:∀b o,s₂.heap.get? b=some o->hp3.get? b=some o:=λb o e=>by rw[<-hH3];exact A4 _ e
 have up:∀b o,hp3.get? b=some o->h₁.get? b=some o:=λb o e=>hsb₁.extBut b o (C9 (show @LT.lt Nat _ b C by rw[<-hCn];exact A5 e)) (A4 _ e)
 
 have fpC:∀b∈fp,b < s₂.heap.objs.size:=λb hb=>by
  obtain⟨o,e,_⟩:=T.obj _ _ st2 b hb;exact A5 e
 have hcl:∀x c,cl.lookup x=some c->c < hp3.objs.size/\c∉fp/\(upd H2 Da (.lst [])) c=none:=λx c e=>by
  have e':=n.sub x c e;obtain⟨v,hv⟩:=I3.cell x c e';exact⟨hv.lt,λz=>(f2 c z).2.2.2.2.1 x c e' rfl,I3.freeC x c e'⟩
 let X':=r_2 X scope cl N' C {s₂ with heap:=hp3} (upd H2 Da (.lst [])) fp (X.pn ++ zd)
 have ok':X'.Ok:=by
  refine⟨I.ok.mod,n.kind,I.ok.glob,I.ok.blt,S8 hCe,λx y c h1 h2=>I.ok.inj x y c (n.sub x c h1) (n.sub y c h2),λx hx=>n.has x hx,λx c z=> ?_,I.ok.hd,I.ok.frames,.inl rfl,λb hb=>⟨?_,λx c e z=> ?_⟩,λb o e=> ?_, ?_,λb o e hb=> ?_,λb hb z=> ?_,I3.stack,I3.stkFree⟩
  ·exact absurd z A6
  ·exact C9 (C4 (fpC b hb) (show @LE.le Nat _ s₂.heap.objs.size C by omega))
  ·subst z;exact(hcl x c e).2.1 hb
  ·exact I3.bs b o e
  ·exact C5 I.ok.bsz I3.sz
  ·rcases(f2 b hb).2.2.2.1 with z|z
   ·exact I.ok.noex b o e z
   ·exact absurd (A5 (I.ok.bs b o e).1) (Nat.not_lt_of_le z)
  ·rcases C6.mp (I3.stkSub b z) with z|z
   ·exact(f2 b hb).2.1 z
   ·exact(f2 b hb).2.2.1 z
 have lenσ:σ.length=X.N.length:=I.len;have I4:Inv X' [] (σ ++ List.replicate m none) (upd H2 Da (.lst [])) {s₂ with heap:=h₁,toks:=s₂.toks + ([]:List (Str×Value)).length}:=by
  refine⟨ok',rfl,I2.bare,Un.kept up,⟨_,hns₁,λi x v e1 e2 e3=> ?_⟩,λx c e=> ?_, ?_,λx c e=>(hcl x c e).2.2,λp hp=> ?_,I3.hok.kept up, ?_⟩
  ·have hi:i < σ.length:=by
    by_cases hh:i < σ.length
    ·exact hh
    ·rw[G6 (),K3]at e2
     split at e2 <;> cases e2
   rw[D8 hi]at e2;obtain⟨n1,n2,⟨c,n3⟩,n4⟩:=n.old i x e1 () e3;obtain⟨mm,hnm,hl⟩:=I3.loc;obtain⟨u,r,l⟩:=hl i x v n1 e2 (.inr n2);refine⟨u,r,.inr ⟨n4,c,n3, ?_⟩⟩;have n3':=n.sub x c n3;rcases l with⟨k1,k2⟩|⟨k1,c',k2,k3⟩
   ·exfalso;have k1':X.env.scope.names.lookup x=some .local:=k1;rcases n2 with n2|n2
    ·rw[n2]at k1';cases k1'
    ·rw[n2]at k1';cases k1'
   ·rw[n3']at k2;cases k2;exact k3.keeps up
  ·obtain⟨v,hv⟩:=I3.cell x c (n.sub x c e);exact⟨v,hv.keeps up⟩
  ·show upd H2 Da (.lst []) C=none;exact I3.hok.fresh (by show hp3.objs.size<=C;omega)
  ·have hp':p∈X.pn ++ zd:=by
    have hp2:p∈(X.pn ++ zd) ++ []:=hp
    rwa[D4]at hp2
   obtain⟨z1,z2,z3,z4,z5⟩:=I3.pin p hp';refine⟨up _ _ z1,z2, ?_,λz=> ?_,z5⟩
   ·exact C9 (show @LT.lt Nat _ p.1 C by rw[<-hCn];exact A5 z1)
   ·rcases C6.mp (I3.stkSub p.1 z) with z|z
    ·exact z3 z
    ·exact z4 z
  ·rw[B8,K6,lenσ];exact hm.symm
 obtain⟨hgc,hct,hel⟩:=hin C {s₂ with heap:=hp3} (upd H2 Da (.lst [])) fp (X.pn ++ zd);have hS4:HasS X.K G2 (σ ++ List.replicate m none) (δ ++ List.replicate m none):=by
  refine⟨by rw[B8,B8,K6,K6,h0.len],λi d e=> ?_⟩
  by_cases hh:i < δ.length
  ·rw[D8 hh]at e;obtain⟨v,e1,r⟩:=h0.get i d e;exact⟨v,by rw[D8 (by rw[h0.len];exact hh)];exact e1,r⟩
  ·rw[G6 (),K3]at e
   split at e <;> cases e
 generalize hδ:δ ++ List.replicate m none=δ' at hS4 o;have stn:tn 0 h₁:=T.keep 0 _ _ st2 λb hb o e=>up b o (fh b o e);have fpn:∀b∈fp,(upd H2 Da (.lst [])) b=none:=λb hb=>by
  rw[Aq (C9 (show @LT.lt Nat _ b Da by rw[<-hDn];exact fpC b hb))];exact(f2 b hb).1
 have cf:∀{pl:AE} {H':Hp},pl= []->(∀b∈fp,H' b=none)->∀b∈fp,Fc X' pl H' b:=λ{pl H'} hpl hn b hb=>by
  subst hpl;refine⟨hn b hb, ?_,λz=> ?_,.inl hb,λx c e z=> ?_,λp hp z=> ?_⟩
  ·exact C9 (C4 (fpC b hb) (show @LE.le Nat _ s₂.heap.objs.size C by omega))
  ·rcases C6.mp (I3.stkSub b z) with z|z
   ·exact(f2 b hb).2.1 z
   ·exact(f2 b hb).2.2.1 z
  ·subst z;exact(hcl x c e).2.1 hb
  ·have hp':p∈X.pn ++ zd:=by
    have hp2:p∈(X.pn ++ zd) ++ []:=hp
    rwa[D4]at hp2
   exact(f2 b hb).2.2.2.2.2 p hp' z
 have loop:∀s4:Shared,Inv X' [] (σ ++ List.replicate m none) (upd H2 Da (.lst [])) s4->tn 0 s4.heap->codeAny (model X.prog X.w) X.A (.compLoop (.ListComp elt [⟨tg,iter,ifs,0⟩] scope pos) 0 (.ref it) (.ref Da) (compEnvC scope cl C X.env)) (RR (.ref Da) C) s4:=by
  intro s4 I4 tn4;refine bv_0 (λk s'=>∃i σ' H' G' vs rs,k=ds.length - i/\i<=ds.length/\Inv X' [] σ' H' s'/\tn i s'.heap/\(∀b∈fp,H' b=none)/\HasS X.K G' σ' δ'/\Step G2 H2 G' H'/\Same G2 G'/\H' Da=some (.lst vs)/\G' Da=none/\
   HasL X.K G' vs rs/\rs.length<=i/\(match Fv fg p f δ' (ds.drop i) with| .ok rs2=>Ch m fi fg p f δ=.ok (.ow (.lst (rs ++ rs2)))| .ex x=>False| .no=>False)) ?_ ds.length
   ⟨0,_,_,G2,[],[],by simp,L0 _,I4,tn4,fpn,hS4,Step.own sg2 hfD _,Same.refl _,Bj,sg2.free hfD,.nil,L0 _,by simpa using o⟩
  rintro k s' ⟨i,σ',H',G',vs,rs,rfl,hi,I',tni,fn',hS,st,sg,hD,gD,rl,hl,o'⟩
  obtain⟨i1,i2⟩:=itd G' H' sg st.gh i
  by_cases hlt:i < ds.length
  ·obtain⟨d,e1,e2⟩:=aa_2 hlt;obtain⟨go,yl⟩:=i1 d e1;refine Ay (T.item X' rfl rfl rfl i [] s' σ' H' _ (hB _ _ _ _ _ I3) I' (cf rfl fn') tni go) λr s1 ⟨u,hr,h1⟩=> ?_;subst hr;refine Ay h1 λ_ s5 ⟨x,H5,I5,r5,y5,st5,fr5⟩=> ?_;obtain⟨G5,ao,hx5⟩:=yl x H5 y5;have I5':=I5.pinned (cf rfl fr5) (T.obj _ _ st5);rw[e2]at o';have o1:match((fg d δ').bind λ δ1=>(p δ1).bind λb=>if b=true then(f δ1).bind λw=>(Fv fg p f δ' (ds.drop (i + 1))).bind λrs=> .ok (w.d::rs) else Fv fg p f δ' (ds.drop (i + 1))) with| .ok rs2=>Ch m fi fg p f δ=.ok (.ow (.lst (rs ++ rs2)))| .ex x=>False| .no=>False:=o'
   have hS5:HasS X.K G5 σ' δ':=hS.mono ao.gg;refine E4 (hgc _ s5 σ' H5 x u (λ σ6 H6=>∃δ1,fg d δ'=.ok δ1/\H6=H5/\HasS X.K G5 σ6 δ1/\HasS X.K G5 σ6 δ') I5' r5 ⟨G5,δ',d,ao.gh,hS5,hx5, ?_⟩) (λ_ s6 ⟨σ6,H6,I6,δ1,e6,eH,hS6,hS6'⟩=> ?_) λ_ _ z=>False.elim z
   ·cases e6:fg d δ' with
    |ok δ1=>exact λ σ6 h6 h6'=>⟨δ1,rfl,rfl,h6,h6'⟩
    |ex x=>rw[e6]at o1;exact o1
    |no=>rw[e6]at o1;exact o1
   subst eH;rw[e6]at o1;simp only[R.bind_ok]at o1;refine E4 (hct _ s6 σ6 H6 (λb H7=>∃G7,p δ1=.ok b/\Step G5 H6 G7 H7) I6 ⟨G5,δ1,ao.gh,hS6, ?_⟩) (λb s7 ⟨H7,I7,G7,e7,stp7⟩=> ?_) λ_ _ z=>False.elim z
   ·cases e7:p δ1 with
    |ok b=>exact λG7 H7 st7=>⟨G7,rfl,st7⟩
    |ex x=>rw[e7]at o1;exact o1
    |no=>rw[e7]at o1;exact o1
   rw[e7]at o1;simp only[R.bind_ok]at o1
   
   have gD7:G7 Da=none:=(ao.trans stp7).nw Da gD (by rw[hD];simp);have hD7:H7 Da=some (.lst vs):=(ao.trans stp7).hh _ _ hD;have bo:∀{σ9:Sg} {H9:Hp} {s9:Shared},Inv X' ([] ++ as_0 fp s5.heap) σ9 H9 s9->tn (i + 1) s9.heap/\∀b∈fp,H9 b=none:=λ{σ9 H9 s9} I9=>
    ⟨T.keep _ _ _ st5 λb hb o e=>(I9.pin (b,o) (B7 _ (B7 _ (x_1 hb e)))).1,λb hb=>by
     obtain⟨o,e,d⟩:=T.obj _ _ st5 b hb;exact(I9.pin (b,o) (B7 _ (B7 _ (x_1 hb e)))).2.1⟩
   have hSk:∀{G9:Hp},Same G7 G9->HasS X.K G9 σ6 δ':=λ{G9} sm=>hS6'.mono (stp7.gg.trans sm);cases b with
   |false=>
    rw[if_neg A6]at o1⊢;exact⟨ds.length - (i + 1),by omega,i + 1,σ6,H7,G7,vs,rs,rfl,hlt,I7.unpinned,(bo I7).1,(bo I7).2,hSk (Same.refl _),st.trans (ao.trans stp7),sg.trans (ao.gg.trans stp7.gg),hD7,gD7,rl.mono (ao.gg.trans stp7.gg),by omega,o1⟩
   |true=>
    rw[if_pos rfl]at o1⊢;refine E4 (hel _ s7 σ6 H7 (λv H8=>∃w G8,f δ1=.ok w/\Step G7 H7 G8 H8/\Has X.K G8 v w.d) I7 ⟨G7,δ1,stp7.gh,hS6.mono stp7.gg, ?_⟩) (λu8 s8 ⟨v8,H8,I8,r8,w8,G8,e8,stp8,hv8⟩=> ?_) λ_ _ z=>False.elim z
    ·cases e8:f δ1 with
     |ok w=>exact WP.intro λv G8 H8 st8 r8=>⟨w,G8,rfl,st8,r8⟩
     |ex x=>rw[e8]at o1;exact o1
     |no=>rw[e8]at o1;exact o1
    rw[e8]at o1;simp only[R.bind_ok]at o1;have gD8:G8 Da=none:=stp8.nw Da gD7 (by rw[hD7];simp);have hD8:H8 Da=some (.lst vs):=stp8.hh _ _ hD7;have rl8:HasL X.K G8 vs rs:=rl.mono (ao.gg.trans (stp7.gg.trans stp8.gg));refine E4 (aj_8 (X:=X') _ s8 σ6 H8 (.ref Da) [v8] (.ref Da) [u8] (λ_ H9=>H9=upd H8 Da (.lst (vs ++ [v8]))) I8 rfl (.cons r8 .nil) ⟨Da,vs,v8,rfl,rfl,hD8,by rw[rl.length,D6];omega,rfl⟩) (λ_ s9 ⟨_,H9,I9,_,e9⟩=> ?_) λ_ _ z=>False.elim z;subst e9;have stA:=st.trans (ao.trans (stp7.trans stp8));refine⟨ds.length - (i + 1),by omega,i + 1,σ6,_,G8,vs ++ [v8],rs ++ [w8.d],rfl,hlt,I9.unpinned,(bo I9).1,(bo I9).2,hSk stp8.gg,⟨λb o z=> ?_,λb o z=> ?_,stA.gg,stA.nw⟩,sg.trans (ao.gg.trans (stp7.gg.trans stp8.gg)),Bj,gD8,rl8.append (.cons hv8 .nil),by rw[B8,List.length_singleton];omega, ?_⟩
    ·rw[Aq (Ej z hfD)];exact stA.hh b o z
    ·rw[Aq (Ej z gD8)];exact stp8.gh b o z
    ·cases e10:Fv fg p f δ' (ds.drop (i + 1)) with
     |ok rs2=>
      rw[e10]at o1;simp only[R.bind_ok]at o1⊢;rw[N9];exact o1
     |ex x=>rw[e10]at o1;exact o1
     |no=>rw[e10]at o1;exact o1
  ·have e:ds.length=i:=by omega
   refine Ay (T.done X' rfl rfl rfl i [] s' σ' H' _ (hB _ _ _ _ _ I3) I' (cf rfl fn') tni (i2 e)) λr s1 ⟨hr,I1⟩=> ?_;subst hr;rw[U9 ()]at o';have o1:Ch m fi fg p f δ=.ok (.ow (.lst (rs ++ []))):=o';rw[D4]at o1;obtain⟨mm,hnm,_⟩:=I1.loc;have fw:Inv X zd σ H' s1:=I3.call' (s':=s1) (ch:=fp) I1.os I1.base I1.hok I1.bare λb hb=>by
    obtain⟨f0,f1',f2',f3,f4,f5⟩:=f2 b hb;exact⟨f3,f1',f4,f5⟩
   exact hRR Da C s1 G2 H2 G' H' vs rs o1 fw ⟨mm,hnm⟩ (I3.fpOk (by show hp3.objs.size<=C;omega) I1.free) hz2 st hfD hD gD rl
 exact codeAny_compStart_list (loop _ I4 stn) (T.self X.A 0 _ _ _ stn (loop _ I4 stn))
structure CompOk(X:Cx)(scope:Scope)(N':List Str)(m:Nat)(tg:Expr)(ifs:List Expr)(elt:Expr)(fg:FGc)(p:FT)(f:FE):Prop where
 hk:scope.kind=.function
 hb:bz_6 scope.names X.env.scope.names X.N N'=true
 hm:N'.length=X.N.length + m
 hin:∀C s0 H0 fp pn,GC (r_2 X scope (Fm X.env.cells scope.names []) N' C s0 H0 fp pn) Fy tg fg/\CTs (r_2 X scope (Fm X.env.cells scope.names []) N' C s0 H0 fp pn) Fy ifs p/\ED (r_2 X scope (Fm X.env.cells scope.names []) N' C s0 H0 fp pn) Fy elt f
def Fd(X:Cx)(B:Cx->Prop)(tg iter:Expr)(fi:FI):Prop:=
 ∀(zd:AE) (s:Shared) (σ:Sg) (G H:Hp) (δ:DE) (ds:List D),Inv X zd σ H s->Same G H->HasS X.K G σ δ->fi δ=.ok ds->∃Z:Hp->Hp->Prop,
  (∀G2 H2,Z G2 H2->Same G2 H2/\HasS X.K G2 σ δ)/\
  wpAny (model X.prog X.w) X.A (eval iter X.env) (λxv s₁=>wpAny (model X.prog X.w) X.A (pyIter xv) (λitv s₂=>∃(it:Addr) (fp:List Addr) (tn:Nat->Heap->Prop) (J:It) (H2 G2:Hp),itv=.ref it/\Inv X zd σ H2 s₂/\TurnZ X.prog X.w X.K tg J fp it tn B/\tn 0 s₂.heap/\(∀b∈fp,Fc X zd H2 b)/\Z G2 H2/\ItD X.K G2 J ds) X.xe s₁) X.xe s/\
  ∀(Da C:Addr) (s1:Shared) (G2 H2 G' H':Hp) (vs:List V) (rs:List D),Inv X zd σ H' s1->Fc X zd H' C->Z G2 H2->Step G2 H2 G' H'->H2 Da=none->H' Da=some (.lst vs)->G' Da=none->HasL X.K G' vs rs->
   ∃G' H',Inv X zd σ H' s1/\Fc X zd H' C/\Step G H G' H'/\H Da=none/\H' Da=some (.lst vs)/\G' Da=none/\HasL X.K G' vs rs
def cp_0{iter tg:Expr}{fi:FI}{B:Cx->Prop}(hi:PIZ X B tg iter (tI X.K Fy fi)):Fd X B tg iter fi:=λzd s σ G H δ ds I g0 h0 ed=>by
 refine⟨Step G H,λG2 H2 z=>⟨z.gh,h0.mono z.gg⟩,E4 (hi zd s σ H (λJ H2=>∃G2,Step G H G2 H2/\ItD X.K G2 J ds) I ⟨G,δ,g0,h0, ?_⟩) (λxv s₁ h₁=>E4 h₁ (λitv s₂ h₂=> ?_) λ_ _ e=>e) (λ_ _ e=>e),λDa C s1 G2 H2 G' H' vs rs Io fc z st h1 h2 h3 rl=>⟨G',H',Io,fc,z.trans st,z.hh.free h1,h2,h3,rl⟩⟩
 ·rw[ed];exact λJ G2 H2 st it=>⟨G2,st,it⟩
 ·obtain⟨it,fp,tn,J,H2,rfl,I2,T,st2,f2,G2,stp,itd⟩:=h₂;exact⟨it,fp,tn,J,H2,G2,rfl,I2,T,st2,f2,stp,itd⟩
def srcL{iter tg:Expr}{fi:FI}(hi:ID X Fy tg iter fi):Fd X z_0 tg iter fi:=cp_0 (PI.z hi)
section
variable{elt iter tg:Expr}{ifs:List Expr}{scope:Scope}{N':List Str}{fi:FI}{fg:FGc}{p:FT}{f:FE}{m:Nat}
def at_7(hx0:∀e s,¬X.xe e s){B:Cx->Prop}(src:Fd X B tg iter fi)(ho:CompOk X scope N' m tg ifs elt fg p f)
  {zd:AE} {s:Shared} {σ:Sg} {G H:Hp} {δ:DE} (I:Inv X zd σ H s) (g0:Same G H) (h0:HasS X.K G σ δ) (hB:∀C s0 H0 fp pn,Inv X zd σ H0 s0->B (r_2 X scope (Fm X.env.cells scope.names []) N' C s0 H0 fp pn)) {RR:Value->Addr->Result->Shared->Prop}
  (o:match Ch m fi fg p f δ with| .ok _=>True| .ex x=>False| .no=>False)
  (hRR:∀(Da C:Addr) (s1:Shared) (G' H':Hp) (vs:List V) (rs:List D),Ch m fi fg p f δ=.ok (.ow (.lst rs))->Inv X zd σ H' s1->(∃m,s1.heap.Ns C m)->Fc X zd H' C->Step G H G' H'->H Da=none->H' Da=some (.lst vs)->G' Da=none->HasL X.K G' vs rs->RR (.ref Da) C (.ok .next) s1):
  wpAny (model X.prog X.w) X.A (eval iter X.env) (λx s₁=>wpAny (model X.prog X.w) X.A (pyIter x) (λit s₂=>wpAny (model X.prog X.w) X.A (newList []) (λzn s₃=>
   wpAny (model X.prog X.w) X.A (newFunctionEnv scope X.env.globals (Fm X.env.cells scope.names []) [] X.env.qual none .none (some X.env)) (λcenv s₄=>
    codeAny (model X.prog X.w) X.A (.compStart (.ListComp elt [⟨tg,iter,ifs,0⟩] scope pos) 0 it zn {cenv with scope:=relabel scope X.env}) (RR zn cenv.locals) s₄) X.xe s₃) X.xe s₂) X.xe s₁) X.xe s:=by
 obtain⟨ds,ed⟩:∃ds,fi δ=.ok ds:=by
  unfold Ch at o;cases e:fi δ with
  |ok ds=>exact⟨ds,rfl⟩
  |ex x=>rw[e]at o;exact o.elim
  |no=>rw[e]at o;exact o.elim
 obtain⟨Z,z1,z2,z3⟩:=src zd s σ G H δ ds I g0 h0 ed;refine ch_2 hx0 (B:=B) ho.hk ho.hb ho.hm ho.hin I (Z:=Z) z1 hB (E4 z2 (λ_ _ h=>E4 h (λ_ _ ⟨it,fp,tn,J,H2,G2,a,b,c,d,e,z,i⟩=>⟨it,fp,tn,J,H2,ds,G2,a,b,c,d,e,ed,z,i⟩) λ_ _ e=>e) λ_ _ e=>e) o λDa C s1 G2 H2 G' H' vs rs e Io hm' fc z st h1 h2 h3 rl=> ?_;obtain⟨G'',H'',x1,x2,x3,x4,x5,x6,x7⟩:=z3 Da C s1 G2 H2 G' H' vs rs Io fc z st h1 h2 h3 rl;exact hRR Da C s1 G'' H'' vs rs e x1 hm' x2 x3 x4 x5 x6 x7
def ch_3(hx0:∀e s,¬X.xe e s){B:Cx->Prop}(hB:∀zd σ C s0 H0 fp pn,Inv X zd σ H0 s0->B (r_2 X scope (Fm X.env.cells scope.names []) N' C s0 H0 fp pn))(src:Fd X B tg iter fi)(ho:CompOk X scope N' m tg ifs elt fg p f)
  (hs:∀x,foldedSetIterable iter X.env x=pure x:=by intro _;rfl):ED X Fy (.ListComp elt [⟨tg,iter,ifs,0⟩] scope pos) (Ch m fi fg p f):=by
 intro zd s σ H Q I q;obtain⟨G,δ,g0,h0,o⟩:=q;rw[eval_ListComp];have n:=at_5 I.ok ho.hk ho.hb;refine Z4 (use:=none) rfl hs n.clos n.kind n.names (at_7 (RR:=λzn C=>compPost (model X.prog X.w) X.A X.xe none (EP X zd σ Q) zn C) hx0 src ho I g0 h0 (hB _ _) ?_ λDa C s1 G' H' vs rs e Io hm' fc st h1 h2 h3 rl=> ?_)
 ·cases e:Ch m fi fg p f δ with
  |ok w=>trivial
  |ex x=>rw[e]at o;exact o
  |no=>rw[e]at o;exact o
 ·rw[e]at o;obtain⟨mm,hnm⟩:=hm';obtain⟨c0,c1,c2,c3,c4,c5⟩:=fc;exact⟨mm,hnm,λh' sb=>⟨.ref Da,H',Io.turned (t':=s1.toks) (λb ob hb e=>(sb.2 b hb).trans e) c0 c1 c3 c4 c5,rfl,o (.ref Da) (λb=>b=Da) G' H' st (λa e=>by subst e;exact⟨h1,h3,by rw[h2];simp⟩) (.list h2 rfl rl)⟩⟩
def x_7(hc:X.calm=true)(src:Fd X.nox z_0 tg iter fi)(ho:CompOk X scope N' m tg ifs elt fg p f)
  (hs:∀x,foldedSetIterable iter X.env x=pure x:=by intro _;rfl):ED X EX (.ListComp elt [⟨tg,iter,ifs,0⟩] scope pos) (Ch m fi fg p f):=
 PE.imp (PE.nox (ch_3 (X:=X.nox) (λ_ _ z=>z) (B:=z_0) (λ_ _ _ _ _ _ _ _=>hc) src ⟨ho.hk,ho.hb,ho.hm,ho.hin⟩ hs)) λ σ H Q ⟨G,δ,g0,h0,o⟩=>by
  refine⟨G,δ,g0,h0, ?_⟩;cases e:Ch m fi fg p f δ with
  |ok w=>rw[e]at o;exact o
  |ex x=>exact(bl_7 e).elim
  |no=>rw[e]at o;exact o
end
theorem PS.nox{st:Stmt}{t:TS}(h:PS X.nox st t):PS X st t:=λzd s σ H D I hw=>
 E4 (h zd s σ H D (I.wish _) hw) (λ_ _ q=>q.unwish) λ_ _ z=>False.elim z
def db_6{i:Nat}{js:List Nat}{f:FE}(h:∀δ x,f δ≠ .ex x){Δ Δ':SE}{x:Xn}(e:Al i js f Δ=.ex x Δ'):False:=by
 unfold Al at e;have hp:∀Δ2,Dy i Δ2 (f (At Δ2))=.ex x Δ'->False:=λ Δ2 e2=>by
  unfold Dy at e2;cases q:f (At Δ2) with
  |ok w=>rw[q]at e2;cases w <;> cases e2
  |ex y=>exact h _ _ q
  |no=>rw[q]at e2;cases e2
 cases q:f (At Δ) with
 |ok w=>rw[q]at e;cases w <;> cases e
 |ex y=>exact h _ _ q
 |no=>
  rw[q]at e;cases q2:f (Ba Δ) with
  |ok w=>
   simp only[q2]at e
   split at e
   ·cases e
   ·exact hp _ e
  |ex y=>exact h _ _ q2
  |no=>simp only[q2]at e;cases e
def bm_1{elt iter tg:Expr}{ifs:List Expr}{scope:Scope}{N':List Str}{fi:FI}{fg:FGc}{p:FT}{f:FE}{m i:Nat}{y:Str}{py az:Pos}(hx0:∀e s,¬X.xe e s)(hc:X.calm=true)(src:Fd X z_0 tg iter fi)(ho:CompOk X scope N' m tg ifs elt fg p f)
  (hN:X.N.Nodup) (hy:X.N[i]? =some y) (hx:Ep X.env.scope y) (hf:X.fn y=true\/X.env.scope.names.lookup y=some .local)
  (hsw:swapsWith (.ListComp elt [⟨tg,iter,ifs,0⟩] scope pos) (some (.Name y py)) az.line X.env=pure true)
  (hs:∀x,foldedSetIterable iter X.env x=pure x):PS X (.Assign [.Name y py] (.ListComp elt [⟨tg,iter,ifs,0⟩] scope pos) az) (tAsg (tD X.K Fy (Ch m fi fg p f)) (ba_1 i)):=by
 intro zd s σ H D I q;obtain⟨G,δ,g0,h0,o⟩:=q;have n:=at_5 I.ok ho.hk ho.hb;rw[exec_Assign_Name_used _ _ _ _ hsw];refine A7 (R8 (A7 ?_));show wpAny _ X.A (do let _<-comprehension (.ListComp elt [⟨tg,iter,ifs,0⟩] scope pos) scope X.env _ (newList []) false (eval iter X.env) (some (assign (.Name y py) X.env))) _ _ s;refine A7 (E4 (Z4 (use:=some (assign (.Name y py) X.env)) (Q:=λ_ s'=>SP X zd D .next s') rfl hs n.clos n.kind n.names
  (at_7 (RR:=λzn C=>compPost (model X.prog X.w) X.A X.xe (some (assign (.Name y py) X.env)) (λ_ s'=>SP X zd D .next s') zn C) hx0 src ho I g0 h0 (λ_ _ _ _ _ _=>hc) ?_ λDa C s1 G' H' vs rs e Io hm' fc st h1 h2 h3 rl=> ?_)) (λ_ s' hq=>E7 (E7 hq)) λ_ _ e=>e)
 ·cases e:Ch m fi fg p f δ with
  |ok w=>trivial
  |ex x=>rw[e]at o;exact o
  |no=>rw[e]at o;exact o
 ·rw[e]at o;obtain⟨mm,hnm⟩:=hm';obtain⟨c0,c1,c2,c3,c4,c5⟩:=fc;show wpAny _ X.A (assign (.Name y py) X.env (.ref Da)) _ _ _;refine wpAny_assign_Name (ba_0 Io hN hy hx (v:=.ref Da) rfl (λs2 I2 ⟨a,sb,ha⟩=> ?_) hf);have hCa:C≠a:=by
   rcases ha with rfl|ha
   ·exact c1
   ·exact λz=>c4 y a ha z.symm
  refine⟨mm,hnm.sameBut sb hCa,λh' sb'=>⟨_,H',I2.turned (t':=s2.toks) (λb ob hb e=>(sb'.2 b hb).trans e) c0 c1 c3 c4 c5, ?_⟩⟩;exact o (.ref Da) (λb=>b=Da) G' H' st (λa e=>by subst e;exact⟨h1,h3,by rw[h2];simp⟩) (.list h2 rfl rl)
def bz_7(js:List Nat){elt iter tg:Expr}{ifs:List Expr}{scope:Scope}{N':List Str}{fi:FI}{fg:FGc}{p:FT}{f:FE}{m i:Nat}{y:Str}{py az:Pos}(hc:X.calm=true)(src:Fd X.nox z_0 tg iter fi)(ho:CompOk X scope N' m tg ifs elt fg p f)
  (hN:X.N.Nodup) (hy:X.N[i]? =some y:=by rfl) (hx:Ep X.env.scope y:=by trivial) (hf:X.fn y=true\/X.env.scope.names.lookup y=some .local:=by trivial)
  (hsw:swapsWith (.ListComp elt [⟨tg,iter,ifs,0⟩] scope pos) (some (.Name y py)) az.line X.env=pure true:=by rfl)
  (hs:∀x,foldedSetIterable iter X.env x=pure x:=by intro _;rfl):SD X EX (.Assign [.Name y py] (.ListComp elt [⟨tg,iter,ifs,0⟩] scope pos) az) (Al i js (Ch m fi fg p f)):=
 PS.imp (PS.nox (bm_1 (X:=X.nox) (λ_ _ z=>z) hc src ⟨ho.hk,ho.hb,ho.hm,ho.hin⟩ hN hy hx hf hsw hs)) λD σ H ⟨H0,G0,G,Δ,O,E,q⟩=>by
  refine bl_6 (EX:=Fy) (js:=js) ⟨H0,G0,G,Δ,O,E, ?_⟩;cases e:Al i js (Ch m fi fg p f) Δ with
  |ex x Δ'=>exact(db_6 (λ_ _ z=>bl_7 z) e).elim
  |_=>rw[e]at q;exact q
end
def ak_7:bootBuiltins "bool" =some (.type "bool"):=by decide +kernel
def p_2{k:Nat}{scope:Scope}{cl:List (Str×Addr)}{N':List Str}{C:Addr}{s0:Shared}{H0:Hp}{fp:List Addr}{pn:AE}{c:Bool}(h:RoomC c k (Cx.A X)):RoomC c k (Cx.A (r_2 X scope cl N' C s0 H0 fp pn)):=h
def ak_8{scope:Scope}{cl:List (Str×Addr)}{N':List Str}{C:Addr}{s0:Shared}{H0:Hp}{fp:List Addr}{pn:AE}(h:Cx.calm X=true):Cx.calm (r_2 X scope cl N' C s0 H0 fp pn)=true:=h
section
variable{X:Cx}{EX:Au}{a b e:Expr}{es:List Expr}{f g:FE}{fa:FA}{pos p2:Pos}
abbrev FO:=DE->R (Option Int)
def oNone:FO:=λ_=> .ok none
def intPart:D->R (Option Int)
 | .int i=> .ok (some i)
 |_=> .no
def oSome(f:FE):FO:=λ δ=>(f δ).bind λw=>intPart w.d
def cutL{α:Type}(xs:List α)(lo hi:Option Int):List α:=(xs.drop (HT.sIx xs.length 0 lo)).take (HT.sIx xs.length xs.length hi - HT.sIx xs.length 0 lo)
def dn_9:D->Option Int->Option Int->R W
 | .lst ds,lo,hi=> .ok (.ow (.lst (cutL ds lo hi)))
 | .str x,lo,hi=>if x.length<=16777216 then .ok (.sh (.str (Txt.slice x lo hi))) else .no
 |_,_,_=> .no
def eSlice(f:FE)(lo hi:FO):FE:=λ δ=>(f δ).bind λw=>(lo δ).bind λl=>(hi δ).bind λu=>dn_9 w.d l u
def tyD(T:String):D->Bool
 | .str _=>T == "str"
 | .int _=>T == "int"
 | .lst _=>T == "list"
 |_=>false
def du_7{G H:Hp}{T:String}{d:D}(g:Same G H)(r:Has K G v d)(h:tyD T d=true):tyV K T v H:=by
 cases r with
 |str x=>exact eq_of_beq h
 |int i=>exact eq_of_beq h
 |lst hq r=>exact .inl ⟨eq_of_beq h,_,g.seq hq⟩
 |_=>cases h
def rDm(K:Frag)(fn:D->AF):V->List V->Hp->VK->Prop:=λx vs H Q=>∃(EX:EXT) (G:Hp) (d:D) (ds:List D),Same G H/\Has K G x d/\HasL K G vs ds/\Out K EX G H (fn d ds) Q
abbrev MtD(X:Cx)(id:String)(fn:D->AF):Prop:=MtR X id (rDm X.K fn)
def eMeth(T:String)(fn:D->AF)(f:FE)(fa:FA):FE:=λ δ=>(f δ).bind λw=>if tyD T w.d=true then(fa δ).bind λds=>fn w.d ds else .no
variable{o:Expr}{name:Str}{zg zf:Pos}{T id:String}{fn:D->AF}
def bz_8(pa:PlainAttrs T)(slot:Slot T name id)(hty:typeOf (.builtin id)=pure (.type "method_descriptor"))(hm:MtD X id fn)(ho:ED X EX o f)(ha:AD X EX (e::es) fa)
  (ae:attributeBase o name X.env (eval o X.env)=eval o X.env:=by rfl)
  (bb:((backTo zf (starEach (e::es) X.env)).all (λx=> !x.1) && (backToKw zf (keywordEach [] X.env)).all (λx=>x.1.isSome)
   && decide ((e::es).length + ([]:List Keyword).length + (if([]:List Keyword).isEmpty then 0 else 1) < 30))=true:=by rfl)
  (af:(zg.endLine ==zf.line)=true:=by rfl) (hs:starEach (e::es) X.env=(false,eval e X.env)::starEach es X.env:=by rfl) (ag:(backTo zf (starEach es X.env)).any (·.1)=false:=by rfl):
  ED X EX (.Call (.Attribute o name zg) (e::es) [] zf) (eMeth T fn f fa):=
 PE.imp (by_7 pa slot hty hm ho ha ae bb af hs ag) λ σ H Q ⟨G,δ,g0,s0,o⟩=>tD.seq g0 s0 o λw v G1 H1 _ st1 r1 o1=>by
  split at o1
  ·rename_i ht;exact⟨du_7 st1.gh r1 ht,tDa.seq st1.gh (s0.mono st1.gg) o1 λds vs G2 H2 _ st2 r2 o2=>⟨_,G2,w.d,ds,st2.gh,r1.mono st2.gg,r2,o2⟩⟩
  ·exact o1.elim
def eMeth0(T:String)(fn:D->AF)(f:FE):FE:=λ δ=>(f δ).bind λw=>if tyD T w.d=true then fn w.d [] else .no
def bz_9{G:Hp}{d:D}{vs:List V}{ds:List D}(r:Has K G v d)(rl:HasL K G vs ds){P:Prop}(h:∀x y,v=.str x->d=.str x->vs= [.str y]->ds= [.str y]->P)(n:(∀x y,¬(d=.str x/\ds= [.str y]))->P):P:=by
 by_cases e:∃x y,d=.str x/\ds= [.str y]
 ·obtain⟨x,y,rfl,rfl⟩:=e;cases r;cases rl with
  |cons a t=>cases a;cases t;exact h x y rfl rfl rfl rfl
 ·exact n λx y z=>e ⟨x,y,z⟩
def bm_2:D->List D->R W
 | .str x,[.str y]=> .ok (.sh (.int (Txt.find x y)))
 |_,_=> .no
def cp_1:MtD X "str.find" bm_2:=by
 intro zd s σ H x vs v us Q I rx rv h;obtain⟨EX,G,d,ds,g,r,rl,o⟩:=h;refine bz_9 r rl (λx y e1 e2 e3 e4=> ?_) λn=> ?_
 ·subst e1 e2 e3 e4;obtain⟨t,rfl⟩:=rx;obtain⟨u,rfl,t',rfl⟩:=rv.one;exact SC.find ⟨.int _,H,I.tok _,⟨_,rfl⟩,Cv o g (.int _)⟩
 ·have e:bm_2 d ds=.no:=by
   unfold bm_2
   split
   ·rename_i x y;exact absurd ⟨rfl,rfl⟩ (n x y)
   ·rfl
  rw[e]at o;exact o.elim
def Cu(T:String):D->Option Bool
 | .non=>some false
 | .bl _=>some (T == "bool" || T == "int")
 | .int _=>some (T == "int")
 | .str _=>some (T == "str")
 | .lst _=>some (T == "list")
 | .tup _=>some (T == "tuple")
 |_=>none
def eIs(T:String)(f:FE):FE:=λ δ=>(f δ).bind λw=>match Cu T w.d with
 |some k=> .ok (.sh (.bl k))
 |none=> .no
structure KitT(K:Frag)(T:String):Prop where
 non:kitOne K (.type "NoneType") (.type T)=some false
 bl:kitOne K (.type "bool") (.type T)=some (T == "bool" || T == "int")
 int:kitOne K (.type "int") (.type T)=some (T == "int")
 str:kitOne K (.type "str") (.type T)=some (T == "str")
 lst:kitOne K (.type "list") (.type T)=some (T == "list")
 tup:kitOne K (.type "tuple") (.type T)=some (T == "tuple")
def cp_2{T:String}(k:KitT X.K T):CallR X (.builtin "isinstance") (λxs H Q=>∃G x d b,xs= [x,.ty T]/\Same G H/\Has X.K G x d/\Cu T d=some b/\Q (.bl b) H):=by
 intro zd s σ H xs us Q I rv h;obtain⟨G,x,d,b,rfl,g,r,e,q⟩:=h;obtain⟨u,u2,rfl,r1,r2⟩:=rv.two;cases r2;have fin:∀tk,EP X zd σ Q (.bool b) {s with toks:=tk}:=λtk=>⟨.bl b,H,I.tok _,rfl,q⟩;cases r with
 |non=>cases r1;exact kia_one kitx_none I.kIn True.intro (k.non.trans e) (λz=>nomatch z) fin
 |bl y=>cases r1;exact kia_one kitx_bool I.kIn True.intro (k.bl.trans e) (λz=>nomatch z) fin
 |int i=>obtain⟨t,rfl⟩:=r1;exact kia_one kitx_int I.kIn True.intro (k.int.trans e) (λz=>nomatch z) fin
 |str y=>obtain⟨t,rfl⟩:=r1;exact kia_one kitx_str I.kIn True.intro (k.str.trans e) (λz=>nomatch z) fin
 |lst h r=>
  cases r1;obtain⟨its,_,⟨ob,n,e1,c,_,_⟩,_⟩:=I.list (g.seq h);exact kia_one kitx_list I.kIn ⟨ob,e1,c⟩ (k.lst.trans e) (λz=>nomatch z) fin
 |tup h r=>
  cases r1;obtain⟨its,_,⟨ob,e1,c,_⟩,_⟩:=I.tuple (Same.tupS g h);exact kia_one kitx_tuple I.kIn ⟨ob,e1,c⟩ (k.tup.trans e) (λz=>nomatch z) fin
 |exn0 _ _=>cases e
 |exn1 _ _ _ _ _=>cases e
 |dic _ _ _=>cases e
 |obj _ _ _ _=>cases e
def ae_8{Tn:Str}{T:String}{pp p3:Pos}(k:KitT X.K T)(ha:ED X EX a f)(hm:X.mg "isinstance" =none)(hmT:X.mg Tn=none)(hvT:bootBuiltins Tn=some (.type T))(hg:Gl X "isinstance" :=by rfl)(hgT:Gl X Tn:=by rfl)
  (hn:Tn≠ "__name__" :=by decide) (hdT:AG Tn:=by decide)
  (he:starEach [a,.Name Tn p3] X.env=(false,eval a X.env)::starEach [.Name Tn p3] X.env:=by rfl) (hpl:(backTo pos (starEach [.Name Tn p3] X.env)).any (·.1)=false:=by rfl)
  (hs:starEach [.Name Tn p3] X.env=(false,eval (.Name Tn p3) X.env)::starEach [] X.env:=by rfl):ED X EX (.Call (.Name "isinstance" pp) [a,.Name Tn p3] [] pos) (eIs T f):=
 PE.imp (bk_5 (cp_2 k) hg hm boot_isinstance (i_7 ha (i_7 (cy_5 (v:=.ty T) hgT hmT hvT rfl hn hdT) r_0 hs) he) ⋯ ⋯ he hpl) λ σ H Q ⟨G,δ,g0,s0,o⟩=>tD.seq g0 s0 o λw v G1 H1 _ st1 r1 o1=>by
  split at o1
  ·rename_i b e;exact⟨G1,v,w.d,b,rfl,st1.gh,r1,e,Cv o1 st1.gh (.bl b)⟩
  ·exact o1.elim
end
def at_8(K:Frag):Sp:=λvs H Q _=>∃(a:Addr) (ns:List Int),vs= [.ref a]/\SqL K H a (ns.map V.int)/\ns.length<=63/\∀H',Q (.bl true) H'
theorem ca_0{G:Hp}:∀ns:List Int,HasL K G (ns.map V.int) (ns.map D.int)
 | []=> .nil
 |n::ns=> .cons (.int n) (ca_0 ns)
def do_0{P:Program}{w:World}{k:Nat}{f:Addr}{x:Str}{F:AF}(h:FnX P w K mg base true k f fd [x] (Ca K 1 F))
  (hF:∀ns:List Int,ns.length<=63->∃v,F [.lst (ns.map D.int)]=.ok v/\v.d=.bl true):FnOk P w K mg base CX0 k f fd [x] (at_8 K):=by
 have hs:∀vs H Q E,at_8 K vs H Q E->Ca K 1 F vs H Q λ_ _ _=>False:=λvs H Q E q=>by
  obtain⟨a,ns,rfl,hS,hl,q⟩:=q;obtain⟨v,e,ev⟩:=hF ns hl;refine⟨rfl,H,[.lst (ns.map D.int)],Same.refl _,.cons (.lst hS (ca_0 ns)) .nil, ?_⟩;rw[e];refine WP.intro λu G' H' st r=> ?_;rw[ev]at r;cases r;exact q H'
 refine⟨λvs H Q E q=>(hs vs H Q E q).1,λA outer s H args us vs Q E hr e0 hb hv q=>R3 (h.run A outer s H args us vs Q _ (RoomC.of hr) e0 hb hv (hs vs H Q E q)) λr s' hq=> ?_⟩;cases r with
 |error e=>
  obtain⟨a,C,dx,T,H',_,_,_,_,_,_,_,_,_,_,z⟩:=hq;exact z
 |ok fl=>cases fl <;> exact hq
def du_8{l:PySem.W.OpenLaw}{q:Program}{loose:List Str}{XP:(AB)->Heap->Prop}{YP:World->Heap->Prop}{d:DefRec}{K:Params->Frag}{x:Str}{k:Nat}(hn:l.most=some 63)(hdf:d.params.defaults= [])(hr:Room k callerA)
  (hY:∀(w:World) (h:Heap),YP w h->(K w.params).In h)
  (F:∀(w:World) (mg:AB) (fa:Addr) (h:Heap),(K w.params).In h->h.Ns mainGlobals mg->mg d.name=some (.ref fa)->
   ∃fd:FuncData,(∀(s:Shared) (u:Value),BindsTo s fd ⟨[u],[]⟩ [(x,u)])/\∀base:Heap,(K w.params).In base->base.Ns mainGlobals mg->FnOk l.prog w (K w.params) mg base CX0 k fa fd [x] (at_8 (K w.params))):
  PySem.W.WalkO q loose XP YP l.row.toRowW d [] (λf vs=>PySem.call f vs):=
 cz_8 (n:=63) (k:=k) (x:=x) (CX:=λ_=>CX0) (sp:=λw=>at_8 (K w.params)) hn ⋯ hdf hr hY F (λ_ _ a ns hl _ hS=>⟨a,ns,rfl,hS,hl,λ_=>rfl⟩) λ_ _ _ _ _ z=>z
def Inv.pair{zd:AE}{σ:Sg}{s:Shared}{e it:Addr}{h':Heap}{tk:Nat}{its:List Value}{vs:List V}(I:Inv X zd σ H s)(fe:Fc X zd H e)(fi:Fc X zd H it)
  (k:∀b o,b≠e->b≠it->s.heap.get? b=some o->h'.get? b=some o) (he:∃o,h'.get? e=some o) (hi:∃o,h'.get? it=some o) (ht:h'.get? s.heap.objs.size=some {cls:=.type "tuple",data:=.seq its.toArray}) (rv:Vals vs its) (hz:vs.length<=sizeLine):
  Inv X zd σ (upd H s.heap.objs.size (.tup vs)) {s with heap:=h',toks:=tk}:=by
 have hn:H s.heap.objs.size=none:=I.hok.fresh (B5 _);obtain⟨e0,e1,e2,e3,e4,e5⟩:=fe;obtain⟨i0,i1,i2,i3,i4,i5⟩:=fi;have neH:∀b u,H b=some u->b≠e/\b≠it:=λb u q=>⟨λz=>(by rw[z,e0]at q;cases q),λz=>(by rw[z,i0]at q;cases q)⟩;have lt:∀b o,s.heap.get? b=some o->b≠s.heap.objs.size:=λb o q=>C9 (A5 q);refine I.step (g':=s.gens) (d':=s.drawn) (ch:=[e,it]) (λb hb=> ?_) (λb o _ _ hc q _=>k b o (λz=>hc (by simp[z])) (λz=>hc (by simp[z])) q)
  (λb o _ _ hc q _=>⟨o.slots,k b o (λz=>hc (by simp[z])) (λz=>hc (by simp[z])) q⟩) (λb o _ q n=>by rw[Aq (lt b o q)];exact n) (λb o hc q=>⟨o,k b o (λz=>hc (by simp[z])) (λz=>hc (by simp[z])) q⟩)
  (λb xs q=>by rw[Aq (Ej q hn)];exact q) (λb o u q=>by rw[Aq (Ej q hn)];exact q) (λb ps q=>⟨#[],by rw[Aq (Ej q hn),q];simp⟩) (λm hm=> ?_) (λb u q=> ?_) I.bare
 ·have hb':b=e\/b=it:=by simpa using hb
  rcases hb' with rfl|rfl
  ·exact⟨e3,e1,e4,e5⟩
  ·exact⟨i3,i1,i4,i5⟩
 ·obtain⟨o,es,ep,ho,r⟩:=hm;exact⟨o,es,ep,k _ o (Ne.symm e1) (Ne.symm i1) ho,r⟩
 ·by_cases z:b=s.heap.objs.size
  ·subst z;rw[Bj]at q;cases q;exact⟨hz,its,rv,⟨_,ht,rfl,0,rfl⟩⟩
  ·rw[Aq z]at q;refine(I.hok b u q).stay (λc v hc r=> ?_) (λc r=>by rw[Aq (Ej r hn)];exact r) λc xs r=>by rw[Aq (Ej r hn)];exact r
   rcases hc with rfl|hc
   ·exact k c v (neH c u q).1 (neH c u q).2 r
   ·exact k c v (neH c _ hc).1 (neH c _ hc).2 r
def Inv.turned2{zd:AE}{σ:Sg}{s:Shared}{e it:Addr}{h':Heap}{tk:Nat}(I:Inv X zd σ H s)(fe:Fc X zd H e)(fi:Fc X zd H it)
  (k:∀b o,b≠e->b≠it->s.heap.get? b=some o->h'.get? b=some o):Inv X zd σ H {s with heap:=h',toks:=tk}:=by
 obtain⟨e0,e1,e2,e3,e4,e5⟩:=fe;obtain⟨i0,i1,i2,i3,i4,i5⟩:=fi;have neH:∀b u,H b=some u->b≠e/\b≠it:=λb u q=>⟨λz=>(by rw[z,e0]at q;cases q),λz=>(by rw[z,i0]at q;cases q)⟩;refine I.step (g':=s.gens) (d':=s.drawn) (ch:=[e,it]) (λb hb=> ?_) (λb o _ _ hc q _=>k b o (λz=>hc (by simp[z])) (λz=>hc (by simp[z])) q)
  (λb o _ _ hc q _=>⟨o.slots,k b o (λz=>hc (by simp[z])) (λz=>hc (by simp[z])) q⟩) (λb o _ q n=>n) (λb o hc q=>⟨o,k b o (λz=>hc (by simp[z])) (λz=>hc (by simp[z])) q⟩)
  (λb xs q=>q) (λb o u q=>q) (λb ps q=>⟨#[],by rw[q];simp⟩) (λm hm=> ?_) (λb u q=> ?_) I.bare
 ·have hb':b=e\/b=it:=by simpa using hb
  rcases hb' with rfl|rfl
  ·exact⟨e3,e1,e4,e5⟩
  ·exact⟨i3,i1,i4,i5⟩
 ·obtain⟨o,es,ep,ho,r⟩:=hm;exact⟨o,es,ep,k _ o (Ne.symm e1) (Ne.symm i1) ho,r⟩
 ·refine(I.hok b u q).stay (λc v hc r=> ?_) (λc r=>r) λc xs r=>r;rcases hc with rfl|hc
  ·exact k c v (neH c u q).1 (neH c u q).2 r
  ·exact k c v (neH c _ hc).1 (neH c _ hc).2 r
def enL(K:Frag)(l:Addr):It:=
 ⟨λi H=>∃xs x,SqL K H l xs/\xs[i]? =some x,λi H v H'=>∃p,H p=none/\v=.ref p/\∀xs x,SqL K H l xs->xs[i]? =some x->H'=upd H p (.tup [.int (i:Int),x]),λi H=>∃xs,SqL K H l xs/\xs.length=i⟩
def enS(z:Str):It:=
 ⟨λi _=>i < z.cps.size,λi H v H'=>∃p c,H p=none/\v=.ref p/\z.cps[i]? =some c/\H'=upd H p (.tup [.int (i:Int),.str ⟨#[c]⟩]),λi _=>i=z.cps.size⟩
def cp_3{P:Program}{w:World}{elts:List Expr}{x1:Nat}(e it l:Addr)(hei:e≠it):Turn P w K (.Tuple elts x1 pos) (enL K l) [e,it] e (λi h=>(∃old,IsEnum h e it (i:Int) old)/\h.IsListIter it l i) where
 mem:=by simp
 obj:=λi h st b hb=>by
  have hb':b=e\/b=it:=by simpa using hb
  rcases hb' with rfl|rfl
  ·obtain⟨⟨old,q⟩,_⟩:=st;exact⟨_,q,λv z=>by cases z⟩
  ·obtain⟨_,⟨o,q,c,d⟩⟩:=st;exact⟨o,q,λv z=>by rw[d]at z;cases z⟩
 keep:=λi h h' st k=>by
  obtain⟨⟨old,q⟩,r⟩:=st;exact⟨⟨old,k e (by simp) _ q⟩,r.at λo z=>k it (by simp) o z⟩
 item:=by
  intro X hP hw hK hc i zd s σ H E I hf st hg;subst hP hw hK;obtain⟨xs,x,hq,hx⟩:=hg;obtain⟨its,rv,p,hz⟩:=I.list hq;obtain⟨u,hu,ru⟩:=rv.get hx;obtain⟨⟨old,he⟩,hit⟩:=st;have fe:=hf e (by simp);have fi:=hf it (by simp);have pl:=p.isList;have nle:l≠e:=λz=>by
   subst z;obtain⟨o,ho,hc',_⟩:=pl;rw[show s.heap.get? l=_ from he]at ho;cases ho;exact absurd hc' (by simp)
  have nli:l≠it:=λz=>by
   subst z;obtain⟨o,ho,hc',_⟩:=pl;obtain⟨o',ho',hc2,_⟩:=hit;rw[ho]at ho';cases ho';rw[hc']at hc2;exact absurd hc2 (by simp)
  have hlt:i < its.toArray.size:=by
   have:=(B6.mp hu).1;simpa using this
  refine Z9 (Draws.list (A:=X.A.in1) (I.ok.hd hc) it l nli its.toArray) he ⟨hit,pl⟩ hlt hei (by simp[hei,Ne.symm nle]) λy h' tk hy ho hst ck hsz kk=> ?_;have ey:y=u:=by
   have:its.toArray[i]? =some u:=by simpa using hu
   rw[this]at hy;exact(J7 hy).symm
  subst ey;refine⟨_,rfl,Y1 ho λh'' au sb=> ?_⟩;have ba:∃old,IsEnum h'' e it ((i + 1:Nat):Int) old:=⟨_,by
   have e1:((i + 1:Nat):Int)=(i:Int) + 1:=by omega
   rw[e1];exact au⟩
  refine⟨.ref s.heap.objs.size,upd H s.heap.objs.size (.tup [.int (i:Int),x]), ?_,rfl,⟨_,I.hok.fresh (B5 _),rfl,λys y' hy' ey'=> ?_⟩,⟨ba, ?_⟩,λb hb=> ?_⟩
  ·have ne:s.heap.objs.size≠e:=λz=>absurd (A5 he) (by rw[<-z];exact D7 _);refine Inv.pair (its:=[.int (i:Int) tk,y]) I fe fi (λb o h1 h2 q=>(sb.2 b h1).trans (kk b o h1 h2 q)) ⟨_,au⟩ ?_ ((sb.2 _ ne).trans ck) (.cons ⟨_,rfl⟩ (.cons ru .nil)) (by show 2<=sizeLine;decide);obtain⟨⟨o,q,_⟩,_⟩:=hst;exact⟨o,(sb.2 it (Ne.symm hei)).trans q⟩
  ·have:=I.list_inj hy' hq;subst this;rw[hx]at ey';cases ey';rfl
  ·exact hst.1.at λo z=>(sb.2 it (Ne.symm hei)).trans z
  ·have hb':b=e\/b=it:=by simpa using hb
   have hbl:b < s.heap.objs.size:=by
    rcases hb' with rfl|rfl
    ·exact A5 he
    ·obtain⟨o,q,_⟩:=hit;exact A5 q
   rw[Aq (C9 hbl)];exact(hf b hb).1
 done:=by
  intro X hP hw hK hc i zd s σ H E I hf st hg;subst hP hw hK;obtain⟨xs,hq,hx⟩:=hg;obtain⟨its,rv,p,hz⟩:=I.list hq;obtain⟨⟨old,he⟩,hit⟩:=st;have hl:=rv.length;have pl:=p.isList;have nli:l≠it:=λz=>by
   subst z;obtain⟨o,ho,hc',_⟩:=pl;obtain⟨o',ho',hc2,_⟩:=hit;rw[ho]at ho';cases ho';rw[hc']at hc2;exact absurd hc2 (by simp)
  have en:i=its.toArray.size:=by simp;omega
  refine ZA9 (Draws.list (A:=X.A.in1) (I.ok.hd hc) it l nli its.toArray) he (by rw[<-en];exact⟨hit,pl⟩) λh' eb=>⟨rfl, ?_⟩;exact Inv.turned2 (tk:=s.toks) I (hf e (by simp)) (hf it (by simp)) λb o h1 h2 q=>eb b o h2 q
 self:=λA i s Q E st h=>by
  obtain⟨⟨old,he⟩,_⟩:=st;exact V0 he h
def bb_5{prog:Program}{w:World}{A:Around}(hh:A.handled=none)(it:Addr)(x:Str)(t:Tok):
  Draws prog w A it [it] x.cps.size (λi v=>∃c u,x.cps[i]? =some c/\v=.str ⟨#[c]⟩ u) (λi h=>h.IsStrIter it (strIterType x) x t i):=by
 unfold strIterType;cases ha:x.cps.all (· < 128)
 ·exact Draws.strWide hh it x t
 ·exact Draws.strAscii hh it x t
def cp_4{P:Program}{w:World}{elts:List Expr}{x1:Nat}(e it:Addr)(z:Str)(t:Tok)(hei:e≠it):Turn P w K (.Tuple elts x1 pos) (enS z) [e,it] e (λi h=>(∃old,IsEnum h e it (i:Int) old)/\h.IsStrIter it (strIterType z) z t i) where
 mem:=by simp
 obj:=λi h st b hb=>by
  have hb':b=e\/b=it:=by simpa using hb
  rcases hb' with rfl|rfl
  ·obtain⟨⟨old,q⟩,_⟩:=st;exact⟨_,q,λv z=>by cases z⟩
  ·obtain⟨_,⟨o,q,c,d⟩⟩:=st;exact⟨o,q,λv z=>by rw[d]at z;cases z⟩
 keep:=λi h h' st k=>by
  obtain⟨⟨old,q⟩,⟨o,r,c⟩⟩:=st;exact⟨⟨old,k e (by simp) _ q⟩,⟨o,k it (by simp) o r,c⟩⟩
 item:=by
  intro X hP hw hK hc i zd s σ H E I hf st hg;subst hP hw hK;obtain⟨⟨old,he⟩,hit⟩:=st;have fe:=hf e (by simp);have fi:=hf it (by simp);refine Z9 (bb_5 (A:=X.A.in1) (I.ok.hd hc) it z t) he hit hg hei (by simp[hei]) λy h' tk hy ho hst ck hsz kk=> ?_;obtain⟨c,uc,hcx,rfl⟩:=hy;refine⟨_,rfl,Y1 ho λh'' au sb=> ?_⟩;have ba:∃old,IsEnum h'' e it ((i + 1:Nat):Int) old:=⟨_,by
   have e1:((i + 1:Nat):Int)=(i:Int) + 1:=by omega
   rw[e1];exact au⟩
  refine⟨.ref s.heap.objs.size,upd H s.heap.objs.size (.tup [.int (i:Int),.str ⟨#[c]⟩]), ?_,rfl,⟨_,c,I.hok.fresh (B5 _),rfl,hcx,rfl⟩,⟨ba, ?_⟩,λb hb=> ?_⟩
  ·have ne:s.heap.objs.size≠e:=λz=>absurd (A5 he) (by rw[<-z];exact D7 _);refine Inv.pair (its:=[.int (i:Int) tk,.str ⟨#[c]⟩ uc]) I fe fi (λb o h1 h2 q=>(sb.2 b h1).trans (kk b o h1 h2 q)) ⟨_,au⟩ ?_ ((sb.2 _ ne).trans ck) (.cons ⟨_,rfl⟩ (.cons ⟨_,rfl⟩ .nil)) (by show 2<=sizeLine;decide);obtain⟨o,q,_⟩:=hst;exact⟨o,(sb.2 it (Ne.symm hei)).trans q⟩
  ·obtain⟨o,q,r⟩:=hst;exact⟨o,(sb.2 it (Ne.symm hei)).trans q,r⟩
  ·have hb':b=e\/b=it:=by simpa using hb
   have hbl:b < s.heap.objs.size:=by
    rcases hb' with rfl|rfl
    ·exact A5 he
    ·obtain⟨o,q,_⟩:=hit;exact A5 q
   rw[Aq (C9 hbl)];exact(hf b hb).1
 done:=by
  intro X hP hw hK hc i zd s σ H E I hf st hg;subst hP hw hK;obtain⟨⟨old,he⟩,hit⟩:=st;have en:i=z.cps.size:=hg;refine ZA9 (bb_5 (A:=X.A.in1) (I.ok.hd hc) it z t) he (by rw[<-en];exact hit) λh' eb=>⟨rfl, ?_⟩;exact Inv.turned2 (tk:=s.toks) I (hf e (by simp)) (hf it (by simp)) λb o h1 h2 q=>eb b o h2 q
 self:=λA i s Q E st h=>by
  obtain⟨⟨old,he⟩,_⟩:=st;exact V0 he h
def o_8(k:Nat):List D->List D
 | []=> []
 |d::ds=> .tup [.int (k:Int),d]::o_8 (k + 1) ds
theorem ac_7:∀{ds:List D} {k i:Nat} {d:D},(o_8 k ds)[i]? =some d->∃d',ds[i]? =some d'/\d=.tup [.int ((k + i:Nat):Int),d']
 | [],_,_,_,h=>by simp[o_8]at h
 |x::ds,k,0,d,h=>by simp[o_8]at h;exact⟨x,rfl,h.symm⟩
 |x::ds,k,i + 1,d,h=>by
  obtain⟨d',e1,e2⟩:=ac_7 (ds:=ds) (k:=k + 1) (i:=i) (by simpa[o_8] using h);exact⟨d',by simpa using e1,by rw[e2,show k + 1 + i=k + (i + 1) by omega]⟩
theorem s_5:∀(ds:List D) (k:Nat),(o_8 k ds).length=ds.length
 | [],_=>rfl
 |_::ds,k=>by simp[o_8,s_5 ds (k + 1)]
def cp_5:D->R (List D)
 | .lst ds=> .ok (o_8 0 ds)
 | .str x=> .ok (o_8 0 (v_0 x))
 |_=> .no
def ca_1(f:FE):FI:=λ δ=>(f δ).bind λw=>cp_5 w.d
section
variable{X:Cx}{EX:Au}{a:Expr}{f:FE}{elts:List Expr}{x1:Nat}{tp p pos:Pos}
def iEn(K:Frag)(t:TA):TI:=λ σ H Q=>t σ H λvs H1=>(∃l,vs= [.ref l]/\(∃xs,SqL K H1 l xs)/\Q (enL K l) H1)\/(∃z,vs= [.str z]/\Q (enS z) H1)
def ca_2{ta:TA}(hg:Gl X "enumerate")(hm:X.mg "enumerate" =none)(ha:PA X [a] ta)(hs:starEach [a] X.env= [(false,eval a X.env)]:=by rfl):PI X (.Tuple elts x1 tp) (.Call (.Name "enumerate" p) [a] [] pos) (iEn X.K ta):=by
 intro zd s σ H Q I h;refine Call_ (ae_7 I hg hm PyProof.Rows.boot_enumerate (O8 (Ay (ha pos zd s σ H _ I h) λus s1 ⟨vs,H1,I1,r1,q1⟩=> ?_) hs rfl));rcases q1 with⟨l,rfl,⟨xs,hq⟩,q⟩|⟨z,rfl,q⟩
 ·obtain⟨u,rfl,ru⟩:=r1.one;cases ru;obtain⟨its,rv,pl,hz⟩:=I1.list hq;refine call_enumerate_list pl.isList λh' he hit hsz kk=>V0 he ?_;refine⟨s1.heap.objs.size + 1,[s1.heap.objs.size + 1,s1.heap.objs.size],_,enL X.K l,H1,rfl,I1.kept (t':=s1.toks) kk,cp_3 _ _ l (Nat.succ_ne_self _),⟨⟨_,he⟩,hit⟩,λb hb=> ?_,q⟩;have hb':b=s1.heap.objs.size + 1\/b=s1.heap.objs.size:=by simpa using hb
  have hbl:s1.heap.objs.size<=b:=by
   rcases hb' with rfl|rfl
   ·exact L6 _
   ·exact B5 _
  exact I1.fpOk hbl (I1.hok.fresh hbl)
 ·obtain⟨u,rfl,t,rfl⟩:=r1.one;refine call_enumerate_str λh' he hit hsz kk=>V0 he ?_;refine⟨s1.heap.objs.size + 1,[s1.heap.objs.size + 1,s1.heap.objs.size],_,enS z,H1,rfl,I1.kept (t':=s1.toks) kk,cp_4 _ _ z t (Nat.succ_ne_self _),⟨⟨_,he⟩,hit⟩,λb hb=> ?_,q⟩;have hb':b=s1.heap.objs.size + 1\/b=s1.heap.objs.size:=by simpa using hb
  have hbl:s1.heap.objs.size<=b:=by
   rcases hb' with rfl|rfl
   ·exact L6 _
   ·exact B5 _
  exact I1.fpOk hbl (I1.hok.fresh hbl)
def ca_3{G:Hp}{l:Addr}{vs:List V}{ds:List D}(h:SqL K G l vs)(r:HasL K G vs ds):ItD K G (enL K l) (o_8 0 ds):=λG' H g1 g i=>by
 refine⟨λd e=> ?_,λe=> ?_⟩
 ·obtain⟨d',e1,rfl⟩:=ac_7 e;obtain⟨v,e2,hv⟩:=r.get e1;refine⟨⟨vs,v,(g1.trans g).seq h,e2⟩,λx H' y=> ?_⟩;obtain⟨p,hp,rfl,y⟩:=y;have:=y vs v ((g1.trans g).seq h) e2;subst this;refine⟨_,Step.new g hp _,.tup (SqT.of Bj) (.cons (by rw[Q3];exact .int _) (.cons (hv.mono (g1.trans (h_9 (g.free hp) _))) .nil))⟩
 ·rw[s_5]at e;exact⟨vs,(g1.trans g).seq h,by rw[r.length];exact e⟩
def ca_4{G:Hp}(z:Str):ItD K G (enS z) (o_8 0 (v_0 z)):=λG' H g1 g i=>by
 refine⟨λd e=> ?_,λe=> ?_⟩
 ·obtain⟨d',e1,rfl⟩:=ac_7 e;unfold v_0 at e1;rw[A9]at e1;cases q:z.cps.toList[i]? with
  |none=>rw[q]at e1;cases e1
  |some c=>
   rw[q]at e1;cases e1;have hi:i < z.cps.size:=by
    have:=(B6.mp q).1;simpa using this
   refine⟨hi,λx H' y=> ?_⟩;obtain⟨p,c',hp,rfl,hc,rfl⟩:=y;have:z.cps.toList[i]? =some c':=by simpa using hc
   rw[q]at this;cases this;refine⟨_,Step.new g hp _,.tup (SqT.of Bj) (.cons (by rw[Q3];exact .int _) (.cons (.str _) .nil))⟩
 ·rw[s_5]at e;unfold v_0 at e;rw[A3]at e;show i=z.cps.size;simp at e;omega
def db_7(hm:X.mg "enumerate" =none)(he:ED X EX a f)(hg:Gl X "enumerate" :=by rfl)(hs:starEach [a] X.env= [(false,eval a X.env)]:=by rfl)(hs1:starEach [a] X.env=(false,eval a X.env)::starEach [] X.env:=by rfl):
  ID X EX (.Tuple elts x1 tp) (.Call (.Name "enumerate" p) [a] [] pos) (ca_1 f):=
 PI.imp (ca_2 hg hm (i_7 he r_0 hs1) hs) λ σ H Q ⟨G,δ,g0,s0,o⟩=>by
  refine⟨G,δ,g0,s0, ?_⟩;unfold ca_1 at o;cases e1:f δ with
  |ok w=>
   rw[e1]at o;simp only[R.bind_ok]at o;refine WP.intro λv G' H' st r=> ?_;revert r o;cases w.d with
   |lst ds=>
    intro o r;cases r with
    |lst h r=>exact .inl ⟨_,rfl,⟨_,st.gh.seq h⟩,o _ G' H' st (ca_3 h r)⟩
   |str z=>
    intro o r;cases r;exact .inr ⟨z,rfl,o _ G' H' st (ca_4 z)⟩
   |_=>intro o _;exact False.elim o
  |ex x=>rw[e1]at o;exact o
  |no=>rw[e1]at o;exact o
end
def C3(i j c:Int):Prop:=0<=i/\i.natAbs < 1073741824/\j.natAbs < 1073741824/\0 < c/\c.natAbs < 1073741824
instance (i j c:Int):Decidable (C3 i j c):=by unfold C3;exact inferInstance
section
variable{X:Cx}{EX:Au}{tg a b c:Expr}{fa:FA}{ta:TA}{p pos:Pos}
end
section
variable{X:Cx}{EX:Au}{a:Expr}{f:FE}{pos:Pos}
def negD:D->R W
 | .int i=> .ok (.sh (.int (-i)))
 |_=> .no
def eNeg(f:FE):FE:=λ δ=>(f δ).bind λw=>negD w.d
def cp_6(ha:ED X EX a f):ED X EX (.UnaryOp .USub a pos) (eNeg f):=
 PE.imp (ds_6 dl_5 ha) λ σ H Q ⟨G,δ,g0,s0,o⟩=>tD.seq g0 s0 o λw v G1 H1 _ st1 r1 o1=>by
  revert r1 o1;cases w.d with
  |int i=>intro r1 o1;cases r1;exact⟨i,rfl,Cv o1 st1.gh (.int _)⟩
  |_=>intro _ o1;exact False.elim o1
def ak_9:List D->Option (List Bool)
 | []=>some []
 | .bl b::ds=>(ak_9 ds).map (b:: ·)
 |_=>none
def allD:List D->R W
 | [.lst ds]=>match ak_9 ds with
  |some bs=> .ok (.sh (.bl (bs.all id)))
  |none=> .no
 |_=> .no
theorem bm_3{G:Hp}:∀{vs:List V} {ds:List D} {us:List Value} {bs:List Bool},HasL K G vs ds->Vals vs us->ak_9 ds=some bs->us=bs.map Value.bool
 |_,_,_,_,.nil,r,e=>by cases r;cases e;rfl
 |_,_,_,_,.cons h t,r,e=>by
  cases r with
  |cons r1 r2=>
   cases h with
   |bl x=>
    cases r1;simp only[ak_9]at e;obtain⟨zs,q,rfl⟩:=F9.mp e;rw[A8,bm_3 t r2 q]
   |_=>cases e
def ch_4(bs:List Bool):(List.range bs.length).all (λi=>bs.getD i true)=bs.all id:=by
 rw[P6,F0,F0];constructor
 ·intro h b hb;obtain⟨i,hi,e⟩:=List.getElem_of_mem hb;have:=h i (K9.mpr hi);simp[hi]at this;rw[<-e];exact this
 ·intro h i hi;have hi:=K9.mp hi;simp[hi];exact h _ (V9 hi)
def ch_5(hc:X.calm=true):y_9 X (.builtin "all") allD:=by
 intro zd s σ H vs us Q I rv q;obtain⟨EX,G,ds,g,r,o⟩:=q;cases r with
 |nil=>exact False.elim o
 |cons h t=>
  cases t with
  |cons _ _=>cases h <;> exact False.elim o
  |nil=>
   cases h with
   |lst h r=>
    rename_i l _ _;simp only[allD]at o
    split at o
    ·rename_i bs e;obtain⟨u,rfl,ru⟩:=rv.one;cases ru;obtain⟨its,rv',pl,hz⟩:=I.list (g.seq h);have eb:=bm_3 r rv' e;subst eb;have nl:l≠s.heap.objs.size:=λz=>by
      obtain⟨o',ho,_⟩:=pl.isList;exact absurd (A5 ho) (by rw[<-z];exact D7 _)
     refine call_all_walk (U8 pl.isList ⟨s.heap.objs.size,_,_,_,_,_,λi=>bs.getD i true,rfl,Walks.list (A:=X.A.in1) (I.ok.hd hc) s.heap.objs.size l nl (bs.map Value.bool).toArray,⟨⟨_,B9 _ rfl,rfl,rfl⟩, ?_⟩,λi v s' Q' E' hP hQ=> ?_,λh' tk kk=> ?_⟩)
     ·exact pl.isList.at λo z=>A4 _ z
     ·have hP':(bs.map Value.bool)[i]? =some v:=by simpa using hP
      rw[A9]at hP';cases q:bs[i]? with
      |none=>rw[q]at hP';cases hP'
      |some b=>
       rw[q]at hP';cases hP';have:bs.getD i true=b:=by simp[List.getD,q]
       dsimp only at hQ;rw[this]at hQ;exact Q2 hQ
     ·have en:(bs.map Value.bool).toArray.size=bs.length:=by simp
      rw[en,ch_4];refine⟨.bl _,H,I.kept (t':=tk) λb o' z=>kk b o' (by
       have hb:b≠s.heap.objs.size:=C9 (A5 z);simpa using hb) (A4 _ z),rfl,Cv o g (.bl _)⟩
    ·exact o.elim
   |_=>exact False.elim o
def al_0:D->List D->R W
 | .str x,[.str y]=>match Builtin.Str.occurrences x y 0 x.length 1 with
  |i::_=> .ok (.sh (.int (i:Nat)))
  | []=> .no
 |_,_=> .no
def ch_6:MtD X "str.index" al_0:=by
 intro zd s σ H x vs v us Q I rx rv h;obtain⟨EX,G,d,ds,g,r,rl,o⟩:=h;refine bz_9 r rl (λx y e1 e2 e3 e4=> ?_) λn=> ?_
 ·subst e1 e2 e3 e4;obtain⟨t,rfl⟩:=rx;obtain⟨u,rfl,t',rfl⟩:=rv.one;simp only[al_0]at o
  split at o
  ·rename_i i z_7 e;exact SC.index e ⟨.int _,H,I.tok _,⟨_,rfl⟩,Cv o g (.int _)⟩
  ·exact o.elim
 ·have e:al_0 d ds=.no:=by
   unfold al_0
   split
   ·rename_i x y;exact absurd ⟨rfl,rfl⟩ (n x y)
   ·rfl
  rw[e]at o;exact o.elim
end
section
variable{prog:Program}{w:World}{A:Around}{E:AA}{s:Shared}
def ag_8{env:Env}{elts:List Expr}{x1}{t:Addr}{items:Array Value}{Q:Unit->Shared->Prop}(hh:A.handled=none)(ht:s.heap.IsList t items)
  (hn:(assignEach elts env).length=items.size) (cg:(assignEach elts env).findIdx? (·.1)=none)
  (h:∀h',Heap.ExtBut s.heap.objs.size s.heap h'->wpAny (model prog w) A (assignInOrder ((assignEach elts env).map (·.2)) items.toList) Q E {s with heap:=h'}):
  wpAny (model prog w) A (assign (.Tuple elts x1 pos) env (.ref t)) Q E s:=by
 rw[assign_Tuple,unpack,hn,cg];exact A7 (R8 (A7 (W2 (kun_itemsOf hh ht h))))
end
section
variable{X:Cx}{EX:Au}{pos:Pos}
def gSeq(K:Frag)(n:Nat)(t:TGs):TG:=λv σ H Q=>∃a xs,v=.ref a/\(SqT K H a xs\/SqL K H a xs)/\xs.length=n/\t xs σ H Q
def bv_3{es:List Expr}{k:Nat}{t:TGs}{n:Nat}(hc:X.calm=true)(h:PGs X es t)
  (hn:(assignEach es X.env).length=n:=by rfl) (hst:(assignEach es X.env).findIdx? (·.1)=none:=by rfl):PG X (.Tuple es k pos) (gSeq X.K n t):=by
 intro zd s σ H v u Q I r hw;obtain⟨a,xs,e1,hq,hl,hw⟩:=hw;rcases hq with hq|hq
 ·exact bs_6 hc h hn hst zd s σ H v u Q I r ⟨a,xs,e1,hq,hl,hw⟩
 ·subst e1;cases r;obtain⟨its,rv,ht,hz⟩:=I.list hq;refine ag_8 (I.ok.hd hc) ht.isList (by simp[hn,<-hl,rv.length]) hst λh' hx=> ?_;have I1:Inv X zd σ H {s with heap:=h'}:=I.kept (t':=s.toks) λb o e=>hx b o (C9 (A5 e)) e;exact h zd _ σ H xs _ Q I1 (by simpa using rv) hw
def cp_8{i j l k:Nat}{x y z:Str}{p1 p2 p3:Pos}(hc:X.calm=true)(hN:X.N.Nodup)(hi:X.N[i]? =some x:=by rfl)(hj:X.N[j]? =some y:=by rfl)(hl:X.N[l]? =some z:=by rfl)(hx:Ep X.env.scope x:=by trivial)(hy:Ep X.env.scope y:=by trivial)(hz:Ep X.env.scope z:=by trivial)
  (hf:X.fn x=true\/X.env.scope.names.lookup x=some .local:=by trivial) (hf2:X.fn y=true\/X.env.scope.names.lookup y=some .local:=by trivial) (hf3:X.fn z=true\/X.env.scope.names.lookup z=some .local:=by trivial)
  (hn:(assignEach [.Name x p1,.Name y p2,.Name z p3] X.env).length=3:=by rfl) (hst:(assignEach [.Name x p1,.Name y p2,.Name z p3] X.env).findIdx? (·.1)=none:=by rfl)
  (hs:(assignEach [.Name x p1,.Name y p2,.Name z p3] X.env).map (·.2)=assign (.Name x p1) X.env::(assignEach [.Name y p2,.Name z p3] X.env).map (·.2):=by rfl) (hs2:(assignEach [.Name y p2,.Name z p3] X.env).map (·.2)=assign (.Name y p2) X.env::(assignEach [.Name z p3] X.env).map (·.2):=by rfl) (hs3:(assignEach [.Name z p3] X.env).map (·.2)=assign (.Name z p3) X.env::(assignEach [] X.env).map (·.2):=by rfl):
  GD X EX (.Tuple [.Name x p1,.Name y p2,.Name z p3] k pos) (gV3 i j l):=
 PG.imp (bv_3 hc (l_8 (m_2 hN hi hx hf) (l_8 (m_2 hN hj hy hf2) (l_8 (m_2 hN hl hz hf3) ag_1 hs3) hs2) hs) hn hst) λv σ H Q ⟨H0,G0,G,Δ,O,d,E,r,q⟩=>by
  cases r with
  |tup h r=>
   cases r with
   |nil=>exact False.elim q
   |cons r1 r=>
    cases r with
    |nil=>exact False.elim q
    |cons r2 r=>
     cases r with
     |nil=>exact False.elim q
     |cons r3 r=>
      cases r with
      |nil=>exact⟨_,_,rfl,.inl (Same.tupS E.st.gh h),rfl,_,_,rfl,_,_,rfl,_,_,rfl,rfl,q _ G H O (((E.put r1).put r2).put r3) (Same.refl _)⟩
      |cons _ _=>exact False.elim q
  |lst h r=>
   cases r with
   |nil=>exact False.elim q
   |cons r1 r=>
    cases r with
    |nil=>exact False.elim q
    |cons r2 r=>
     cases r with
     |nil=>exact False.elim q
     |cons r3 r=>
      cases r with
      |nil=>exact⟨_,_,rfl,.inr (E.st.gh.seq h),rfl,_,_,rfl,_,_,rfl,_,_,rfl,rfl,q _ G H O (((E.put r1).put r2).put r3) (Same.refl _)⟩
      |cons _ _=>exact False.elim q
  |_=>exact False.elim q
def HasS.skip{G:Hp}{σ:Sg}{δ:DE}{i:Nat}(h:HasS K G σ δ)(e:δ[i]? =some none):HasS K G (σ.set i (some v)) δ:=by
 refine⟨by rw[F3];exact h.len,λj d' e'=> ?_⟩;obtain⟨v',e1,r'⟩:=h.get j d' e';refine⟨v', ?_,r'⟩;rw[C1]
 ·exact e1
 ·rintro rfl
  rw[e]at e';cases e'
def gC2(i j:Nat):FGc:=λd δ=>match d with
 | .tup [a,b]=>(gC i a δ).bind λ δ1=>gC j b δ1
 | .lst [a,b]=>(gC i a δ).bind λ δ1=>gC j b δ1
 |_=> .no
def bm_4(i:Nat)(d:D)(δ:DE):(δ[i]? =some none/\gC i d δ=.ok (δ.set i (some d)))\/gC i d δ=.no:=by
 unfold gC;cases e:δ[i]? with
 |none=>exact .inr rfl
 |some o=>
  cases o with
  |some _=>exact .inr rfl
  |none=>exact .inl ⟨rfl,rfl⟩
def cp_9{δ:DE}{i j:Nat}{d:D}(h:(δ.set i (some d))[j]? =some none):δ[j]? =some none:=by
 rcases Eu h with⟨_,q⟩|⟨_,q⟩
 ·cases q
 ·exact q
def di_2{G:Hp}{σ:Sg}{δ:DE}{i j:Nat}{v1 v2:V}{a b:D}{Q:Sg->Hp->Prop}(s:HasS K G σ δ)(r1:Has K G v1 a)(r2:Has K G v2 b)
  (q:match(gC i a δ).bind λ δ1=>gC j b δ1 with| .ok δ'=>∀σ',HasS K G σ' δ'->HasS K G σ' δ->Q σ' H| .ex x=>(EX σ).p x G H| .no=>False):Q ((σ.set i (some v1)).set j (some v2)) H:=by
 rcases bm_4 i a δ with⟨n1,e1⟩|e1
 ·rw[e1]at q;simp only[R.bind_ok]at q;rcases bm_4 j b (δ.set i (some a)) with⟨n2,e2⟩|e2
  ·rw[e2]at q;exact q _ ((s.put r1 i).put r2 j) ((s.skip n1).skip (cp_9 n2))
  ·rw[e2]at q;exact q.elim
 ·rw[e1]at q;exact q.elim
def bv_4{i j k:Nat}{x y:Str}{p1 p2:Pos}(hc:X.calm=true)(hN:X.N.Nodup)(hi:X.N[i]? =some x:=by rfl)(hj:X.N[j]? =some y:=by rfl)(hx:Ep X.env.scope x:=by trivial)(hy:Ep X.env.scope y:=by trivial)
  (hf:X.fn x=true\/X.env.scope.names.lookup x=some .local:=by trivial) (hf2:X.fn y=true\/X.env.scope.names.lookup y=some .local:=by trivial)
  (hn:(assignEach [.Name x p1,.Name y p2] X.env).length=2:=by rfl) (hst:(assignEach [.Name x p1,.Name y p2] X.env).findIdx? (·.1)=none:=by rfl)
  (hs:(assignEach [.Name x p1,.Name y p2] X.env).map (·.2)=assign (.Name x p1) X.env::(assignEach [.Name y p2] X.env).map (·.2):=by rfl) (hs2:(assignEach [.Name y p2] X.env).map (·.2)=assign (.Name y p2) X.env::(assignEach [] X.env).map (·.2):=by rfl):
  GC X EX (.Tuple [.Name x p1,.Name y p2] k pos) (gC2 i j):=
 PG.imp (bv_3 hc (l_8 (m_2 hN hi hx hf) (l_8 (m_2 hN hj hy hf2) ag_1 hs2) hs) hn hst) λv σ H Q ⟨G,δ,d,g,s,r,q⟩=>by
  cases r with
  |tup h r=>
   cases r with
   |nil=>exact False.elim q
   |cons r1 r=>
    cases r with
    |nil=>exact False.elim q
    |cons r2 r=>
     cases r with
     |nil=>exact⟨_,_,rfl,.inl (Same.tupS g h),rfl,_,_,rfl,_,_,rfl,rfl,di_2 s r1 r2 q⟩
     |cons _ _=>exact False.elim q
  |lst h r=>
   cases r with
   |nil=>exact False.elim q
   |cons r1 r=>
    cases r with
    |nil=>exact False.elim q
    |cons r2 r=>
     cases r with
     |nil=>exact⟨_,_,rfl,.inr (g.seq h),rfl,_,_,rfl,_,_,rfl,rfl,di_2 s r1 r2 q⟩
     |cons _ _=>exact False.elim q
  |_=>exact False.elim q
end
section
variable{X:Cx}{EX:Au}
def nonB:D->Bool
 | .non=>true
 |_=>false
def isND(neg:Bool):D->D->R W
 |d,.non=> .ok (.sh (.bl (if neg then !nonB d else nonB d)))
 |_,_=> .no
end
section
variable{X:Cx}{EX:Au}{tg a b:Expr}{f g:FE}{fa:FA}{p pos:Pos}
theorem HasL.rep{G:Hp}{vs:List V}{ds:List D}(r:HasL K G vs ds):∀n:Nat,HasL K G (List.replicate n vs).flatten (List.replicate n ds).flatten
 |0=> .nil
 |n + 1=>by rw[K5,K5,N8,N8];exact r.append (HasL.rep r n)
def repD(ds:List D):D->R W
 | .int k=>if k.natAbs < 4611686018427387904/\ds.length * k.toNat<=16777216 then .ok (.ow (.lst (List.replicate k.toNat ds).flatten)) else .no
 |_=> .no
def eRep(fa:FA)(f:FE):FE:=λ δ=>(fa δ).bind λds=>if ds.length<=16777216 then(f δ).bind λw=>repD ds w.d else .no
def do_1{es:List Expr}{fz:Pos}(ha:AD X EX es fa)(hb:ED X EX b f):ED X EX (.BinOp (.List es fz) .Mult b pos) (eRep fa f):=
 PE.imp (dh_9 dm_4 (bt_7 ha) hb) λ σ H Q ⟨G,δ,g0,s0,o⟩=>tDa.seq g0 s0 o λds vs G' H' _ st r o'=>by
  split at o'
  ·rename_i hz;refine⟨by rw[r.length,D6];exact hz,λq hq=> ?_⟩;have so:=Step.own st.gh hq (.lst vs);refine tD.seq so.gh (s0.mono st.gg) (Out.mono so o') λw v G2 H2 _ st2 r2 o2=> ?_;revert r2 o2;cases w.d with
   |int k=>
    intro r2 o2;cases r2;simp only[repD]at o2
    split at o2
    ·rename_i hk;exact⟨q,k,vs,rfl,rfl,st2.hh _ _ Bj,by have:=hk.1;omega,by have:=hk.1;omega,by rw[r.length,D6];exact hk.2,ac_2 o2 st2.gh ((r.mono st2.gg).rep k.toNat)⟩
    ·exact o2.elim
   |_=>intro _ o2;exact False.elim o2
  ·exact o'.elim
def ag_9:List D->Option (List Int)
 | []=>some []
 | .int i::ds=>(ag_9 ds).map (i:: ·)
 |_=>none
def sumD:List D->R W
 | [.lst ds]=>match ag_9 ds with
  |some is=> .ok (.sh (.int is.sum))
  |none=> .no
 |_=> .no
theorem bg_0{G:Hp}:∀{vs:List V} {ds:List D} {us:List Value} {is:List Int},HasL K G vs ds->Vals vs us->ag_9 ds=some is->us.length=is.length/\∀(j:Nat) (v:Value),us[j]? =some v->∃t,v=.int (is.getD j 0) t
 |_,_,_,_,.nil,r,e=>by cases r;cases e;exact⟨rfl,λj v h=>by simp at h⟩
 |_,_,_,_,.cons h t,r,e=>by
  cases r with
  |cons r1 r2=>
   cases h with
   |int x=>
    obtain⟨tk,rfl⟩:=r1;simp only[ag_9]at e;obtain⟨zs,q,rfl⟩:=F9.mp e;obtain⟨h1,h2⟩:=bg_0 t r2 q;refine⟨by simp[h1],λj v hj=> ?_⟩;cases j with
    |zero=>simp at hj;subst hj;exact⟨tk,rfl⟩
    |succ j=>
     obtain⟨t',e'⟩:=h2 j v (by simpa using hj);exact⟨t',by rw[e'];simp⟩
   |_=>cases e
theorem an_5(is:List Int):∀j,preSum (λi=>is.getD i 0) j=(is.take j).sum
 |0=>by simp[preSum]
 |j + 1=>by rw[preSum,an_5 is j,PySem.sum_take_succ]
def ch_7(hc:X.calm=true):y_9 X (.builtin "sum") sumD:=by
 intro zd s σ H vs us Q I rv q;obtain⟨EX,G,ds,g,r,o⟩:=q;cases r with
 |nil=>exact False.elim o
 |cons h t=>
  cases t with
  |cons _ _=>cases h <;> exact False.elim o
  |nil=>
   cases h with
   |lst h r=>
    rename_i l _ _;simp only[sumD]at o
    split at o
    ·rename_i is e;obtain⟨u,rfl,ru⟩:=rv.one;cases ru;obtain⟨its,rv',pl,hz⟩:=I.list (g.seq h);obtain⟨el,ev⟩:=bg_0 r rv' e;have nl:l≠s.heap.objs.size:=λz=>by
      obtain⟨o',ho,_⟩:=pl.isList;exact absurd (A5 ho) (by rw[<-z];exact D7 _)
     have ll:l < s.heap.objs.size:=by
      obtain⟨o',ho,_⟩:=pl.isList;exact A5 ho
     refine call_sum_walkAnyS (U8 pl.isList ⟨s.heap.objs.size,_,_,_,_,_,_,λi=>is.getD i 0,rfl,(Walks.list (A:=X.A.in1) (I.ok.hd hc) s.heap.objs.size l nl its.toArray).toS,⟨⟨_,B9 _ rfl,rfl,rfl⟩, ?_⟩,λb hb=> ?_,λi v hP=>ev i v (by simpa using hP),λs' t' mv=> ?_⟩)
     ·exact pl.isList.at λo z=>A4 _ z
     ·rw[L7];have hb':b=s.heap.objs.size\/b=l:=by simpa using hb
      rcases hb' with rfl|rfl
      ·exact Q8 _
      ·exact S5 ll
     ·have en:its.toArray.size=is.length:=by simp[el]
      rw[en,an_5,S9];obtain⟨m1,m2,m3,m4,m5⟩:=mv;have e':s'={s with heap:=s'.heap,toks:=s'.toks}:=by
       cases s';simp only at m2 m3 m4;subst m2 m3 m4;rfl
      rw[e'];refine⟨.int _,H,I.kept (t':=s'.toks) λb o' z=>m1 b o' (by
       have hb:b≠s.heap.objs.size:=C9 (A5 z);simpa using hb) (A4 _ z),⟨t',rfl⟩,Cv o g (.int _)⟩
    ·exact o.elim
   |_=>exact False.elim o
def gP(i j:Nat):FG:=λd Δ=>match d with
 | .tup [a,b]=> .ok ((Δ.set i (.sh a)).set j (.sh b))
 | .lst [a,b]=> .ok ((Δ.set i (.sh a)).set j (.sh b))
 |_=> .no
def dc_0{i j k:Nat}{x y:Str}{p1 p2:Pos}(hc:X.calm=true)(hN:X.N.Nodup)(hi:X.N[i]? =some x:=by rfl)(hj:X.N[j]? =some y:=by rfl)(hx:Ep X.env.scope x:=by trivial)(hy:Ep X.env.scope y:=by trivial)
  (hf:X.fn x=true\/X.env.scope.names.lookup x=some .local:=by trivial) (hf2:X.fn y=true\/X.env.scope.names.lookup y=some .local:=by trivial)
  (hn:(assignEach [.Name x p1,.Name y p2] X.env).length=2:=by rfl) (hst:(assignEach [.Name x p1,.Name y p2] X.env).findIdx? (·.1)=none:=by rfl)
  (hs:(assignEach [.Name x p1,.Name y p2] X.env).map (·.2)=assign (.Name x p1) X.env::(assignEach [.Name y p2] X.env).map (·.2):=by rfl) (hs2:(assignEach [.Name y p2] X.env).map (·.2)=assign (.Name y p2) X.env::(assignEach [] X.env).map (·.2):=by rfl):
  GD X EX (.Tuple [.Name x p1,.Name y p2] k pos) (gP i j):=
 PG.imp (bv_3 hc (l_8 (m_2 hN hi hx hf) (l_8 (m_2 hN hj hy hf2) ag_1 hs2) hs) hn hst) λv σ H Q ⟨H0,G0,G,Δ,O,d,E,r,q⟩=>by
  cases r with
  |tup h r=>
   cases r with
   |nil=>exact False.elim q
   |cons r1 r=>
    cases r with
    |nil=>exact False.elim q
    |cons r2 r=>
     cases r with
     |nil=>exact⟨_,_,rfl,.inl (Same.tupS E.st.gh h),rfl,_,_,rfl,_,_,rfl,rfl,q _ G H O ((E.put r1).put r2) (Same.refl _)⟩
     |cons _ _=>exact False.elim q
  |lst h r=>
   cases r with
   |nil=>exact False.elim q
   |cons r1 r=>
    cases r with
    |nil=>exact False.elim q
    |cons r2 r=>
     cases r with
     |nil=>exact⟨_,_,rfl,.inr (E.st.gh.seq h),rfl,_,_,rfl,_,_,rfl,rfl,q _ G H O ((E.put r1).put r2) (Same.refl _)⟩
     |cons _ _=>exact False.elim q
  |_=>exact False.elim q
def sUnp(fg:FG)(js:List Nat)(f:FE):FS:=λ Δ=>match f (At (gsome js Δ)) with
 | .ok w=>(match fg w.d (gsome js Δ) with
  | .ok Δ'=> .nx Δ'
  |_=> .no)
 | .ex x=> .ex x (gsome js Δ)
 | .no=> .no
def cq_1{fg:FG}(js:List Nat){e tg:Expr}(he:ED X EX e f)(hg:GD X EX tg fg)(hs:swapsWithSole [tg] e pos.line X.env=pure false:=by rfl)(hw:swappedStores [tg] e X.env=pure none:=by rfl)
  (h1:(assignEach [tg] X.env).map (·.2)= [assign tg X.env]:=by rfl):SD X EX (.Assign [tg] e pos) (sUnp fg js f):=
 PS.imp (cl_5 he hg hs hw h1) λD σ H ⟨H0,G0,G,Δ,O,E,q⟩=>by
  obtain⟨G1,O1,sg,E1⟩:=E.gsome js;unfold sUnp at q;refine⟨G1,At (gsome js Δ),E1.st.gh,E1.gsh, ?_⟩;cases e1:f (At (gsome js Δ)) with
  |ok w=>
   simp only[e1]at q;refine WP.intro λv G' H' st r=>⟨H0,G0,G',gsome js Δ,O1,w.d,E1.grow st,r, ?_⟩;cases e2:fg w.d (gsome js Δ) with
   |ok Δ'=>simp only[e2]at q;exact λ σ' G2 H2 O2 E2 s2=>q σ' G2 H2 O2 E2 (sg.trans (st.gg.trans s2))
   |ex x=>simp only[e2]at q;exact q.elim
   |no=>simp only[e2]at q;exact q.elim
  |ex x=>simp only[e1]at q;exact q σ G1 H O1 E1 sg
  |no=>simp only[e1]at q;exact q.elim
end
@[elab_as_elim] theorem al_1{P:List Value->Prop}{us:List Value}{n:Nat}(h:us.length=n)(k:∀y:Nat->Value,P ((List.range n).map y)):P us:=by
 have e:us=(List.range n).map λi=>us.getD i .none:=by
  apply U7;intro i;rw[A9]
  by_cases hi:i < n
  ·rw[X4 hi,L5,N2,B3 ()];rfl
  ·rw[K7 (),K7 (by rw[O4];omega)];rfl
 rw[e];exact k _
section
variable{K:Frag}{x qual:Str}{st:Stmt}{f:Addr}{fd:FuncData}{ps:List Str}
def Fun.binds1(F:Fun K x qual st f fd)(hl:ps.length=1:=by rfl)(h:∀(kV doc pm:Value) (an:Option Addr) (zp ct a:Value),bindArgs (fnOf x qual (i_8 st) (Ey st) (Cc st) .none kV doc pm an zp ct) ⟨[a],[]⟩=pure (ps.zip [a]):=by intros;rfl):Binds K fd ps []:=
 F.binds λkV doc pm an zp ct us hu=>al_1 (hu.trans hl) λy=>h kV doc pm an zp ct (y 0)
def Fun.binds2(F:Fun K x qual st f fd)(hl:ps.length=2:=by rfl)(h:∀(kV doc pm:Value) (an:Option Addr) (zp ct a b:Value),bindArgs (fnOf x qual (i_8 st) (Ey st) (Cc st) .none kV doc pm an zp ct) ⟨[a,b],[]⟩=pure (ps.zip [a,b]):=by intros;rfl):Binds K fd ps []:=
 F.binds λkV doc pm an zp ct us hu=>al_1 (hu.trans hl) λy=>h kV doc pm an zp ct (y 0) (y 1)
def Fun.binds3(F:Fun K x qual st f fd)(hl:ps.length=3:=by rfl)(h:∀(kV doc pm:Value) (an:Option Addr) (zp ct a b c:Value),bindArgs (fnOf x qual (i_8 st) (Ey st) (Cc st) .none kV doc pm an zp ct) ⟨[a,b,c],[]⟩=pure (ps.zip [a,b,c]):=by intros;rfl):Binds K fd ps []:=
 F.binds λkV doc pm an zp ct us hu=>al_1 (hu.trans hl) λy=>h kV doc pm an zp ct (y 0) (y 1) (y 2)
def Fun.binds4(F:Fun K x qual st f fd)(hl:ps.length=4:=by rfl)(h:∀(kV doc pm:Value) (an:Option Addr) (zp ct a b c d:Value),bindArgs (fnOf x qual (i_8 st) (Ey st) (Cc st) .none kV doc pm an zp ct) ⟨[a,b,c,d],[]⟩=pure (ps.zip [a,b,c,d]):=by intros;rfl):Binds K fd ps []:=
 F.binds λkV doc pm an zp ct us hu=>al_1 (hu.trans hl) λy=>h kV doc pm an zp ct (y 0) (y 1) (y 2) (y 3)
def Fun.binds5(F:Fun K x qual st f fd)(hl:ps.length=5:=by rfl)(h:∀(kV doc pm:Value) (an:Option Addr) (zp ct a b c d e:Value),bindArgs (fnOf x qual (i_8 st) (Ey st) (Cc st) .none kV doc pm an zp ct) ⟨[a,b,c,d,e],[]⟩=pure (ps.zip [a,b,c,d,e]):=by intros;rfl):Binds K fd ps []:=
 F.binds λkV doc pm an zp ct us hu=>al_1 (hu.trans hl) λy=>h kV doc pm an zp ct (y 0) (y 1) (y 2) (y 3) (y 4)
def Fun.binds6(F:Fun K x qual st f fd)(hl:ps.length=6:=by rfl)(h:∀(kV doc pm:Value) (an:Option Addr) (zp ct a b c d e g:Value),bindArgs (fnOf x qual (i_8 st) (Ey st) (Cc st) .none kV doc pm an zp ct) ⟨[a,b,c,d,e,g],[]⟩=pure (ps.zip [a,b,c,d,e,g]):=by intros;rfl):Binds K fd ps []:=
 F.binds λkV doc pm an zp ct us hu=>al_1 (hu.trans hl) λy=>h kV doc pm an zp ct (y 0) (y 1) (y 2) (y 3) (y 4) (y 5)
end
structure ZApart(z TI TO i1 i2:Addr):Prop where
 TIz:TI≠z
 TOz:TO≠z
 i1z:i1≠z
 i2z:i2≠z
 TITO:TI≠TO
 TIi1:TI≠i1
 TIi2:TI≠i2
 TOi1:TO≠i1
 TOi2:TO≠i2
 i12:i1≠i2
section
variable{X:Cx}{EX:Au}{a b:Expr}{fa:FA}{elts:List Expr}{x1:Nat}{tp p pos:Pos}
end
def met(is:List Int):List Int:=PyProof.Rows.firstMet (λi=>is.getD i 0) is.length
section
variable{X:Cx}{EX:Au}{a:Expr}{f:FE}{p p' pos pos':Pos}
end
def Ee:D->Option Ae
 | .int i=>some (.inl i)
 | .str x=>some (.inr x)
 |_=>none
def t_2{G:Hp}{d:D}{k:Ae}(r:Has K G v d)(e:Ee d=some k):v=kV k:=by
 cases r <;> first|(cases e;rfl)|cases e
section
variable{α:Type}
def Bh(kvs:List (Ae×α))(k:Ae):Option α:=(kvs.find? λkv=>decide (kv.1=k)).map (·.2)
def By(kvs:List (Ae×α))(k:Ae)(v:α):List (Ae×α):=if(kvs.any λkv=>decide (kv.1=k))=true then kvs.map (λkv=>if kv.1=k then(kv.1,v) else kv) else kvs ++ [(k,v)]
def Dn(kvs:List (Ae×α))(k:Ae):List (Ae×α):=kvs.filter λkv=>decide (kv.1≠k)
def Cn(kvs:List (Ae×α))(k:Ae):Bool:=(Bh kvs k).isSome
end
def ca_5(kvs:List (Ae×V))(k:Ae)(v:V):Ek kvs k v=By kvs k v:=rfl
theorem x_8{G:Hp}:∀{kvs:List (Ae×V)} {kds:List (Ae×D)} (k:Ae),kvs.map (·.1)=kds.map (·.1)->HasL K G (kvs.map (·.2)) (kds.map (·.2))->(Ci kvs k).isSome=Cn kds k/\∀d,Bh kds k=some d->∃v,Ci kvs k=some v/\Has K G v d
 | [],[],k,_,_=>⟨rfl,λd e=>by cases e⟩
 | [],_::_,k,e,_=>by simp at e
 |_::_,[],k,e,_=>by simp at e
 |(x,v)::kvs,(y,d)::kds,k,e,r=>by
  simp only[A8,R7]at e;obtain⟨e1,e2⟩:=e;subst e1;cases r with
  |cons h r=>
   obtain⟨i1,i2⟩:=x_8 (kvs:=kvs) (kds:=kds) k e2 r
   by_cases q:x=k
   ·have a1:Ci ((x,v)::kvs) k=some v:=i_9 q;have a2:Bh ((x,d)::kds) k=some d:=by unfold Bh;rw[R5 (by simpa using q)];rfl
    refine⟨by unfold Cn;rw[a1,a2];rfl,λd' e'=> ?_⟩;rw[a2]at e';cases e';exact⟨v,a1,h⟩
   ·have a1:Ci ((x,v)::kvs) k=Ci kvs k:=i_1 q;have a2:Bh ((x,d)::kds) k=Bh kds k:=by unfold Bh;rw[R6 (by simpa using q)]
    refine⟨by unfold Cn at i1⊢;rw[a1,a2];exact i1,λd' e'=> ?_⟩;rw[a2]at e';rw[a1];exact i2 d' e'
theorem bm_5{α β:Type}:∀{kvs:List (Ae×α)} {kds:List (Ae×β)} (k:Ae),kvs.map (·.1)=kds.map (·.1)->(kvs.any λkv=>decide (kv.1=k))=kds.any λkv=>decide (kv.1=k)
 | [],[],_,_=>rfl
 | [],_::_,k,e=>by simp at e
 |_::_,[],k,e=>by simp at e
 |(x,v)::kvs,(y,d)::kds,k,e=>by
  simp only[A8,R7]at e;obtain⟨e1,e2⟩:=e;subst e1;rw[Q4,Q4,bm_5 k e2]
def bg_1{G:Hp}{kvs:List (Ae×V)}{kds:List (Ae×D)}(k:Ae){d:D}(e:kvs.map (·.1)=kds.map (·.1))(r:HasL K G (kvs.map (·.2)) (kds.map (·.2)))(h:Has K G v d):
  (Ek kvs k v).map (·.1)=(By kds k d).map (·.1)/\HasL K G ((Ek kvs k v).map (·.2)) ((By kds k d).map (·.2)):=by
 rw[ca_5];unfold By;rw[bm_5 k e]
 split
 ·have all:∀{kvs:List (Ae×V)} {kds:List (Ae×D)},kvs.map (·.1)=kds.map (·.1)->HasL K G (kvs.map (·.2)) (kds.map (·.2))->
    (kvs.map (λkv=>if kv.1=k then(kv.1,v) else kv)).map (·.1)=(kds.map (λkv=>if kv.1=k then(kv.1,d) else kv)).map (·.1)/\HasL K G ((kvs.map (λkv=>if kv.1=k then(kv.1,v) else kv)).map (·.2)) ((kds.map (λkv=>if kv.1=k then(kv.1,d) else kv)).map (·.2)):=by
   intro kvs
   induction kvs with
   |nil=>
    intro kds e r;cases kds with
    |nil=>exact⟨rfl,.nil⟩
    |cons _ _=>simp at e
   |cons p kvs ih=>
    intro kds e r;cases kds with
    |nil=>simp at e
    |cons q kds=>
     obtain⟨x,u⟩:=p;obtain⟨y,w⟩:=q;simp only[A8,R7]at e;obtain⟨e1,e2⟩:=e;subst e1;cases r with
     |cons h1 r=>
      obtain⟨i1,i2⟩:=ih e2 r;simp only[A8]
      by_cases z:x=k
      ·simp only[z,if_true];exact⟨by rw[i1],.cons h i2⟩
      ·simp only[z,T6];exact⟨by rw[i1],.cons h1 i2⟩
  exact all e r
 ·refine⟨by rw[E8,E8,e];rfl, ?_⟩;rw[E8,E8];exact r.append (.cons h .nil)
section
variable{X:Cx}{EX:Au}{pos:Pos}
def ah_0:FE:=λ_=> .ok (.ow (.dic []))
def aq_3:ED X EX (.Dict [] [] pos) ah_0:=PE.imp cn_9 λ σ H Q ⟨G,δ,g,s,o⟩=>λp hp=>
 o (.ref p) (λb=>b=p) G _ (Step.own g hp _) (λa e=>by subst e;exact⟨hp,g.free hp,by rw[Bj];simp⟩) (.dict Bj rfl rfl .nil)
def Dm(neg:Bool):D->D->R W
 |d,.dic kvs=>match Ee d with
  |some k=> .ok (.sh (.bl (if neg then !Cn kvs k else Cn kvs k)))
  |none=> .no
 |_,_=> .no
def DGet.rd{a:Addr}{kvs:List (Ae×V)}{k:Ae}(e:Rd H a (.dK kvs)):DGet H a (kV k) (Ci kvs k):=.inl ⟨kvs,k,e,rfl,rfl⟩
def bg_2(hu:X.A.units + 64 < cLine):Er X (compareOp .In) (Dm false):=by
 intro zd s σ H x y v u Q I rx ry q;obtain⟨EX,G,a,b,g,ra,rb,o⟩:=q;cases rb with
 |dic h hk r=>
  simp only[Dm]at o
  split at o
  ·rename_i k ek;have ex:=t_2 ra ek;subst ex;cases ry;refine d_in () I (DGet.rd (k:=k) (Same.rdD g h)) rx λs' I'=>⟨.bl _,H,I',rfl, ?_⟩;rw[(x_8 k hk r).1];exact Cv o g (.bl _)
  ·exact o.elim
 |_=>exact False.elim o
def bb_6(hu:X.A.units + 64 < cLine):Er X (compareOp .NotIn) (Dm true):=by
 intro zd s σ H x y v u Q I rx ry q;obtain⟨EX,G,a,b,g,ra,rb,o⟩:=q;cases rb with
 |dic h hk r=>
  simp only[Dm]at o
  split at o
  ·rename_i k ek;have ex:=t_2 ra ek;subst ex;cases ry;refine da_0 () I (DGet.rd (k:=k) (Same.rdD g h)) rx λs' I'=>⟨.bl _,H,I',rfl, ?_⟩;rw[(x_8 k hk r).1];exact Cv o g (.bl _)
  ·exact o.elim
 |_=>exact False.elim o
def getK:D->D->R W
 | .dic kvs,d=>match Ee d with
  |some k=>(match Bh kvs k with
   |some x=> .ok (.sh x)
   |none=> .no)
  |none=> .no
 |_,_=> .no
def dc_2{o i:Expr}{f g:FE}(hu:X.A.units + 64 < cLine)(ho:ED X EX o f)(hi:ED X EX i g)(hs:NoSl i:=by intro _ _;rfl):ED X EX (.Subscript o i pos) (Af getK f g):=
 PE.imp (da_2 () ho hi hs) λ σ H Q ⟨G,δ,g0,s0,o⟩=>tD.seq g0 s0 o λw v G1 H1 _ st1 r1 o1=>tD.seq st1.gh (s0.mono st1.gg) o1 λw2 v2 G2 H2 _ st2 r2 o2=>by
  have r1:=r1.mono st2.gg;revert r1 o2;cases w.d with
  |dic kvs=>
   intro o2 r1;simp only[getK]at o2
   split at o2
   ·rename_i k ek
    split at o2
    ·rename_i x ex;cases r1 with
     |dic h hk r=>
      obtain⟨u,e1,e2⟩:=(x_8 k hk r).2 x ex;have e3:=t_2 r2 ek;subst e3;refine⟨_,u,rfl, ?_,Cv o2 st2.gh e2⟩;rw[<-e1];exact DGet.rd (Same.rdD st2.gh h)
    ·exact o2.elim
   ·exact o2.elim
  |_=>intro o2 _;exact False.elim o2
def Fo:List D->R W
 | [.dic kvs]=> .ok (.sh (.int kvs.length))
 |_=> .no
def n_1:y_9 X (.builtin "len") Fo:=by
 intro zd s σ H vs us Q I rv q;obtain⟨EX,G,ds,g,r,o⟩:=q;cases r with
 |nil=>exact False.elim o
 |cons h t=>
  cases t with
  |cons _ _=>cases h <;> exact False.elim o
  |nil=>
   cases h with
   |dic h hk r=>
    rename_i kvs kds;obtain⟨u,rfl,ru⟩:=rv.one;cases ru;refine du_0 I (Same.rdD g h) λt s' I'=>⟨.int _,H,I',⟨t,rfl⟩, ?_⟩;have hl:kds.length=kvs.length:=by
     have:=K4 List.length hk;rw[A3,A3]at this;exact this.symm
    rw[<-hl];exact Cv o g (.int _)
   |_=>exact False.elim o
def bb_7(i:Nat)(js:List Nat)(fk fe:FE):FS:=λ Δ=>match(gsome js Δ)[i]? with
 |some (.ow (.dic kvs))=>(match fe (At (gsome js Δ)) with
  | .ok w=>(match fk (Ba (gsome js Δ)) with
   | .ok z=>(match Ee z.d with
    |some k=>if kvs.length < 16777216 then .nx ((gsome js Δ).set i (.ow (.dic (By kvs k w.d)))) else .no
    |none=> .no)
   |_=> .no)
  |_=> .no)
 |_=> .no
def ca_6{i:Nat}(js:List Nat){x:Str}{e ie:Expr}{fe fk:FE}{p1 zh pos:Pos}(hu:X.A.units + 64 < cLine)(he:ED X EX e fe)(hi:ED X EX ie fk)(hN:X.N[i]? =some x:=by rfl)(hv:Fg X.env.scope x:=by trivial)(hd:AG x:=by decide)
  (hcd:(x ==("__classdict__" :Str))=false:=by decide) (hs:swapsWith e (some (.Subscript (.Name x p1) ie zh)) pos.line X.env=pure false:=by rfl):
  SD X EX (.Assign [.Subscript (.Name x p1) ie zh] e pos) (bb_7 i js fk fe):=
 PS.imp (bf_5 () (Fh hN hv hd hcd) hi he hs) λD σ H ⟨H0,G0,G,Δ,O,E,q⟩=>by
  obtain⟨G1,O1,sg,E1⟩:=E.gsome js;unfold bb_7 at q;generalize gsome js Δ=Δ1 at q E1
  split at q
  ·rename_i kds e1;obtain⟨v0,s1,t⟩:=E1.ow i _ _ e1 rfl;obtain⟨a,kvs,rfl,m,hH,hk,rl⟩:=t.dict_of;refine⟨G1,At Δ1,E1.st.gh,E1.gsh, ?_⟩;cases e2:fe (At Δ1) with
   |ex x=>rw[e2]at q;exact q.elim
   |no=>rw[e2]at q;exact q.elim
   |ok w=>
    simp only[e2]at q;refine WP.intro λv G' H' st r=> ?_;have E2:=E1.grow st;refine⟨.ref a,s1,Cs G' H' O1,Ba Δ1,E2.aH,E2.gall, ?_⟩;cases e3:fk (Ba Δ1) with
    |ex x=>simp only[e3]at q;exact q.elim
    |no=>simp only[e3]at q;exact q.elim
    |ok z=>
     simp only[e3]at q;refine WP.intro λv2 G2 H2 st2 r2=> ?_
     split at q
     ·rename_i k ek
      split at q
      ·rename_i hl;have e4:=t_2 r2 ek;subst e4;have hH2:H2 a=some (.dK kvs):=st2.hh _ _ (st.hh _ _ hH);have hle:kvs.length=kds.length:=by
        have:=K4 List.length hk
        rwa[A3,A3]at this
       obtain⟨p1,p2⟩:=bg_1 k hk (rl.mono st.gg) r;exact⟨a,_,rfl,DPut.k hH2 (by rw[hle,D6];exact hl),q σ G' _ _ ((E2.keep st2.hh).writeD s1 m p1 p2) (sg.trans st.gg)⟩
      ·exact q.elim
     ·exact q.elim
  ·exact q.elim
end
section
variable{K:Frag}{H0 H1:HB}{G0 G H:Hp}{σ:Sg}{Δ:SE}{O:OS}
end
section
variable{X:Cx}{EX:Au}{pos:Pos}
end
section
variable{X:Cx}{EX:Au}{pos:Pos}
end
section
variable{X:Cx}{EX:Au}{a b:Expr}{fa:FA}{p pos:Pos}
end
section
variable{K:Frag}{G H:Hp}
theorem OwL.append:∀{vs us:List V} {ts rs:List Tn} {S1 S2 S:AS},OwL K G H vs ts S1->OwL K G H us rs S2->(∀b,S1 b->S2 b->False)->(∀b,S1 b->S b)->(∀b,S2 b->S b)->OwL K G H (vs ++ us) (ts ++ rs) S
 |_,_,_,_,_,_,_,.nil,r,_,_,i2=>r.mono (Same.refl _) (λ_ _ _ q=>q) i2
 |_,_,_,_,S1,S2,S,.cons (S1:=Sa) (S2:=Sb) h r dj s1 s2,q,d,i1,i2=>
  .cons (S2:=λb=>Sb b\/S2 b) h (OwL.append r q (λb z1 z2=>d b (s2 b z1) z2) (λb z=> .inl z) λb z=> .inr z) (λb z1 z2=>by
   rcases z2 with z2|z2
   ·exact dj b z1 z2
   ·exact d b (s1 b z1) z2) (λb z=>i1 b (s1 b z)) λb z=>by
   rcases z with z|z
   ·exact i1 b (s2 b z)
   ·exact i2 b z
end
section
variable{α:Type}
def Dc:List (Ae×α)->Ae->α->List (Ae×α)
 | [],_,_=> []
 |(x,v)::r,k,v'=>if x=k then(x,v')::r else(x,v)::Dc r k v'
theorem al_2:∀(l:List (Ae×α)) (k:Ae) (v:α),(Dc l k v).map (·.1)=l.map (·.1)
 | [],_,_=>rfl
 |(x,v0)::r,k,v=>by
  unfold Dc
  split
  ·rfl
  ·rw[A8,A8,al_2 r k v]
end
def unS:List (Ae×Tn)->Option (List (Ae×D))
 | []=>some []
 |(k,.sh d)::r=>(unS r).map ((k,d):: ·)
 |_=>none
theorem aa_3:∀{zm:List (Ae×Tn)} {kds:List (Ae×D)},unS zm=some kds->zm=kds.map λp=>(p.1,Tn.sh p.2)
 | [],_,e=>by cases e;rfl
 |(k,t)::r,kds,e=>by
  cases t with
  |sh d=>
   simp only[unS]at e;cases q:unS r with
   |none=>rw[q]at e;cases e
   |some l=>
    rw[q]at e;cases e;rw[aa_3 q];rfl
  |_=>cases e
section
variable{K:Frag}{G H:Hp}
theorem OwL.focusK(k:Ae):∀{kvs:List (Ae×V)} {zm:List (Ae×Tn)} {S:AS} {t:Tn},kvs.map (·.1)=zm.map (·.1)->OwL K G H (kvs.map (·.2)) (zm.map (·.2)) S->Bh zm k=some t->
  ∃v S1,Ci kvs k=some v/\Ow K G H v t S1/\(∀b,S1 b->S b)/\
   ∀{H':Hp} {t':Tn},(∀b o,S b->¬S1 b->H b=some o->H' b=some o)->Ow K G H' v t' S1->OwL K G H' (kvs.map (·.2)) ((Dc zm k t').map (·.2)) S
 | [],[],_,_,_,_,e=>by cases e
 | [],_::_,_,_,e,_,_=>by simp at e
 |_::_,[],_,_,e,_,_=>by simp at e
 |(x,v)::kvs,(y,t0)::zm,S,t,e,r,h=>by
  simp only[A8,R7]at e;obtain⟨e1,e2⟩:=e;subst e1;cases r with
  |cons hh r dj s1 s2=>
   rename_i S1 S2
   by_cases q:x=k
   ·have a2:Bh ((x,t0)::zm) k=some t0:=by unfold Bh;rw[R5 (by simpa using q)];rfl
    rw[a2]at h;cases h;refine⟨v,S1,i_9 q,hh,s1,λ{H' t'} f h'=> ?_⟩;unfold Dc;rw[if_pos q];exact .cons h' (r.mono (Same.refl _) (λb o hb z=>f b o (s2 b hb) (λw=>dj b w hb) z) λ_ z=>z) dj s1 s2
   ·have a2:Bh ((x,t0)::zm) k=Bh zm k:=by unfold Bh;rw[R6 (by simpa using q)]
    rw[a2]at h;obtain⟨v',S',e1,h',i',f'⟩:=OwL.focusK k e2 r h;refine⟨v',S',by rw[i_1 q];exact e1,h',λb z=>s2 b (i' b z),λ{H' t'} f h2=> ?_⟩;unfold Dc;rw[if_neg q];exact .cons (hh.mono (Same.refl _) (λb o hb z=>f b o (s1 b hb) (λw=>dj b hb (i' b w)) z) λ_ z=>z) (f' (λb o hb nb z=>f b o (s2 b hb) nb z) h2) dj s1 s2
end
def Sl.tree:Sl->Option (Tn×Bool)
 | .ow d=>some (Tn.of d,false)
 | .tr t=>some (t,false)
 | .lt t=>some (t,true)
 |_=>none
def Sl.mk(b:Bool)(t:Tn):Sl:=if b then .lt t else .tr t
def Sl.tree_own{s:Sl}{t:Tn}{b:Bool}(e:s.tree=some (t,b)):s.own=some t:=by
 cases s <;> first|(cases e;rfl)|cases e
def Sl.mk_own(b:Bool)(t:Tn):(Sl.mk b t).own=some t:=by cases b <;> rfl
def Sl.mk_lk(b:Bool)(t:Tn):∀d,Sl.mk b t≠ .lk d:=by intro d;cases b <;> (intro z;cases z)
def Ev.mk_lt{H0:HB}{G0 G H:Hp}{σ:Sg}{Δ:SE}{O:OS}(E:Ev K H0 G0 G H σ Δ O){i:Nat}{s:Sl}{t:Tn}{b:Bool}(e:Δ[i]? =some s)(q:s.tree=some (t,b))(t':Tn):∀d,Sl.mk b t'=.lt d->σ[i]? =some (some (.ref (H0.b i))):=by
 intro d z;cases b with
 |false=>cases z
 |true=>
  cases s with
  |lt t0=>exact E.lt i t0 e
  |_=>cases q
def Ev.writeIn{H0:HB}{G0 G H:Hp}{σ:Sg}{Δ:SE}{O:OS}(E:Ev K H0 G0 G H σ Δ O){i:Nat}{s:Sl}{t t':Tn}{b:Bool}{a:Addr}{o:HO}(e:Δ[i]? =some s)(q:s.tree=some (t,b))(s1:σ[i]? =some (some v))(m:O i a)(t1:Ow K G (upd H a o) v t' (O i)):
  Ev K H0 G0 G (upd H a o) σ (Δ.set i (Sl.mk b t')) (x_5 O i (O i)):=
 have ms:=MStep.write E.st.gh m (E.out i a m).1 o
 E.step2 (Sl.mk_own b t') (Sl.mk_lk b t') (E.mk_lt e q t') ms.weak s1 (λb hb=>⟨.inl hb,(E.out i b hb).1,ms.al b (E.out i b hb).2.2⟩) t1
def Ow.dic_of{G H:Hp}{zm:List (Ae×Tn)}{S:AS}(t:Ow K G H v (.dic zm) S):∃a kvs S1,v=.ref a/\S a/\H a=some (.dK kvs)/\kvs.map (·.1)=zm.map (·.1)/\(∀b,S1 b->S b/\b≠a)/\OwL K G H (kvs.map (·.2)) (zm.map (·.2)) S1:=by
 cases t with
 |dic h hk ha sub r=>exact⟨_,_,_,rfl,ha,h,hk,sub,r⟩
section
variable{X:Cx}{EX:Au}{pos:Pos}
end
theorem at_9{G:Hp}(k:Ae):∀{kvs:List (Ae×V)} {kds:List (Ae×D)},kvs.map (·.1)=kds.map (·.1)->HasL K G (kvs.map (·.2)) (kds.map (·.2))->(q_4 kvs k).map (·.1)=(Dn kds k).map (·.1)/\HasL K G ((q_4 kvs k).map (·.2)) ((Dn kds k).map (·.2))
 | [],[],_,_=>⟨rfl,.nil⟩
 | [],_::_,e,_=>by simp at e
 |_::_,[],e,_=>by simp at e
 |(x,v)::kvs,(y,d)::kds,e,r=>by
  simp only[A8,R7]at e;obtain⟨e1,e2⟩:=e;subst e1;cases r with
  |cons h r=>
   obtain⟨i1,i2⟩:=at_9 k (kvs:=kvs) (kds:=kds) e2 r
   by_cases q:x=k
   ·have a1:q_4 ((x,v)::kvs) k=q_4 kvs k:=cg_6 q;have a2:Dn ((x,d)::kds) k=Dn kds k:=by unfold Dn;rw[ZA0 (by simpa using q)]
    rw[a1,a2];exact⟨i1,i2⟩
   ·have a1:q_4 ((x,v)::kvs) k=(x,v)::q_4 kvs k:=cg_7 q;have a2:Dn ((x,d)::kds) k=(x,d)::Dn kds k:=by unfold Dn;rw[ZA1 (by simpa using q)]
    rw[a1,a2];exact⟨by rw[A8,A8,i1],.cons h i2⟩
section
variable{X:Cx}{EX:Au}{pos:Pos}
end
def kD:Ae->D
 | .inl i=> .int i
 | .inr x=> .str x
def au_0{G:Hp}(k:Ae):Has K G (kV k) (kD k):=by cases k <;> constructor
theorem ca_7{G:Hp}:∀ks:List Ae,HasL K G (ks.map kV) (ks.map kD)
 | []=> .nil
 |k::ks=> .cons (au_0 k) (ca_7 ks)
def cq_2{P:Program}{w:World}{k:Ae}{u:Value}(h:(Dw P w).is k u=true):RelV (kV k) u:=by
 rcases g_5 h with⟨i,t,rfl,rfl⟩|⟨x,t,rfl,rfl⟩
 ·exact⟨t,rfl⟩
 ·exact⟨t,rfl⟩
theorem al_3{P:Program}{w:World}:∀{kvs:List (Ae×V)} {vs:List (Ae×Value)} {us:List Value},KV kvs vs->us.length=vs.length->(∀(j:Nat) v,us[j]? =some v->∃k x,vs[j]? =some (k,x)/\(Dw P w).is k v=true)->Vals ((kvs.map (·.1)).map kV) us
 | [],vs,us,r,hl,_=>by
  have:=r.length;simp at this;have:us= []:=W3 ();subst this;exact .nil
 |(k,v)::kvs,vs,us,r,hl,h=>by
  cases r with
  |cons h1 r=>
   rename_i q vs;obtain⟨k',x⟩:=q;cases us with
   |nil=>simp at hl
   |cons u us=>
    obtain⟨k2,x2,e,i⟩:=h 0 u rfl;have e:(k',x)=(k2,x2):=by simpa using e
    cases e;have e1:k=k':=h1.1;subst e1;exact .cons (cq_2 i) (al_3 r (by simpa using hl) λj v e=>by
     obtain⟨a,b,c,d⟩:=h (j + 1) v (by simpa using e);exact⟨a,b,by simpa using c,d⟩)
section
variable{X:Cx}{EX:Au}{pos:Pos}
end
section
variable{X:Cx}{EX:Au}{pos:Pos}
theorem HasL.dropLast{G:Hp}{vs:List V}{ds:List D}(h:HasL K G vs ds):HasL K G vs.dropLast ds.dropLast:=by
 rw[List.dropLast_eq_take,List.dropLast_eq_take,h.length];exact h.take _
theorem HasL.eraseIdx{G:Hp}:∀{vs:List V} {ds:List D} (n:Nat),HasL K G vs ds->HasL K G (vs.eraseIdx n) (ds.eraseIdx n)
 |_,_,_,.nil=> .nil
 |_,_,0,.cons _ r=>r
 |_,_,n + 1,.cons h r=> .cons h (HasL.eraseIdx n r)
def ca_8(kvs:List (Ae×D))(b c:D):R W:=match Ee b with
 |some k=>(match Bh kvs k with
  |some x=> .ok (.sh x)
  |none=> .ok (.sh c))
 |none=> .no
def bm_6(f g h:FE):FE:=λ δ=>(f δ).bind λa=>match a.d with
 | .dic kvs=>(g δ).bind λb=>(h δ).bind λc=>ca_8 kvs b.d c.d
 |_=> .no
def dc_3{o e e2:Expr}{f g h:FE}{zg zf:Pos}(hu:X.A.units + 64 < cLine)(ho:ED X EX o f)(he:ED X EX e g)(hf:ED X EX e2 h)(hm:M2 X o "get" zg e e2 zf:=by exact⟨rfl,rfl,rfl,rfl⟩):
  ED X EX (.Call (.Attribute o "get" zg) [e,e2] [] zf) (bm_6 f g h):=
 PE.imp (co_1 () ho he hf hm) λ σ H Q ⟨G,δ,g0,s0,o⟩=>tD.seq g0 s0 o λw v G1 H1 e1 st1 r1 o1=>by
  revert r1 o1;cases w.d with
  |dic kvs=>
   intro r1 o1;cases r1 with
   |dic hh hk r=>
    rename_i a0 kv0;refine⟨_,rfl,.inl ⟨_,Same.rdD st1.gh hh⟩, ?_⟩;refine tD.seq st1.gh (s0.mono st1.gg) o1 λw2 v2 G2 H2 _ st2 r2 o2=>tD.seq st2.gh (s0.mono (st1.gg.trans st2.gg)) o2 λw3 v3 G3 H3 _ st3 r3 o3=> ?_;unfold ca_8 at o3
    split at o3
    ·rename_i k ek;have ev:=t_2 r2 ek;subst ev;have hg:=Same.rdD st3.gh (Same.rdD st3.gg (Same.rdD st2.gg hh));refine⟨_,DGet.rd hg, ?_⟩;obtain⟨i1,i2⟩:=x_8 (K:=X.K) (G:=G3) k hk (r.mono (st2.gg.trans st3.gg))
     split at o3
     ·rename_i x ex;obtain⟨u,e5,e6⟩:=i2 x ex;rw[e5];exact Cv o3 st3.gh e6
     ·rename_i ex;have:Ci kv0 k=none:=by
       cases q:Ci kv0 k with
       |none=>rfl
       |some u=>
        rw[q]at i1;unfold Cn at i1;rw[ex]at i1;cases i1
      rw[this];exact Cv o3 st3.gh r3
    ·exact o3.elim
  |_=>intro _ o1;exact False.elim o1
end
section
variable{X:Cx}{EX:Au}{e:Expr}{es:List Expr}{x:Str}{pp pos:Pos}{c:Bool}{k k':Nat}{ps:List Str}
def bm_7{sp:Sp}{ta:TA}{f:Addr}(hr:RoomC c k' X.A)(lk:Lk X EX)(ok:FnX X.prog X.w X.K X.mg X.base c k f fd ps sp)(hm:X.mg x=some (.ref f))(kp:keepIn X.K (.ref f)=true)(hb:Binds X.K fd ps [])(ha:PA X (e::es) ta)(hk:k<=k')(hg:Gl X x)(hdb:AG x)
  (he:starEach (e::es) X.env=(false,eval e X.env)::starEach es X.env) (hpl:(backTo pos (starEach es X.env)).any (·.1)=false):
  PE X (.Call (.Name x pp) (e::es) [] pos) (λ σ H Q=>ta σ H λvs H1=>sp vs H1 Q (EXE X.K (EX σ))):=by
 intro zd s σ H Q I q;refine M4 (r_9 I hg hm ?_ hdb);refine X8 (h₀:=X.base) I.ok.mod.kin kp (Ay (ha pos zd s σ H _ I q) λus s1 ⟨vs,H1,I1,r,q⟩=>⟨I1.kIn, ?_⟩) he hpl;exact aq_1 ok (hr.mono hk) hb lk I1 r q
end
def OFld(K:Frag)(cs:List Str)(f:Str):Prop:=∀c,cs.contains c=true->∀C,ClsAt K c C->Cls K C/\NoAttr K C f
def OFld.nil{f:Str}:OFld K [] f:=λc h=>by cases h
def ClsAt.same{c:Str}{C C':Addr}(a:ClsAt K c C)(b:ClsAt K c C'):C'=C:=by
 unfold ClsAt at a b;rw[a]at b;injection b with b
 injection b with b
 injection b with b
 exact b.symm
def OFld.one{c:Str}{C:Addr}{cs:List Str}{f:Str}(a:ClsAt K c C)(k:Cls K C)(n:NoAttr K C f)(r:OFld K cs f):OFld K (c::cs) f:=λc' h C' a'=>by
 rw[M5,T8]at h;rcases h with h|h
 ·have e:=M8.mp h;subst e;rw[a.same a'];exact⟨k,n⟩
 ·exact r c' h C' a'
def Cp(cs:List Str)(f:Str)(fo:FE):FE:=λ δ=>(fo δ).bind λw=>match w.d with
 | .obj c ns vs=>if cs.contains c then(match(ns.zip vs).lookup f with
  |some d=> .ok (.sh d)
  |none=> .no) else .no
 |_=> .no
theorem aq_4{G:Hp}{f:Str}:∀{ns:List Str} {us:List V} {vs:List D},HasL K G us vs->ns.length=us.length->(∀d,(ns.zip vs).lookup f=some d->∃v,(ns.zip us).lookup f=some v/\Has K G v d)/\(ns.contains f=false->(ns.zip us).lookup f=none)
 | [],_,_,_,_=>⟨λd e=>(by cases e),λ_=>rfl⟩
 |n::ns,[],_,_,e=>by simp at e
 |n::ns,u::us,_,.cons h r,e=>by
  obtain⟨i1,i2⟩:=aq_4 (f:=f) (ns:=ns) r (by simpa using e);refine⟨λd q=> ?_,λq=> ?_⟩
  ·rw[M6,E9]at q⊢;cases hb:f ==n with
   |true=>simp only[hb]at q⊢;cases q;exact⟨u,rfl,h⟩
   |false=>simp only[hb]at q⊢;exact i1 d q
  ·rw[M5,W4]at q;rw[M6,E9];simp only[q.1];exact i2 q.2
section
variable{X:Cx}{EX:Au}{e:Expr}{pos:Pos}
def p_3{cs:List Str}{f:Str}{fo:FE}(k:OFld X.K cs f)(he:ED X EX e fo)(hb:attributeBase e f X.env (eval e X.env)=eval e X.env:=by rfl):ED X EX (.Attribute e f pos) (Cp cs f fo):=
 PE.imp (bt_3 he hb) λ σ H Q ⟨G,δ,g0,s0,o⟩=>tD.seq g0 s0 o λw v G1 H1 _ st r o'=>by
  revert o' r;cases w.d with
  |obj c ns vs=>
   intro r o';simp only at o'
   split at o'
   ·rename_i hc
    split at o'
    ·rename_i d ed;cases r with
     |obj hC hh hl rl=>
      obtain⟨v1,e1,h1⟩:=(aq_4 (f:=f) rl hl).1 d ed;obtain⟨kc,kn⟩:=k c hc _ hC;exact⟨_,_,_,_,v1,rfl,st.gh _ _ hh,kc,kn,e1,Cv o' st.gh h1⟩
    ·exact o'.elim
   ·exact o'.elim
  |_=>intro _ o';exact False.elim o'
end
structure MethD(P:Program)(w:World)(K:Frag)(mg:AB)(base:Heap)(cc:Bool)(k n:Nat)(m c:Str)(F:AF):Prop where
 ex:∃C f fd ps,ClsAt K c C/\Cls K C/\Meth K C m f/\FnX P w K mg base cc k f fd ps (Ca K (n + 1) F)/\Binds K fd ps []
def MethT(P:Program)(w:World)(K:Frag)(mg:AB)(base:Heap)(cc:Bool)(k n:Nat)(m:Str)(tb:List (Str×(AF))):Prop:=∀c F,tb.lookup c=some F->MethD P w K mg base cc k n m c F
def MethT.nil{P:Program}{w:World}{cc:Bool}{k n:Nat}{m:Str}:MethT P w K mg base cc k n m []:=λc F e=>by cases e
def FnX.up{P:Program}{w:World}{c:Bool}{j k:Nat}{f:Addr}{ps:List Str}{sp:Sp}(F:FnX P w K mg base c j f fd ps sp)(h:j<=k):FnX P w K mg base c k f fd ps sp:=
 ⟨F.len,λA outer s H args us vs Q E hr=>F.run A outer s H args us vs Q E (hr.mono h)⟩
def MethT.one{P:Program}{w:World}{cc:Bool}{j k n:Nat}{m c:Str}{F:AF}{tb:List (Str×(AF))}(d:MethD P w K mg base cc j n m c F)(hj:j<=k)(r:MethT P w K mg base cc k n m tb):MethT P w K mg base cc k n m ((c,F)::tb):=λc' F' e=>by
 rw[E9]at e;cases hb:c' ==c with
 |true=>
  simp only[hb]at e;cases e;have:=M8.mp hb;subst this;obtain⟨C,f,fd,ps,a1,a2,a3,a4,a5⟩:=d.ex;exact⟨C,f,fd,ps,a1,a2,a3,a4.up hj,a5⟩
 |false=>simp only[hb]at e;exact r c' F' e
def Cg(m:Str)(n:Nat)(tb:List (Str×(AF)))(fo:FE)(fa:FA):FE:=λ δ=>(fo δ).bind λw=>match w.d with
 | .obj c ns vs=>if ns.contains m then .no else match tb.lookup c with
  |some F=>(fa δ).bind λds=>if ds.length=n then F (.obj c ns vs::ds) else .no
  |none=> .no
 |_=> .no
section
variable{X:Cx}{EX:Au}{e o:Expr}{es:List Expr}{pos zg:Pos}{cc:Bool}{k k' n:Nat}{m:Str}{tb:List (Str×(AF))}{fo:FE}{fa:FA}
def cq_3(X:Cx)(EX:Au)(cc:Bool)(k:Nat)(m:Str)(ta:TE)(t:TA):TE:=λ σ H Q=>ta σ H λx H1=>∃a C dx fs f fd ps sp,x=.ref a/\H1 a=some (.ins C dx fs)/\fs.lookup m=none/\Cls X.K C/\Meth X.K C m f/\
 FnX X.prog X.w X.K X.mg X.base cc k f fd ps sp/\Binds X.K fd ps []/\t σ H1 λvs H2=>sp (.ref a::vs) H2 Q (EXE X.K (EX σ))
def ca_9{pl:Sem Bool}{ta:TE}{t:TA}(he:PE X o ta)(hr:RoomC cc k X.A)(lk:Lk X EX)(ha:PA X (e::es) t)
  (hst:starEach (e::es) X.env=(false,eval e X.env)::starEach es X.env) (hpl:(backTo pos (starEach es X.env)).any (·.1)=false)
  (ht:eval (.Call (.Attribute o m zg) (e::es) [] pos) X.env=(do
   let ov<-eval o X.env
   standAt zg.atName
   let(f,first)<-holding [ov] (getMethod ov m pl)
   callWith pos f first (backTo pos (starEach (e::es) X.env)) (backToKw pos (keywordEach [] X.env)))):
  PE X (.Call (.Attribute o m zg) (e::es) [] pos) (cq_3 X EX cc k m ta t):=by
 intro zd s σ H Q I h;refine ZC4 (pl:=pl) (Ay (he zd s σ H _ I h) λu s1 hh=> ?_) ht;obtain⟨x,H1,I1,rx,a,C,dx,fs,f,fd,ps,sp,ex,ea,l,c,hm,F,hb,q⟩:=hh;subst ex;obtain rfl:u=Value.ref a:=rx;refine as_2 I1 ea c hm l ?_;refine X8 (first:=[.ref a]) (h₀:=X.base) I.ok.mod.kin hm.kp (Ay (ha pos zd s1 σ H1 _ I1 q) λus s2 ⟨vs,H2,I2,r,q2⟩=>⟨I2.kIn, ?_⟩) hst hpl;exact aq_1 (us:=.ref a::us) (vs:=.ref a::vs) F hr hb lk I2 (.cons rfl r) q2
def cq_4{pl:Sem Bool}{ta:TE}(he:PE X o ta)(hr:RoomC cc k X.A)(lk:Lk X EX)
  (ht:eval (.Call (.Attribute o m zg) [] [] pos) X.env=(do
   let ov<-eval o X.env
   standAt zg.atName
   let(f,first)<-holding [ov] (getMethod ov m pl)
   callWith pos f first (backTo pos (starEach [] X.env)) (backToKw pos (keywordEach [] X.env)))):
  PE X (.Call (.Attribute o m zg) [] [] pos) (cq_3 X EX cc k m ta tNil):=by
 intro zd s σ H Q I h;refine ZC4 (pl:=pl) (Ay (he zd s σ H _ I h) λu s1 hh=> ?_) ht;obtain⟨x,H1,I1,rx,a,C,dx,fs,f,fd,ps,sp,ex,ea,l,c,hm,F,hb,q⟩:=hh;subst ex;obtain rfl:u=Value.ref a:=rx;refine as_2 I1 ea c hm l ?_;exact callWith_K0 (first:=[.ref a]) I1.kIn hm.kp (aq_1 (us:=[.ref a]) (vs:=[.ref a]) F hr hb lk I1 (.cons rfl .nil) q)
def do_2{σ:Sg}{Q:VK}(hK:X.K=K)(T:MethT X.prog X.w X.K X.mg X.base cc k n m tb)(q:tD K EX (Cg m n tb fo fa) σ H Q):cq_3 X EX cc k m (tD K EX fo) (tDa K EX fa) σ H Q:=by
 subst hK;obtain⟨G,δ,g0,s0,o⟩:=q;refine tD.seq g0 s0 o λw v G1 H1 _ st r o'=> ?_;revert o' r;cases w.d with
 |obj c ns vs=>
  intro r o';simp only at o'
  split at o'
  ·exact o'.elim
  ·rename_i hn
   split at o'
   ·rename_i F ef;cases r with
    |obj hC hh hl rl=>
     rename_i a0 C0 dx0 us0;obtain⟨C,f,fd,ps,a1,a2,a3,a4,a5⟩:=(T c F ef).ex;have:=a1.same hC;subst this;refine⟨_,_,_,_,f,fd,ps,_,rfl,st.gh _ _ hh,(aq_4 (f:=m) rl hl).2 (by simpa using hn),a2,a3,a4,a5, ?_⟩;refine tDa.seq st.gh (s0.mono st.gg) o' λds us G' H' _ st' r' o2=> ?_
     split at o2
     ·rename_i zk;refine⟨by rw[B4,r'.length,zk],G',.obj c ns vs::ds,st'.gh,.cons (Has.mono st'.gg (.obj hC hh hl rl)) r', ?_⟩;cases q:F (.obj c ns vs::ds) with
      |ok w=>rw[q]at o2;exact o2
      |ex x=>rw[q]at o2;exact EXof.in o2
      |no=>rw[q]at o2;exact o2.elim
     ·exact o2.elim
   ·exact o'.elim
 |_=>intro _ o';exact False.elim o'
def ah_1{pl:Sem Bool}(T:MethT X.prog X.w X.K X.mg X.base cc k n m tb)(hr:RoomC cc k' X.A)(lk:Lk X EX)(he:ED X EX o fo)(ha:AD X EX (e::es) fa)(hk:k<=k':=by decide)
  (hst:starEach (e::es) X.env=(false,eval e X.env)::starEach es X.env:=by rfl) (hpl:(backTo pos (starEach es X.env)).any (·.1)=false:=by rfl)
  (ht:eval (.Call (.Attribute o m zg) (e::es) [] pos) X.env=(do
   let ov<-eval o X.env
   standAt zg.atName
   let(f,first)<-holding [ov] (getMethod ov m pl)
   callWith pos f first (backTo pos (starEach (e::es) X.env)) (backToKw pos (keywordEach [] X.env))):=by rfl):ED X EX (.Call (.Attribute o m zg) (e::es) [] pos) (Cg m n tb fo fa):=
 PE.imp (ca_9 he (hr.mono hk) lk ha hst hpl ht) λ_ _ _ q=>do_2 rfl T q
def n_9{pl:Sem Bool}(T:MethT X.prog X.w X.K X.mg X.base cc k 0 m tb)(hr:RoomC cc k' X.A)(lk:Lk X EX)(he:ED X EX o fo)(hk:k<=k':=by decide)
  (ht:eval (.Call (.Attribute o m zg) [] [] pos) X.env=(do
   let ov<-eval o X.env
   standAt zg.atName
   let(f,first)<-holding [ov] (getMethod ov m pl)
   callWith pos f first (backTo pos (starEach [] X.env)) (backToKw pos (keywordEach [] X.env))):=by rfl):ED X EX (.Call (.Attribute o m zg) [] [] pos) (Cg m 0 tb fo Ac):=
 PE.imp (cq_4 he (hr.mono hk) lk ht) λ σ H Q ⟨G,δ,g0,s0,q⟩=>tD.seq g0 s0 q λw v G1 H1 _ st r o'=>by
  revert o' r;cases w.d with
  |obj c ns vs=>
   intro r o';simp only at o'
   split at o'
   ·exact o'.elim
   ·rename_i hn
    split at o'
    ·rename_i F ef;cases r with
     |obj hC hh hl rl=>
      obtain⟨C,f,fd,ps,a1,a2,a3,a4,a5⟩:=(T c F ef).ex;have:=a1.same hC;subst this;refine⟨_,_,_,_,f,fd,ps,_,rfl,st.gh _ _ hh,(aq_4 (f:=m) rl hl).2 (by simpa using hn),a2,a3,a4,a5, ?_⟩;have o2:Out X.K (EX σ) G1 H1 (F [.obj c ns vs]) Q:=o';refine⟨rfl,G1,[.obj c ns vs],st.gh,.cons (.obj hC hh hl rl) .nil, ?_⟩;cases q:F [.obj c ns vs] with
      |ok w=>rw[q]at o2;exact o2
      |ex x=>rw[q]at o2;exact EXof.in o2
      |no=>rw[q]at o2;exact o2.elim
    ·exact o'.elim
  |_=>intro _ o';exact False.elim o'
end
def au_1(n:Nat)(c:Str)(ds:List D):SE:=.lt (.obj c [] [])::(ds.map Sl.sh ++ List.replicate (n - (ds.length + 1)) .no)
def spI(K:Frag)(C:Addr)(n:Nat)(F:List D->R (List Str×List D)):Sp:=λvs H Q E=>∃x dx vs0 Hq G ds,vs=.ref x::vs0/\vs0.length=n/\Hq x=none/\Same Hq H/\H x=some (.ins C dx [])/\Same G Hq/\HasL K G vs0 ds/\
 (match F ds with
 | .ok p=>∀G' H' us dx',Step G Hq G' H'->G' x=none->H' x=some (.ins C dx' (p.1.zip us))->p.1.length=us.length->HasL K G' us p.2->Q .non H'
 | .ex e=>(EXof K E).p e G Hq
 | .no=>False)
def al_4{G H h0:Hp}{v0:V}{vs:List V}{ds:List D}{N:List Str}{b:Nat->Addr}(g:Same G H)(i0:Same h0 H)(r:HasL K G vs ds)(hl:vs.length + 1<=N.length):Ev K ⟨h0,b⟩ G G H (L2.start N (v0::vs)) (.no::(ds.map Sl.sh ++ List.replicate (N.length - (ds.length + 1)) .no)) (λ_ _=>False):=by
 have key:∀(i:Nat) (s:Sl),(Sl.no::(ds.map Sl.sh ++ List.replicate (N.length - (ds.length + 1)) .no))[i]? =some s->(∃j d,i=j + 1/\s=.sh d/\ds[j]? =some d)\/s=.no:=λi s e=>by
  cases i with
  |zero=>exact .inr (by simpa using e.symm)
  |succ i=>
   rw[O5]at e
   by_cases hi:i < ds.length
   ·rw[D8 (by rw[A3];exact hi),A9]at e;obtain⟨d,e1,e2⟩:=F9.mp e;exact .inl ⟨i,d,rfl,e2.symm,e1⟩
   ·rw[G6 (by rw[A3];omega),K3]at e
    split at e
    ·cases e;exact .inr rfl
    ·cases e
 refine⟨⟨i0,g,Same.refl _,λ_ n _=>n⟩, ?_,λi d e=> ?_,λi z d e zo=> ?_,λ_ _ ha=>ha.elim,λ_ _ _ ha=>ha.elim,λi d e=> ?_,λi d e=> ?_⟩
 ·unfold L2.start;have:=r.length;simp only[B8,A3,K6,B4]at hl⊢;omega
 ·rcases key i _ e with⟨j,d',rfl,q,q2⟩|q
  ·cases q;obtain⟨v,e1,h⟩:=r.get q2;refine⟨v, ?_,h⟩;unfold L2.start;have hi:j < vs.length:=(B6.mp e1).1;rw[D8 (by rw[A3,B4];omega),A9,O5,e1];rfl
  ·cases q
 ·rcases key i _ e with⟨j,d',_,q,_⟩|q <;> (subst q;cases zo)
 ·rcases key i _ e with⟨j,d',_,q,_⟩|q <;> cases q
 ·rcases key i _ e with⟨j,d',_,q,_⟩|q <;> cases q
theorem au_2{f:Str}{y:V}:∀{ns:List Str} {us:List V},ns.length=us.length->ns.contains f=false->Fk f y (ns.zip us)=(ns ++ [f]).zip (us ++ [y])
 | [],[],_,_=>rfl
 | [],_::_,e,_=>by simp at e
 |_::_,[],e,_=>by simp at e
 |n::ns,u::us,e,h=>by
  rw[M5,W4]at h;have hn:¬n=f:=λz=>by rw[z]at h;simp at h
  show Fk f y ((n,u)::ns.zip us)=(n,u)::(ns ++ [f]).zip (us ++ [y]);unfold Fk;rw[if_neg hn,au_2 (by simpa using e) h.2]
def an_6(i:Nat)(cs:List Str)(f:Str)(js:List Nat)(fe:FE):FS:=λ Δ=>match(gsome js Δ)[i]? with
 |some (.lt (.obj c ns ts))=>if cs.contains c=true/\ns.contains f=false/\ns.length < 1000 then(match fe (At (gsome js Δ)) with
  | .ok w=> .nx ((gsome js Δ).set i (.lt (.obj c (ns ++ [f]) (ts ++ [.sh w.d]))))
  | .ex x=> .ex x (gsome js Δ)
  | .no=> .no) else .no
 |_=> .no
section
variable{X:Cx}{EX:Au}{pos:Pos}
def aq_5{i:Nat}{cs:List Str}{f x:Str}(js:List Nat){e:Expr}{fe:FE}{p1 p2:Pos}(k:OFld X.K cs f)(he:ED X EX e fe)(hN:X.N[i]? =some x:=by rfl)(hv:Fg X.env.scope x:=by trivial)(hd:AG x:=by decide)
  (hcd:(x ==("__classdict__" :Str))=false:=by decide) (hs:swapsWith e (some (.Attribute (.Name x p1) f p2)) pos.line X.env=pure false:=by rfl):SD X EX (.Assign [.Attribute (.Name x p1) f p2] e pos) (an_6 i cs f js fe):=
 PS.imp (bt_4 (Fh hN hv hd hcd) he hs) λD σ H ⟨H0,G0,G,Δ,O,E,q⟩=>by
  obtain⟨G1,O1,sg,E1⟩:=E.gsome js;unfold an_6 at q;generalize gsome js Δ=Δ1 at q E1
  split at q
  ·rename_i c ns ts e1
   split at q
   ·rename_i hc;obtain⟨hc1,hc2,hc3⟩:=hc;refine⟨G1,At Δ1,E1.st.gh,E1.gsh, ?_⟩;cases e2:fe (At Δ1) with
    |ex y=>simp only[e2]at q;exact q σ G1 H O1 E1 sg
    |no=>simp only[e2]at q;exact q.elim
    |ok w=>
     simp only[e2]at q;refine WP.intro λv G2 H2 st r=> ?_;have E2:=E1.grow st;obtain⟨v0,s1,t⟩:=E2.ow i _ _ e1 rfl;have s2:=E2.lt i _ e1;generalize et:(Tn.obj c ns ts)=t0 at t;cases t with
     | @obj a C dx c2 ns2 us ts2 S S1 hC h hl ha sub rl=>
      injection et with et1 et2 et3
      subst et1 et2 et3;obtain⟨kc,kn⟩:=k _ hc1 _ hC;refine⟨_,s1,_,_,_,_,rfl,h,kc,kn,by rw[W7,<-hl,ZB0];exact hc3, ?_⟩;rw[au_2 hl hc2];have ms:=MStep.write (S:=O1 i) E2.st.gh ha (E2.out i _ ha).1 (.ins C dx ((ns ++ [f]).zip (us ++ [v])));refine q σ G2 _ _ (E2.step2 (S:=O1 i) (z:=.lt _) rfl (λ_ z=>by cases z) (λ_ _=>by rw[s1]at s2⊢;exact s2) ms.weak s1 (λb hb=>⟨.inl hb,(E2.out i b hb).1,ms.al b (E2.out i b hb).2.2⟩) ?_) (sg.trans st.gg);refine .obj hC Bj (by rw[B8,B8,hl];rfl) ha sub ?_;refine OwL.append (S2:=λ_=>False) (rl.mono (Same.refl _) (λb o hb z=> ?_) λ_ z=>z) (.cons (S1:=λ_=>False) (S2:=λ_=>False) (.sh r) .nil (λ_ z _=>z) (λ_ z=>z.elim) λ_ z=>z.elim) (λ_ _ z=>z) (λ_ z=>z) λ_ z=>z.elim;rw[Aq (sub b hb).2];exact z
     |_=>cases et
   ·exact q.elim
  ·exact q.elim
end
section
variable{X:Cx}{EX:Au}{e:Expr}{es:List Expr}{x:Str}{pp pos:Pos}{cc:Bool}{k k' n:Nat}{ps:List Str}{C f:Addr}{fd:FuncData}
def ch_9{zd:AE}{σ:Sg}{s:Shared}{Q:VK}{vs:List V}{sp:Sp}(M:Mk X.K C f)(F:FnX X.prog X.w X.K X.mg X.base cc k f fd ps sp)(hr:RoomC cc (k + 1) X.A)(hb:Binds X.K fd ps [])(lk:Lk X EX)(I:Inv X zd σ H s)(r:Vals vs us)
  (h:∀x dx,H x=none->H dx=none->dx≠x->sp (.ref x::vs) (upd (upd H dx (.own x)) x (.ins C dx [])) (λv H2=>v=.non/\Q (.ref x) H2) (EXE X.K (EX σ))):wpAny (model X.prog X.w) X.A (call (.ref C) us) (EP X zd σ Q) X.xe s:=by
 have hq:=h (s.heap.objs.size + 1) s.heap.objs.size (I.hok.fresh (L6 _)) (I.hok.fresh (B5 _)) (C9 (Q8 _));have I2:=Inv.made (C:=C) I;have r2:Vals (V.ref (s.heap.objs.size + 1)::vs) (Value.ref (s.heap.objs.size + 1)::us):=.cons rfl r;have hl:(Value.ref (s.heap.objs.size + 1)::us).length=ps.length:=by
  rw[<-r2.length];exact F.len _ _ _ _ hq
 have hb':=hb _ (Value.ref (s.heap.objs.size + 1)::us) I2.kIn (by rw[D4];exact hl);rw[D4]at hb';refine V8 (cm_3 (f:=f) I.kIn M.makes M.init (M8.mp M.fn) (R3 (F.run _ X.stack _ _ ⟨Value.ref (s.heap.objs.size + 1)::us,[]⟩ (Value.ref (s.heap.objs.size + 1)::us) _ _ _ (hr.make C us []) (I2.env0.make C us []) hb' r2 hq) λr s' hq'=> ?_));cases r with
 |error e=>exact lk zd σ _ _ e s' I2 hq'
 |ok fl=>
  cases fl with
  |ret u=>
   obtain⟨v,H',I3,rv,ev,q3⟩:=I2.after hq';subst ev;exact⟨rv,⟨V.ref (s.heap.objs.size + 1),H',I3,rfl,q3⟩⟩
  |next=>exact False.elim hq'
  |brk=>exact False.elim hq'
  |cont=>exact False.elim hq'
def MakD(P:Program)(w:World)(K:Frag)(mg:AB)(base:Heap)(cc:Bool)(c:Str)(k n:Nat)(F:List D->R (List Str×List D)):Prop:=
 ∃C f fd ps,ClsAt K c C/\mg c=some (.ref C)/\Mk K C f/\FnX P w K mg base cc k f fd ps (spI K C n F)/\Binds K fd ps []
end
section
variable{K:Frag}{G:Hp}{a:Addr}{vs:List V}{ds:List D}
theorem HasL.flat_same:∀{vs:List V} {ds es:List D},HasL K G vs ds->HasL K G vs es->ds.all Bf=true->es=ds
 |_,_,_,.nil,.nil,_=>rfl
 |_,_,_,.cons h r,.cons h' r',f=>by
  rw[N7,C8]at f;rw[HasL.flat_same r r' f.2]
  congr 1
  cases h with
  |non=>cases h';rfl
  |bl b=>cases h';rfl
  |int i=>cases h';rfl
  |str x=>cases h';rfl
  |_=>cases f.1
end
section
variable{X:Cx}{EX:Au}{pos:Pos}
end
end L3
namespace L3
open PySem L2 Builtin Builtin.Str
variable{K:Frag}{fd:FuncData}{mg:AB}{us:List Value}{base:Heap}{H:Hp}{X:Cx}{pos:Pos}{v:V}
def dc_4{x y:Str}(h:x.cps.toList=y.cps.toList):x=y:=by
 obtain⟨a⟩:=x;obtain⟨b⟩:=y;simp only at h;have:a=b:=by
  have:=K4 List.toArray h;simpa using this
 rw[this]
def dc_5(x:Str):x.length=x.cps.toList.length:=by simp[Str.length]
def dc_6(x y:Str):(x ++ y).cps.toList=x.cps.toList ++ y.cps.toList:=by
 show(Str.append x y).cps.toList=_;simp[Str.append]
end L3
namespace L3
open PySem L2
variable{K:Frag}{fd:FuncData}{mg:AB}{us:List Value}{base:Heap}{H:Hp}{X:Cx}{pos:Pos}{v:V}
def k_0(i j:Int):Dd (.int i) (.int j)=.ok (.sh (.bl (decide (i=j)))):=by
 have h:Fq (.int i) (.int j)=decide (i=j):=by
  show(i ==j)=decide (i=j);rw[Bool.beq_eq_decide_eq]
 show(if Fj (.int i) (.int j)=true then R.ok (W.sh (D.bl (Fq (.int i) (.int j)))) else .no)=_;rw[if_pos (by rfl),h]
def ah_2(i j:Int):Fa (.int i) (.int j)=.ok (.sh (.bl (!decide (i=j)))):=by
 have h:Fq (.int i) (.int j)=decide (i=j):=by
  show(i ==j)=decide (i=j);rw[Bool.beq_eq_decide_eq]
 show(if Fj (.int i) (.int j)=true then R.ok (W.sh (D.bl (!Fq (.int i) (.int j)))) else .no)=_;rw[if_pos (by rfl),h]
def dc_7(x y:Str):Dd (.str x) (.str y)=.ok (.sh (.bl (decide (x=y)))):=rfl
def cb_0(x y:Str):Fa (.str x) (.str y)=.ok (.sh (.bl (!decide (x=y)))):=rfl
def m_6{i j:Int}(h1: -18446744073709551616 < i)(h2:i < 18446744073709551616):Em i j=true:=D9 (.inl ())
def bg_3{i j:Int}(h1: -18446744073709551616 < j)(h2:j < 18446744073709551616):Em i j=true:=D9 (.inr ())
def k_1{i j:Int}(h:Em i j=true):Dg (.int i) (.int j)=.ok (.sh (.int (i * j))):=by unfold Dg intD;simp only[h,if_true]
def k_7(i j:Int):Br (.int i) (.int j)=.ok (.sh (.int (i + j))):=rfl
def ae_9(i j:Int):Fe (.int i) (.int j)=.ok (.sh (.int (i - j))):=rfl
def aa_4{i j:Int}(h1:0 < j)(h2:j < 1361129467683753853853498429727072845824):Gb (.int i) (.int j)=.ok (.sh (.int (i / j))):=by
 exact if_pos (show divC i j=true from D9 ⟨h1,by omega⟩)
def Cy{i j:Int}(h1:0 < j):Bz (.int i) (.int j)=.ok (.sh (.int (i % j))):=by
 exact if_pos (show modC i j=true from D9 h1)
def Ez(i j:Int):ltD (.int i) (.int j)=.ok (.sh (.bl (decide (i < j)))):=rfl
def au_3(i j:Int):leD (.int i) (.int j)=.ok (.sh (.bl (decide (i<=j)))):=rfl
def cb_1(i j:Int):gtD (.int i) (.int j)=.ok (.sh (.bl (decide (j < i)))):=rfl
def do_3{x y:Str}(h:x.length + y.length<=16777216):Br (.str x) (.str y)=.ok (.sh (.str (x ++ y))):=if_pos h
def do_4{i j:Int}(h:powC i j=true):powD (.int i) (.int j)=.ok (.sh (.int (i ^ j.toNat))):=by unfold powD intD;simp only[h,if_true]
def cq_5{i j:Int}(h1:0<=j)(h2:j<=1000000)(h3: -18446744073709551616 < i)(h4:i < 18446744073709551616):powC i j=true:=D9 ⟨h1,by omega,by omega⟩
def s_0(ds:List D):Dr [.lst ds]=.ok (.sh (.int ds.length)):=rfl
def cq_6{x:Str}(h:x.length<=16777216):Dr [.str x]=.ok (.sh (.int x.length)):=if_pos h
def cq_7(i j:Int):maxD [.int i,.int j]=.ok (.sh (.int (max i j))):=by
 show R.ok (W.sh (D.int (if j > i then j else i)))=_;rw[show(if j > i then j else i)=max i j by rw[Int.max_def];split <;> split <;> omega]
def do_5(i j:Int):minD [.int i,.int j]=.ok (.sh (.int (min i j))):=by
 show R.ok (W.sh (D.int (if j < i then j else i)))=_;rw[show(if j < i then j else i)=min i j by rw[Int.min_def];split <;> split <;> omega]
def r_3{ds:List D}{i:Int}{d:D}(h:atI ds i=some d):Bk (.lst ds) (.int i)=.ok (.sh d):=by unfold Bk;simp only[h]
def dc_8{x:Str}{i:Int}{c:Nat}(hz:x.length<=16777216)(h:atI x.cps.toList i=some c):Bk (.str x) (.int i)=.ok (.sh (.str ⟨#[c]⟩)):=by
 unfold Bk;simp only[h,if_pos hz]
def bv_5{α:Type}{xs:List α}{i:Int}{x:α}(h0:0<=i)(h:xs[i.toNat]? =some x):atI xs i=some x:=by
 have hl:i.toNat < xs.length:=(B6.mp h).1;unfold atI ixN;rw[if_pos h0,if_pos ()];exact h
def ci_0(fg:FG)(g:FS)(I:Nat->SE->Prop){n:Nat}{lo:Int}{Δ:SE}(h0:I 0 Δ)
  (step:∀k Δ,k < n->I k Δ->∃Δ1,fg (.int (lo + (k:Int))) Δ=.ok Δ1/\∃Δ2,(g Δ1=.nx Δ2\/g Δ1=.ct Δ2)/\I (k + 1) Δ2):∃Δ',De fg g (Ga lo n) Δ=.nx Δ'/\I n Δ':=by
 have all:∀(m k:Nat) (Δ:SE),k + m=n->I k Δ->∃Δ',De fg g ((List.range' k m).map λ(j:Nat)=>D.int (lo + (j:Int))) Δ=.nx Δ'/\I n Δ':=by
  intro m
  induction m with
  |zero=>intro k Δ e h;exact⟨Δ,rfl,by rw[<-e];exact h⟩
  |succ m ih=>
   intro k Δ e h;obtain⟨Δ1,e1,Δ2,e2,h2⟩:=step k Δ () h;obtain⟨Δ',e3,h3⟩:=ih (k + 1) Δ2 () h2;refine⟨Δ', ?_,h3⟩;rw[List.range'_succ,A8];show(match fg (.int (lo + (k:Int))) Δ with
    | .ok Δ1=>(match g Δ1 with
     | .nx Δ2=>De fg g _ Δ2
     | .ct Δ2=>De fg g _ Δ2
     | .bk Δ2=> .nx Δ2
     |r=>r)
    | .ex _=> .no
    | .no=> .no)=_
   rw[e1];rcases e2 with e2|e2
   ·simp only[e2];exact e3
   ·simp only[e2];exact e3
 obtain⟨Δ',e,h⟩:=all n 0 Δ () h0;refine⟨Δ', ?_,h⟩;unfold Ga;rw[List.range_eq_range'];exact e
def s_6(fg:FG)(g:FS)(I:Nat->SE->Prop){ds:List D}{Δ:SE}(h0:I 0 Δ)
  (step:∀k d Δ,ds[k]? =some d->I k Δ->∃Δ1,fg d Δ=.ok Δ1/\∃Δ2,(g Δ1=.nx Δ2\/g Δ1=.ct Δ2)/\I (k + 1) Δ2):∃Δ',De fg g ds Δ=.nx Δ'/\I ds.length Δ':=by
 have all:∀(m k:Nat) (Δ:SE),k + m=ds.length->I k Δ->∃Δ',De fg g (ds.drop k) Δ=.nx Δ'/\I ds.length Δ':=by
  intro m
  induction m with
  |zero=>
   intro k Δ e h;rw[U9 ()];exact⟨Δ,rfl,by rw[<-e];exact h⟩
  |succ m ih=>
   intro k Δ e h;obtain⟨d,d1,d2⟩:=aa_2 (l:=ds) (i:=k) ();obtain⟨Δ1,e1,Δ2,e2,h2⟩:=step k d Δ d1 h;obtain⟨Δ',e3,h3⟩:=ih (k + 1) Δ2 () h2;refine⟨Δ', ?_,h3⟩;rw[d2];show(match fg d Δ with
    | .ok Δ1=>(match g Δ1 with
     | .nx Δ2=>De fg g (ds.drop (k + 1)) Δ2
     | .ct Δ2=>De fg g (ds.drop (k + 1)) Δ2
     | .bk Δ2=> .nx Δ2
     |r=>r)
    | .ex _=> .no
    | .no=> .no)=_
   rw[e1];rcases e2 with e2|e2
   ·simp only[e2];exact e3
   ·simp only[e2];exact e3
 have:=all ds.length 0 Δ () h0
 rwa[List.drop_zero]at this
def ci_1{fg:FGc}{p:FT}{f:FE}{δ:DE}{F:Int->D}:∀(n:Nat) (lo:Int),(∀k:Nat,k < n->∃δ1 w,fg (.int (lo + (k:Int))) δ=.ok δ1/\p δ1=.ok true/\f δ1=.ok w/\w.d=F (lo + (k:Int)))->
  Fv fg p f δ (Ga lo n)=.ok ((List.range n).map λ(k:Nat)=>F (lo + (k:Int))):=by
 have all:∀(es:List Nat) (lo:Int),(∀k∈es,∃δ1 w,fg (.int (lo + ((k:Nat):Int))) δ=.ok δ1/\p δ1=.ok true/\f δ1=.ok w/\w.d=F (lo + (k:Int)))->
   Fv fg p f δ (es.map λ(k:Nat)=>D.int (lo + (k:Int)))=.ok (es.map λ(k:Nat)=>F (lo + (k:Int))):=by
  intro es lo
  induction es with
  |nil=>intro _;rfl
  |cons k es ih=>
   intro h;obtain⟨δ1,w,e1,e2,e3,e4⟩:=h k D5;have e5:=ih λj hj=>h j (C7 _ hj);rw[A8,A8];show((fg (.int (lo + (k:Int))) δ).bind λ δ1=>(p δ1).bind λb=>if b=true then(f δ1).bind λw=>(Fv fg p f δ _).bind λrs=> .ok (w.d::rs) else Fv fg p f δ _)=_;rw[e1];simp only[R.bind_ok,e2,if_true,e3];rw[e5];simp only[R.bind_ok,e4]
 intro n lo h;exact all (List.range n) lo λk hk=>h k (K9.mp hk)
def ah_3{j:Int}(h1: -4611686018427387903<=j)(h2:j < 4611686018427387904):Cr [.int j]=.ok (Ga 0 j.toNat):=by
 have h:j.natAbs < 4611686018427387904:=by omega
 exact if_pos h
def o_0{m:Nat}{fi:FI}{fg:FGc}{p:FT}{f:FE}{δ:DE}{ds rs:List D}(h:fi δ=.ok ds)(hl:ds.length<=16777216)(hc:Fv fg p f (δ ++ List.replicate m none) ds=.ok rs):Ch m fi fg p f δ=.ok (.ow (.lst rs)):=by
 unfold Ch;rw[h];simp only[R.bind_ok];rw[if_pos hl,hc];rfl
def do_6(d:D):Sl.pub (.sh d)=some d:=rfl
def do_7(d:D):Sl.pub (.ow d)=none:=rfl
def do_8:Sl.pub .no=none:=rfl
def do_9(d:D):Sl.any (.sh d)=some d:=rfl
def dp_0(d:D):Sl.any (.ow d)=some d:=rfl
def dp_1:Sl.any .no=none:=rfl
def dc_9(d:D):Sl.give (.sh d)=.sh d:=rfl
def dd_0(d:D):Sl.give (.ow d)=.sh d:=rfl
def dd_1:Sl.give .no=.no:=rfl
def Bg{g h:FS}{Δ Δ':SE}(e:g Δ=.nx Δ'):Ag g h Δ=h Δ':=by unfold Ag;rw[e]
def p_8{n:Nat}{g:FS}{ds:List D}{w:W}(e:g (Bb n ds)=.rt w):Ar n g ds=.ok w:=by unfold Ar;rw[e]
theorem l_2{fg:FGc}{p:FT}{f:FE}{δ:DE}(P:D->Bool)(F:D->D):∀(ds:List D),(∀d∈ds,∃δ1,fg d δ=.ok δ1/\p δ1=.ok (P d)/\(P d=true->∃w,f δ1=.ok w/\w.d=F d))->
  Fv fg p f δ ds=.ok ((ds.filter P).map F)
 | [],_=>rfl
 |d::ds,h=>by
  obtain⟨δ1,e1,e2,e3⟩:=h d D5;have ih:=l_2 P F ds λx hx=>h x (C7 _ hx);show((fg d δ).bind λ δ1=>(p δ1).bind λb=>if b=true then(f δ1).bind λw=>(Fv fg p f δ ds).bind λrs=> .ok (w.d::rs) else Fv fg p f δ ds)=_;rw[e1];simp only[R.bind_ok,e2];cases hP:P d with
  |true=>
   obtain⟨w,e4,e5⟩:=e3 hP;rw[if_pos rfl,e4,ih];simp only[R.bind_ok,e5,ZA1 hP,A8]
  |false=>
   rw[if_neg A6,ih,ZA0 (by rw[hP];exact A6)]
def cq_8{fg:FGc}{f:FE}{δ:DE}(F:D->D)(ds:List D)(h:∀d∈ds,∃δ1 w,fg d δ=.ok δ1/\f δ1=.ok w/\w.d=F d):
  Fv fg (λ_=> .ok true) f δ ds=.ok (ds.map F):=by
 have:=l_2 (fg:=fg) (p:=λ_=> .ok true) (f:=f) (δ:=δ) (λ_=>true) F ds λd hd=>by
  obtain⟨δ1,w,e1,e2,e3⟩:=h d hd;exact⟨δ1,e1,rfl,λ_=>⟨w,e2,e3⟩⟩
 rw[this,Q6.mpr λ_ _=>rfl]
def bm_8:Cu "int" .non=some false:=rfl
def bv_6(b:Bool):Cu "int" (.bl b)=some true:=rfl
def bm_9(i:Int):Cu "int" (.int i)=some true:=rfl
def bn_0(x:Str):Cu "int" (.str x)=some false:=rfl
def bn_1(l:List D):Cu "int" (.lst l)=some false:=rfl
def bn_2(l:List D):Cu "int" (.tup l)=some false:=rfl
def bg_4:Cu "bool" .non=some false:=rfl
def bn_3(b:Bool):Cu "bool" (.bl b)=some true:=rfl
def bg_5(i:Int):Cu "bool" (.int i)=some false:=rfl
def bg_6(x:Str):Cu "bool" (.str x)=some false:=rfl
def bg_7(l:List D):Cu "bool" (.lst l)=some false:=rfl
def bg_8(l:List D):Cu "bool" (.tup l)=some false:=rfl
def bn_4:Cu "str" .non=some false:=rfl
def bv_7(b:Bool):Cu "str" (.bl b)=some false:=rfl
def bn_5(i:Int):Cu "str" (.int i)=some false:=rfl
def bn_6(x:Str):Cu "str" (.str x)=some true:=rfl
def bn_7(l:List D):Cu "str" (.lst l)=some false:=rfl
def bn_8(l:List D):Cu "str" (.tup l)=some false:=rfl
def bg_9:Cu "list" .non=some false:=rfl
def bn_9(b:Bool):Cu "list" (.bl b)=some false:=rfl
def bh_0(i:Int):Cu "list" (.int i)=some false:=rfl
def bh_1(x:Str):Cu "list" (.str x)=some false:=rfl
def bh_2(l:List D):Cu "list" (.lst l)=some true:=rfl
def bh_3(l:List D):Cu "list" (.tup l)=some false:=rfl
def ay_7:Cu "tuple" .non=some false:=rfl
def bh_4(b:Bool):Cu "tuple" (.bl b)=some false:=rfl
def ay_8(i:Int):Cu "tuple" (.int i)=some false:=rfl
def ay_9(x:Str):Cu "tuple" (.str x)=some false:=rfl
def az_0(l:List D):Cu "tuple" (.lst l)=some false:=rfl
def az_1(l:List D):Cu "tuple" (.tup l)=some true:=rfl
end L3
namespace L3
open PySem PySem.Spec PyProof.Rows L2
variable{K:Frag}{fd:FuncData}{mg:AB}{us:List Value}{base:Heap}{H:Hp}{X:Cx}{pos:Pos}{v:V}
def bh_5:List Value->Bool
 | .ref _::r=>bh_5 r
 |l=>l == [.type "ValueError",.type "Exception",.type "BaseException",.type "object"]
theorem ae_0(self:Value):∀{l:List Value},bh_5 l=true->refuseLoop self "__setattr__" l=pure .unit
 | [],e=>by cases e
 | .ref c::r,e=>by rw[refuseLoop_ref];exact ae_0 self e
 | .type n::r,e=>by
  have e':(Value.type n::r)= [.type "ValueError",.type "Exception",.type "BaseException",.type "object"]:=eq_of_beq e;rw[e'];exact PySem.F.store_ValueError.passes self
 | .none::r,e=>by cases(eq_of_beq (show((Value.none::r) == [.type "ValueError",.type "Exception",.type "BaseException",.type "object"])=true from e))
 | .bool b::r,e=>by cases(eq_of_beq (show((Value.bool b::r) == [.type "ValueError",.type "Exception",.type "BaseException",.type "object"])=true from e))
 | .int b t::r,e=>by cases(eq_of_beq (show((Value.int b t::r) == [.type "ValueError",.type "Exception",.type "BaseException",.type "object"])=true from e))
 | .str b t::r,e=>by cases(eq_of_beq (show((Value.str b t::r) == [.type "ValueError",.type "Exception",.type "BaseException",.type "object"])=true from e))
 | .builtin b::r,e=>by cases(eq_of_beq (show((Value.builtin b::r) == [.type "ValueError",.type "Exception",.type "BaseException",.type "object"])=true from e))
theorem au_4:∀{l:List Value},bh_5 l=true->l.contains (.type "object")=true/\l.isEmpty=false
 | [],e=>by cases e
 | .ref c::r,e=>⟨by rw[M5,(au_4 (l:=r) e).1,ZD0],rfl⟩
 | .type n::r,e=>by
  have e':(Value.type n::r)= [.type "ValueError",.type "Exception",.type "BaseException",.type "object"]:=eq_of_beq e;rw[e'];exact⟨by decide,rfl⟩
 | .none::r,e=>by cases(eq_of_beq (show((Value.none::r) == [.type "ValueError",.type "Exception",.type "BaseException",.type "object"])=true from e))
 | .bool b::r,e=>by cases(eq_of_beq (show((Value.bool b::r) == [.type "ValueError",.type "Exception",.type "BaseException",.type "object"])=true from e))
 | .int b t::r,e=>by cases(eq_of_beq (show((Value.int b t::r) == [.type "ValueError",.type "Exception",.type "BaseException",.type "object"])=true from e))
 | .str b t::r,e=>by cases(eq_of_beq (show((Value.str b t::r) == [.type "ValueError",.type "Exception",.type "BaseException",.type "object"])=true from e))
 | .builtin b::r,e=>by cases(eq_of_beq (show((Value.builtin b::r) == [.type "ValueError",.type "Exception",.type "BaseException",.type "object"])=true from e))
structure XCls(K:Frag)(C:Addr):Prop where
 sa:findIn K (.ref C) "__setattr__" =some (some (.builtin "object.__setattr__"))
 over:(clsIn K C).any (λcd=>bh_5 cd.mro && cd.hasDict)=true
section
variable{prog:Program}{w:World}{A:Around}{E:AA}{s:Shared}{K:Frag}{x C:Addr}{R:Result->Shared->Prop}
def dd_2{ox:Obj}{od:Option Obj}{name:Str}{tk:Tok}{v:Value}(X:K.In s.heap)(I:InstAt s.heap x ox C od)(xc:XCls K C)(ha:findIn K (.ref C) name=some none)
  (h:wpAny (model prog w) A.in1 (Builtin.ObjectAttr.storeInOwnDict (.ref x) (.ref C) (.str name tk) name v false)
   (λfin s'=>match fin with| .done f=>R (.ok f) s'| .again c'=>c'.quiet=true/\codeAny (model prog w) A c' R s') (λe s'=>R (.error e) s') s):
  codeAny (model prog w) A (.call (.builtin "object.__setattr__") ⟨[.ref x,.str name tk,v],[]⟩) R s:=by
 have SF:=PySem.F.store_object;obtain⟨cd,hc,ho⟩:=any_some xc.over;rw[C8]at ho;obtain⟨hs1,hs2⟩:=au_4 ho.1;have sub:Looks (model prog w) s.heap (isInstance (.ref x) (.type "object")) true:=I.type.andThen (looks_mroIn X (by unfold mroIn;rw[hc,Option.bind_some,if_neg (by rw[hs2];decide),hs1]));refine codeAny_call_builtin SF.slot.plain SF.entry (@check_slot (model prog w) _ _ s "object.__setattr__" "object" "__setattr__" (.ref x) [.str name tk,v] [] _ SF.kind SF.split sub (SF.args (.ref x) (.str name tk) v) ?_);have hm:Looks (model prog w) s.heap (mroOf (.ref C)) cd.mro:=(ZB7 X hc).andThen .now;rw[osa_eq,refuse_eq];refine A7 (A7 (I.type.here (A7 (hm.here ?_))));rw[ae_0 _ ho.1];refine E7 (A7 (I.type.here (A7 ((ZC9 X ha).here (A7 (E7 (a:=(none:Option Value)) ?_))))));exact h
def ci_2{D:Addr}{name:Str}{tk:Tok}{v:Value}{Q:PySem.Fin->Shared->Prop}(hD:s.heap.get? D=some {cls:=.type "dict",data:=.dict #[]})
  (h:∀h' tk,h'.Ns1 D (λy=>if y=name then some v else none)->Heap.SameBut D s.heap h'->Q (.done (.ret .none)) {s with heap:=h',toks:=tk}):wpAny (model prog w) A (Builtin.ObjectAttr.storeInDict D (.str name tk) name v) Q E s:=by
 have cj:s.heap.Ns D λ_=>none:=⟨_, #[],_,hD,rfl,λ_ he=>(Array.not_mem_empty _ he).elim,λ_=>rfl⟩;unfold Builtin.ObjectAttr.storeInDict Builtin.ObjectAttr.newKeyGuard
 wp_walk using wpAny_nsSet1 (Heap.Ns1.of_empty cj)
 intro h' n sb;obtain⟨o,es,ep,at1,is1,few⟩:=n.count (.cons name v .nil);have le:es.size<=sizeLine + 1:=C5 few (by simp[D6]);exact A7 (wpAny_lookBehind at1 (is1▸pastItsLine_dict le) (E7 (h h' _ n sb)))
def bo_0{name:Str}{v:Value}{us:Array Value}{Q:Unit->Shared->Prop}(X:K.In s.heap)(hx:s.heap.get? x=some ⟨.ref C,none,.fields us, #[]⟩)(xc:XCls K C)(ha:findIn K (.ref C) name=some none)
  (h:∀h' tk,h'.get? x=some ⟨.ref C,some s.heap.objs.size,.fields us, #[]⟩->h'.Ns1 s.heap.objs.size (λy=>if y=name then some v else none)->(∀b o,b≠x->s.heap.get? b=some o->h'.get? b=some o)->Q .unit {s with heap:=h',toks:=tk}):
  wpAny (model prog w) A (setAttr (.ref x) name v) Q E s:=by
 have I:InstAt s.heap x ⟨.ref C,none,.fields us, #[]⟩ C none:=⟨hx,rfl,rfl,True.intro⟩;refine set_plain X I xc.sa (dd_2 (s:={s with toks:=s.toks + 1}) X I xc ha ?_);obtain⟨cd,hc,hd'⟩:=any_some xc.over;rw[C8]at hd';refine A7 (E7 (A7 (A7 (wpAny_loadPart (s:={s with toks:=s.toks + 1}) hx (A7 (ZC7 (s:={s with toks:=s.toks + 1}) (ZB7 X hc) ?_))))));rw[hd'.2]
 
 have Fa:x≠s.heap.objs.size:=C9 (A5 hx);have old:∀b o,b≠x->s.heap.get? b=some o->((s.heap.push {cls:=.type "dict",data:=.dict #[]}).update x λo=>{o with dict:=some s.heap.objs.size}).get? b=some o:=λb o hb e=>by
  rw[Heap.get?_update_ne _ _ _ _ hb];exact A4 _ e
 have itself:=R9 (λo:Obj=>{o with dict:=some s.heap.objs.size}) (A4 {cls:=.type "dict",data:=.dict #[]} hx) rfl;have isD:((s.heap.push {cls:=.type "dict",data:=.dict #[]}).update x λo=>{o with dict:=some s.heap.objs.size}).get? s.heap.objs.size=some {cls:=.type "dict",data:=.dict #[]}:=by
  rw[Heap.get?_update_ne _ _ _ _ (Ne.symm Fa)];exact B9 _ rfl
 refine A7 (wpAny_alloc' (A7 (wpAny_update' (A4 _ hx) (E7 (ci_2 isD λh' tk n sb=>h h' tk ?_ n λb o hb e=> ?_)))))
 ·rw[sb.2 x Fa];exact itself
 ·rw[sb.2 b (C9 (A5 e))];exact old b o hb e
end
def XE(a:Addr)(o:Obj):HO:=.ext λh=>h.get? a=some o
def XE.ok{P:Program}{w:World}{h:Heap}{a:Addr}{o:Obj}(e:h.get? a=some o):ObjOk P w H h a (XE a o):=⟨e,⟨o,e⟩,λ_ _ p k=>k _ p⟩
theorem XE.get{P:Program}{w:World}{h:Heap}{a:Addr}{o:Obj}(x:HOk P w H h)(e:H a=some (XE a o)):h.get? a=some o:=(x a _ e).1
def XO.ok{P:Program}{w:World}{h:Heap}{a C:Addr}{dx:Option Addr}{us:Array Value}{sl:Array (Option Value)}(e:h.get? a=some ⟨.ref C,dx,.fields us,sl⟩)(c2:us[2]? =some .none):ObjOk P w H h a (XO a C dx):=
 ⟨⟨us,sl,e,c2⟩,⟨_,e⟩,λ_ _ ⟨us,sl,p,c⟩ k=>⟨us,sl,k _ p,c⟩⟩
section
variable{X:Cx}{zd:AE}{σ:Sg}{H:Hp}{s:Shared}
def Inv.excSet{a:Addr}{o0 o1:Obj}{h':Heap}{t':Nat}{fs:List (Str×V)}{mA:AB}(I:Inv X zd σ H s)(e:H a=some (XE a o0))(hx:h'.get? a=some o1)(hn:h'.Ns1 s.heap.objs.size mA)(hr:∀f,RelO (fs.lookup f) (mA f))
  (k:∀b o,b≠a->s.heap.get? b=some o->h'.get? b=some o):Inv X zd σ (upd (upd H s.heap.objs.size (.xd fs)) a (XE a o1)) {s with heap:=h',toks:=t'}:=by
 have hf:H s.heap.objs.size=none:=I.hok.fresh (B5 _);have other:∀b u,H b=some u->b≠a->(upd (upd H s.heap.objs.size (.xd fs)) a (XE a o1)) b=some u:=λb u q n=>by
  rw[Aq n,Aq (Ej q hf)];exact q
 refine I.un (h':=h') ⟨λb o q n _ _=>k b o (λz=>by subst z;rw[e]at n;cases n) q,λb o q n _ _=>⟨o.slots,k b o (λz=>by subst z;rw[e]at n;cases n) q⟩,λb o q n _=> ?_,λb o q _=> ?_,λb xs q=> ?_,λb o u q=> ?_,λb ps q=> ?_⟩ λb u q=> ?_
 ·rw[Aq (λz=>by subst z;rw[e]at n;cases n),Aq (C9 (A5 q))];exact n
 ·by_cases z:b=a
  ·subst z;exact⟨_,hx⟩
  ·exact⟨_,k b o z q⟩
 ·exact other b _ q λz=>by subst z;rw[e]at q;cases q
 ·exact other b _ q λz=>by subst z;rw[e]at q;cases q
 ·exact⟨#[],by rw[other b _ q λz=>by subst z;rw[e]at q;cases q];simp⟩
 ·by_cases z:b=a
  ·subst z;rw[Bj]at q;cases q;exact XE.ok hx
  ·rw[Aq z]at q
   by_cases z2:b=s.heap.objs.size
   ·subst z2;rw[Bj]at q;cases q;exact⟨mA,hn,hr⟩
   ·rw[Aq z2]at q;refine(I.hok b u q).stay (λc v hc z3=>k c v ?_ z3) (λc z3=>other c _ z3 λz4=> ?_) λc xs z3=>other c _ z3 λz4=> ?_
    ·rcases hc with rfl|hc
     ·exact z
     ·exact λz4=>by subst z4;rw[e]at hc;cases hc
    ·subst z4;rw[e]at z3;cases z3
    ·subst z4;rw[e]at z3;cases z3
def Inv.forget{a:Addr}{φ:Heap->Prop}(I:Inv X zd σ (upd H a (.ext φ)) s)(hn:H a=none):Inv X zd σ H s:=by
 have sub:∀b u,H b=some u->upd H a (.ext φ) b=some u:=λb u e=>by rw[Aq (Ej e hn)];exact e
 have nf:∀b,upd H a (.ext φ) b=none->H b=none:=λb e=>by
  by_cases z:b=a
  ·subst z;exact hn
  ·rw[Aq z]at e;exact e
 have bk:∀b u,upd H a (.ext φ) b=some u->(∀ψ,u≠ .ext ψ)->H b=some u:=λb u e n=>by
  by_cases z:b=a
  ·subst z;rw[Bj]at e;cases e;exact absurd rfl (n φ)
  ·rw[Aq z]at e;exact e
 have B:=I.base;refine⟨I.ok,I.os,I.bare,⟨B.keep,B.slot,λb u q n x=>nf b (B.free b u q n x),B.there,λb xs q=>bk _ _ (B.tups b xs q) (λ_ z=>nomatch z),λb u v q=>bk _ _ (B.frzs b u v q) (λ_ z=>nomatch z),λb ps q=> ?_⟩,I.loc,I.cell,nf _ I.free,λx c e=>nf _ (I.freeC x c e),λp hp=> ?_,λb u e=> ?_,I.len⟩
 ·obtain⟨more,z⟩:=B.tbls b ps q;exact⟨more,bk _ _ z (λ_ z=>nomatch z)⟩
 ·obtain⟨p1,p2,p3⟩:=I.pin p hp;exact⟨p1,nf _ p2,p3⟩
 ·exact(I.hok b u (sub b u e)).stay (λ_ _ _ q=>q) (λc q=>bk _ _ q (λ_ z=>nomatch z)) (λc xs q=>bk _ _ q (λ_ z=>nomatch z))
end
def al_5(C:Addr)(f:Str):Sp:=λvs H Q _=>∃a v us,vs= [.ref a,v]/\H a=some (XE a ⟨.ref C,none,.fields us, #[]⟩)/\∀d,H d=none->d≠a->Q .non (upd (upd H d (.xd [(f,v)])) a (XE a ⟨.ref C,some d,.fields us, #[]⟩))
section
variable{X:Cx}{C:Addr}{f:Str}{pos pos' p1 p2:Pos}{x y:Str}
def di_3(C:Addr)(f:Str):TS:=λD σ H=>∃a v us,σ[0]? =some (some (.ref a))/\σ[1]? =some (some v)/\H a=some (XE a ⟨.ref C,none,.fields us, #[]⟩)/\∀d,H d=none->d≠a->D.nx σ (upd (upd H d (.xd [(f,v)])) a (XE a ⟨.ref C,some d,.fields us, #[]⟩))
def cb_2(xc:XCls X.K C)(hn:findIn X.K (.ref C) f=some none)(ho:PE X (.Name x p1) (tVar 0))(hv:PE X (.Name y p2) (tVar 1))(hs:swapsWith (.Name y p2) (some (.Attribute (.Name x p1) f pos')) pos.line X.env=pure false:=by rfl):
  PS X (.Assign [.Attribute (.Name x p1) f pos'] (.Name y p2) pos) (di_3 C f):=by
 intro zd s σ H D I h;obtain⟨a,v,us,e0,e1,ha,q⟩:=h;refine V2 (Ay (hv zd s σ H (λy H1=>y=v/\H1=H) I ⟨v,e1,rfl,rfl⟩) λu s1 ⟨y,H1,I1,ry,ey,eH⟩=>Ay (ho zd s1 σ H1 (λy H2=>y=.ref a/\H2=H) I1 ⟨.ref a,e0,rfl,eH⟩) λov s2 ⟨x,H2,I2,rx,ex,eH2⟩=> ?_) hs;subst ey ex eH eH2;obtain rfl:ov=Value.ref a:=rx;refine bo_0 I2.kIn (XE.get I2.hok ha) xc hn λh' tk g1 g2 g3=> ?_;refine⟨σ,_,Inv.excSet I2 (t':=tk) (fs:=[(f,y)]) ha g1 g2 (λg=> ?_) g3,q _ (I2.hok.fresh (B5 _)) ?_⟩
 ·show RelO ([(f,y)].lookup g) (if g=f then some u else none)
  by_cases z:g=f
  ·subst z;rw[if_pos rfl];simp only[E9,N5];exact ry
  ·rw[if_neg z];have zb:(g ==f)=false:=by simpa using z
   simp only[E9,zb,List.lookup_nil]
   trivial
 ·exact X6 (A5 (XE.get I2.hok ha))
end
abbrev bmVE:List Value:=[.type "ValueError",.type "Exception",.type "BaseException",.type "object"]
def l_9(es:Array DictEntry):Bool:=es.toList.all λe=>match e.key with| .str _ _=>true|_=>false
def bv_8{es:Array DictEntry}(h:l_9 es=true):StrKeys es:=λe he=>by
 have q:=F0.mp h e (Array.mem_toList_iff.mpr he);revert q;cases hk:e.key with
 |str n t=>intro _;exact⟨n,t,rfl⟩
 |_=>intro q;cases q
def cb_3{N:Addr}{oc:Value}{od:Option Addr}{es:Array DictEntry}{ep:Nat}{sl:Array (Option Value)}(l:K.lookup N=some ⟨oc,od,.dict es ep,sl⟩)(k:l_9 es=true){h:Heap}(X:K.In h):h.Ns N (nsFind es):=
 ⟨_,es,ep,X _ _ l,rfl,bv_8 k,λ_=>rfl⟩
def XMk(K:Frag)(C fI:Addr):Prop:=∃(nm q:Str) (N:Addr) (bs bm:List Value) (sn:List Str) (sub:List Value) (ab:Bool) (col:Option Bool) (dd:Option Addr) (k0 k1 k2 k3 k5:Option Value) (mN:AB),
 K.lookup C=some (excClassObj nm q C N bs bm true sn sub ab col dd k0 k1 k2 k3 k5 "ValueError.__new__")/\(∀h:Heap,K.In h->OwnTail h bmVE bm)/\(∀h:Heap,K.In h->h.Ns N mN)/\mN "__init__" =some (.ref fI)
def dp_2{C fI N L:Addr}{nm q:Str}{bs:List Value}{sn:List Str}{sub:List Value}{ab:Bool}{col:Option Bool}{dd:Option Addr}{k0 k1 k2 k3 k5:Option Value}{oc c0 oL:Value}{od ddL odL:Option Addr}{es esL:Array DictEntry}{ep epL:Nat}{sl sl0 slL:Array (Option Value)}{cd:ClassData}
  (lc:K.lookup C=some (excClassObj nm q C N bs (.ref L::bmVE) true sn sub ab col dd k0 k1 k2 k3 k5 "ValueError.__new__")) (ln:K.lookup N=some ⟨oc,od,.dict es ep,sl⟩) (kn:l_9 es=true) (hi:nsFind es "__init__" =some (.ref fI))
  (ll:K.lookup L=some ⟨c0,ddL,.cls cd,sl0⟩) (lm:K.lookup cd.ns=some ⟨oL,odL,.dict esL epL,slL⟩) (km:l_9 esL=true) (hL:nsFind esL "__init__" =none):XMk K C fI:=
 ⟨nm,q,N,bs,_,sn,sub,ab,col,dd,k0,k1,k2,k3,k5,nsFind es,lc,λh X=> .own (X _ _ ll) (cb_3 lm km X) hL .base,λh X=>cb_3 ln kn X,hi⟩
def dd_3{C N L:Addr}{nm q:Str}{bs:List Value}{sn:List Str}{sub:List Value}{ab:Bool}{col:Option Bool}{dd:Option Addr}{k0 k1 k2 k3 k5:Option Value}
  (lc:K.lookup C=some (excClassObj nm q C N bs (.ref L::bmVE) true sn sub ab col dd k0 k1 k2 k3 k5 "ValueError.__new__")) (sa:findIn K (.ref C) "__setattr__" =some (some (.builtin "object.__setattr__"))):XCls K C:=
 ⟨sa,by unfold clsIn;rw[lc];rfl⟩
def cb_4{c:Bool}{P:Program}{w:World}{x qual sf at_ fl:Str}{st:Stmt}{f C:Addr}{k:Nat}(F:Fun K x qual st f fd)(S:FnScope [sf,at_] [sf,at_] (Cc st))
  (zj:∀(zp:Value) (A:Around) (outer:List Env) (s:Shared) (H:Hp) (E:XK),PSs (Gc c P w K mg base [sf,at_] qual (Cc st) f zp A outer s H E) (Ey st) (di_3 C fl)):FnX P w K mg base c (k + 1) f fd [sf,at_] (al_5 C fl):=by
 refine Fun.okX F S (λvs H Q E h=> ?_) λzp A outer s H vs Q E hr h=>⟨_,zj zp A outer s H E, ?_⟩
 ·obtain⟨a,v,us,rfl,_⟩:=h;rfl
 ·obtain⟨a,v,us,rfl,ha,q⟩:=h;exact⟨a,v,us,rfl,rfl,ha,q⟩
theorem al_6{h:Heap}:∀{bm:List Value},OwnTail h bmVE bm->bm.contains (.type "BaseException")=true
 |_,.base=>by decide
 |_,.own _ _ _ t=>by rw[M5,al_6 t,ZD0]
structure XC(P:Program)(w:World)(K:Frag)(mg:AB)(base:Heap)(c:Str)(f:Str)(C:Addr):Prop where
 at_:ClsAt K c C
 glob:mg c=some (.ref C)
 kp:keepIn K (.ref C)=true
 xc:XCls K C
 made:∃(fI:Addr) (fd:FuncData) (ps:List Str) (oI:Obj),XMk K C fI/\K.lookup fI=some oI/\oI.cls=.type "function" /\FnX P w K mg base false 1 fI fd ps (al_5 C f)/\Binds K fd ps []
section
variable{X:Cx}{zd:AE}{σ:Sg}{H:Hp}{s:Shared}{C:Addr}{c f:Str}
def cq_9{e d:Addr}{o0 o1 x:HO}:upd (upd (upd H e o0) d x) e o1=upd (upd H d x) e o1:=by
 funext b
 unfold upd
 by_cases z:b=e
 ·rw[if_pos z,if_pos z]
 ·rw[if_neg z,if_neg z,if_neg z]
def ci_3{u:Value}{Q:AA}{E:AA}(M:XC X.prog X.w X.K X.mg X.base c f C)(hr:RoomC false 2 X.A)(I:Inv X zd σ H s)(r:RelV v u)
  (h:∀a d t s',H a=none->H d=none->d≠a->s.heap.objs.size<=a->Inv X zd σ (upd (upd H d (.xd [(f,v)])) a (XE a ⟨.ref C,some d,.fields #[.ref t,.none,.none,.none,.bool false,.none], #[]⟩)) s'->Q (.ref a) s'):
  wpAny (model X.prog X.w) X.A (call (.ref C) [u]) Q E s:=by
 obtain⟨fI,fd,ps,oI,⟨nm,q,N,bs,bm,sn,sub,ab,col,dd,k0,k1,k2,k3,k5,mN,lc,tl,hn,hi⟩,lI,hI,F,hb⟩:=M.made;have KX:=I.kIn;obtain⟨hh,g,dr,tk,os⟩:=s;refine cn_1 Y2 (tl hh KX) (KX _ _ lc) (hn hh KX) hi (KX _ _ lI) hI (λh' e me ze=> ?_) (by show 1<=sizeLine;rw[D6];omega);obtain⟨kk,new,t,et,_,_⟩:=me;have I2:Inv X zd σ (upd H e (XE e ⟨.ref C,none,.fields #[.ref t,.none,.none,.none,.bool false,.none], #[]⟩)) ⟨h',g,dr,tk,os⟩:=I.laid (h':=h') (t':=tk) kk ze (XE.ok et);have he:H e=none:=I.hok.fresh ze;have r2:Vals [.ref e,v] [.ref e,u]:=.cons rfl (.cons r .nil);have sp:al_5 C f [.ref e,v] (upd H e (XE e ⟨.ref C,none,.fields #[.ref t,.none,.none,.none,.bool false,.none], #[]⟩)) (λy H2=>y=.non/\∃d,H d=none/\d≠e/\H2=upd (upd H d (.xd [(f,v)])) e (XE e ⟨.ref C,some d,.fields #[.ref t,.none,.none,.none,.bool false,.none], #[]⟩)) (λ_ _ _=>False):=
  ⟨e,v,_,rfl,Bj,λd hd ne=>⟨rfl,d,by rw[Aq ne]at hd;exact hd,ne,cq_9⟩⟩
 have hl: [Value.ref e,u].length=ps.length:=F.len _ _ _ _ sp;have hb':=hb ⟨h',g,dr,tk,os⟩ [.ref e,u] I2.kIn (by rw[D4];exact hl);rw[D4]at hb';refine V8 (R3 (F.run _ X.stack _ _ ⟨[.ref e,u],[]⟩ [.ref e,u] [.ref e,v] _ _ (hr.make C [u] []) (I2.env0.make C [u] []) hb' r2 sp) λr s' hq=> ?_);cases r with
 |error x=>
  obtain⟨a,C',dx,T,H',_,_,_,_,_,_,_,_,_,_,z⟩:=hq;exact z.elim
 |ok fl=>
  cases fl with
  |ret y=>
   obtain⟨v',H',I3,rv,ev,d,hd,ne,eH⟩:=I2.after hq;subst ev eH;exact⟨rv,h e d t s' he hd ne ze I3⟩
  |next=>exact False.elim hq
  |brk=>exact False.elim hq
  |cont=>exact False.elim hq
def Lk1(X:Cx)(EX:Au):Prop:=∀(zd:AE) (σ:Sg) (H H':Hp) (s s':Shared) (a C:Addr) (dx:Option Addr) (o:Obj) (us:Array Value),Inv X zd σ H s->Inv X zd σ H' s'->s'.heap.get? a=some o->o.cls=.ref C->o.dict=dx->o.data=.fields us->us[1]? =some .none->us[2]? =some .none->
 H' a=none->s.heap.objs.size<=a->EXE X.K (EX σ) (.ref C) dx H'->X.xe (.ref a) s'
def aq_6{cm:Bool}{P:Program}{w:World}{N:List Str}{qual:Str}{scope:Scope}{f:Addr}{cd:Value}{A:Around}{outer:List Env}{s:Shared}{E:XK}:
  Lk1 (Gc cm P w K mg base N qual scope f cd A outer s H E) (λ_=>EXof K E):=λzd σ H H' s s' a C dx o us I I' he hc hx hd h1 c2 n1 z1 q=>bf_3 I I' he hc hx hd h1 c2 n1 z1 q.of
def af_0(c f:Str)(js:List Nat)(fe:FE):FS:=λ Δ=>match fe (At (gsome js Δ)) with
 | .ok w=> .ex ⟨c,[f],[w.d]⟩ (gsome js Δ)
 | .ex x=> .ex x (gsome js Δ)
 | .no=> .no
def bo_2{EX:Au}(js:List Nat){e:Expr}{fe:FE}{np zf pos:Pos}(M:XC X.prog X.w X.K X.mg X.base c f C)(hr:RoomC true 2 X.A)(l1:Lk1 X EX)(he:ED X EX e fe)(hg:Gl X c:=by rfl)(hdb:AG c:=by decide)
  (hs:starEach [e] X.env=(false,eval e X.env)::starEach [] X.env:=by rfl) (hpl:(backTo zf (starEach [] X.env)).any (·.1)=false:=by rfl):
  SD X EX (.Raise (some (.Call (.Name c np) [e] [] zf)) none pos) (af_0 c f js fe):=by
 intro zd s σ H D I q;obtain⟨H0,G0,G,Δ,O,E,q⟩:=q;obtain⟨G',O',sg,E'⟩:=E.gsome js;obtain⟨fI,fd,ps,oI,⟨nm,qn,N,bs,bm,sn,sub,ab,col,dd,k0,k1,k2,k3,k5,mN,lc,tl,hn,hi⟩,lI,hI,F,hb⟩:=M.made;have hB:bm.contains (.type "BaseException")=true:=al_6 (tl s.heap I.kIn);rw[arm_exec_Raise];have tD0:tD X.K EX fe σ H λv H1=>∃v' w G1,[v]= [v']/\fe (At (gsome js Δ))=.ok w/\Step G' H G1 H1/\Has X.K G1 v' w.d:=by
  refine⟨G',At (gsome js Δ),E'.st.gh,E'.gsh, ?_⟩;unfold af_0 at q;cases e1:fe (At (gsome js Δ)) with
  |ok w=>exact WP.intro λv G1 H1 st r=>⟨v,w,G1,rfl,rfl,st,r⟩
  |ex x=>rw[e1]at q;exact q σ G' H O' E' sg
  |no=>rw[e1]at q;exact q
 have mk:wpAny (model X.prog X.w) X.A (eval (.Call (.Name c np) [e] [] zf) X.env) (λv s1=>∃a t dx,v=.ref a/\s1.heap.get? C=some (excClassObj nm qn C N bs bm true sn sub ab col dd k0 k1 k2 k3 k5 "ValueError.__new__")/\
   s1.heap.get? a=some {cls:=.ref C,dict:=dx,data:=.fields #[.ref t,.none,.none,.none,.bool false,.none]}/\X.xe (.ref a) s1) X.xe s:=by
  refine M4 (r_9 I hg M.glob ?_ hdb);refine X8 (h₀:=X.base) I.ok.mod.kin M.kp (Ay (i_7 he r_0 hs zf zd s σ H (λvs H1=>∃v' w G1,vs= [v']/\fe (At (gsome js Δ))=.ok w/\Step G' H G1 H1/\Has X.K G1 v' w.d) I tD0) λus s1 ⟨vs,H1,I1,r,v,w,G1,ev,ew,st,hv⟩=>⟨I1.kIn, ?_⟩) hs hpl;subst ev;obtain⟨u,rfl,ru⟩:=r.one;refine ci_3 M hr.loose I1 ru λa d t s2 ha hd ne za I2=> ?_;have ga:=XE.get I2.hok Bj;refine⟨a,t,some d,rfl,I2.kIn _ _ lc,ga, ?_⟩;have I3:Inv X zd σ (upd H1 d (.xd [(f,v)])) s2:=Inv.forget I2 (by rw[Aq ne.symm];exact ha);refine l1 zd σ H1 _ s1 s2 a C (some d) _ _ I1 I3 ga rfl rfl rfl rfl rfl (by rw[Aq ne.symm];exact ha) za ?_;have st2:Step G1 H1 (upd G1 d (.xd [(f,v)])) (upd H1 d (.xd [(f,v)])):=Step.new st.gh hd _;refine⟨⟨c,[f],[w.d]⟩,upd G1 d (.xd [(f,v)]),st2.gh,.with_ M.at_ Bj rfl (.cons (hv.mono st2.gg) .nil), ?_⟩;unfold af_0 at q;rw[ew]at q;exact q σ _ _ O' ((E'.grow st).grow st2) (sg.trans (st.gg.trans st2.gg))
 refine A7 (R8 (bb_0 hB (hr.hd rfl) (A7 (E4 mk (λv s3 h3=>A7 (R8 (E7 h3))) λ_ _ x=>x))))
end
section
variable{X:Cx}{zd:AE}{σ:Sg}{H:Hp}{s:Shared}
def ac_8{M:Model}{A:Around}{E:AA}{i:Nat}{n:Str}{Q:Unit->Shared->Prop}(I:Inv X zd σ H s)(hN:X.N.Nodup)(hi:X.N[i]? =some n)(hk:X.env.scope.names.lookup n=some .local)
  (h:∀s',Inv X zd (σ.set i none) H s'->Q .unit s'):wpAny M A (do bindName X.env n .none;unbindBehindTheSuite X.env n pos) Q E s:=by
 obtain⟨m,hn,hl⟩:=id I.loc;have bu:(X.env.scope.kind == .class || (X.env.scope.kind == .module && X.env.locals != X.env.globals))=false:=by rw[I.ok.kind];rfl
 have hiσ:i < σ.length:=by rw[I.len];exact(B6.mp hi).1
 have cne:=I.cne;have tracked:∀{a:Addr} {h':Heap},(∃o,s.heap.get? a=some o/\H a=none)->Heap.SameBut a s.heap h'->HOk X.prog X.w H h':=λ{a h'} ha hs b ob e=>by
  obtain⟨_,_,aq⟩:=ha;refine(I.hok b ob e).stay (λc w' hc q=>(hs.2 c ?_).trans q) (λ_ q=>q) λ_ _ q=>q
  rintro rfl
  rcases hc with rfl|hc
  ·rw[aq]at e;cases e
  ·rw[aq]at hc;cases hc
 refine wpAny_nameGoes_keeps hk hn bu λh' v hn' hs=> ?_;obtain⟨oL,_,_,hoL,_⟩:=id hn;refine h _ ⟨I.ok,I.os,I.bare,⟨λb o e n hb hx=> ?_,λb o e n hb hx=> ?_,I.base.free,λb o e hx=> ?_,I.base.tups,I.base.frzs,I.base.tbls⟩,⟨_,hn',λj y v' e1 e2 e3=> ?_⟩,λy c e=> ?_,I.free,I.freeC,λp hp=> ?_,tracked ⟨oL,hoL,I.free⟩ hs,by simpa using I.len⟩
 ·exact(hs.2 b (C9 (C4 (A5 e) I.ok.above))).trans (I.base.keep b o e n hb hx)
 ·obtain⟨sl,e1⟩:=I.base.slot b o e n hb hx;exact⟨sl,(hs.2 b (C9 (C4 (A5 e) I.ok.above))).trans e1⟩
 ·obtain⟨o',e1⟩:=I.base.there b o e hx;exact⟨o',(hs.2 b (C9 (C4 (A5 e) I.ok.above))).trans e1⟩
 ·by_cases hj:j=i
  ·subst hj;rw[F4 hiσ]at e2;cases e2
  ·rw[C1 (Ne.symm hj)]at e2;obtain⟨u',r',q⟩:=hl j y v' e1 e2 e3;refine⟨u',r', ?_⟩;rcases q with⟨k,e⟩|⟨k,c,e,z⟩
   ·refine .inl ⟨k, ?_⟩;have:y≠n:=λe=>hj (ar_8 hN e1 (e▸hi));simp[this,e]
   ·exact .inr ⟨k,c,e,z.sameBut hs (cne y c e)⟩
 ·obtain⟨w',z⟩:=I.cell y c e;exact⟨w',z.sameBut hs (cne y c e)⟩
 ·obtain⟨e,n,ne,nf,d⟩:=I.pin p hp;exact⟨(hs.2 p.1 ne).trans e,n,ne,nf,d⟩
def Inv.speak{H':Hp}{s':Shared}{a C:Addr}{dx:Option Addr}{us:Array Value}{sl:Array (Option Value)}(I:Inv X zd σ H s)(I':Inv X zd σ H' s')(za:s.heap.objs.size<=a)(e:s'.heap.get? a=some ⟨.ref C,dx,.fields us,sl⟩)(c2:us[2]? =some .none)(hn:H' a=none):Inv X zd σ (upd H' a (.frz ⟨.ref C,dx,.fields us,sl⟩ (XO a C dx))) s':=by
 have B:=I'.base;have ns:∀b o,X.s₀.heap.get? b=some o->b≠a:=λb o q z=>absurd (C4 (A5 q) (C5 I.sz za)) (by rw[z];exact D7 _);have lt:∀b:Addr,b < s.heap.objs.size->b≠a:=λb h z=>absurd (C4 h za) (by rw[z];exact D7 _);have up:∀b u,H' b=some u->upd H' a (.frz ⟨.ref C,dx,.fields us,sl⟩ (XO a C dx)) b=some u:=λb u q=>by rw[Aq (Ej q hn)];exact q
 refine⟨I'.ok,I'.os,I'.bare,⟨B.keep,B.slot,λb o q n x=>by rw[Aq (ns b o q)];exact B.free b o q n x,B.there,λb xs q=>up _ _ (B.tups b xs q),λb o u q=>up _ _ (B.frzs b o u q),λb ps q=>let⟨m,z⟩:=B.tbls b ps q;⟨m,up _ _ z⟩⟩,I'.loc,I'.cell, ?_,λx c q=> ?_,λp hp=> ?_,λb u q=> ?_,I'.len⟩
 ·rw[Aq (lt _ I.lt)];exact I'.free
 ·obtain⟨v,hv⟩:=I.cell x c q;rw[Aq (lt _ hv.lt)];exact I'.freeC x c q
 ·obtain⟨p1,p2,p3⟩:=I'.pin p hp;exact⟨p1,by rw[Aq (lt _ (A5 (I.pin p hp).1))];exact p2,p3⟩
 ·by_cases z:b=a
  ·subst z;rw[Bj]at q;cases q;exact⟨e,XO.ok e c2⟩
  ·rw[Aq z]at q;exact(I'.hok b u q).stay (λ_ _ _ q=>q) (λc q=>up _ _ q) λc xs q=>up _ _ q
end
def tryB(X:Cx)(zd:AE)(W:AA):Cx:={X with pn:=X.pn ++ zd,xe:=W}
structure HX where
 a:Addr
 C:Addr
 dx:Option Addr
 us:Array Value
 sl:Array (Option Value)
 c2:us[2]? =some .none
def HX.ho(e:HX):HO:=.frz ⟨.ref e.C,e.dx,.fields e.us,e.sl⟩ (XO e.a e.C e.dx)
def hand(X:Cx)(e:HX):Cx:={X with A:=X.A.mark (some (.ref e.a)),calm:=false,xe:=λ_ _=>False,H₀:=upd X.H₀ e.a e.ho}
section
variable{X:Cx}{zd aj:AE}{σ:Sg}{H:Hp}{s:Shared}{W:AA}{e:HX}
def ok_tryB:(tryB X zd W).Ok↔X.Ok:=⟨λok=>⟨ok.mod,ok.kind,ok.glob,ok.blt,ok.above,ok.inj,ok.has,ok.cab,ok.hd,ok.frames,ok.stk,ok.exf,ok.bs,ok.bsz,ok.noex,ok.exfs,ok.funs,ok.frf⟩,
 λok=>⟨ok.mod,ok.kind,ok.glob,ok.blt,ok.above,ok.inj,ok.has,ok.cab,ok.hd,ok.frames,ok.stk,ok.exf,ok.bs,ok.bsz,ok.noex,ok.exfs,ok.funs,ok.frf⟩⟩
def Inv.toB(I:Inv X zd σ H s):Inv (tryB X zd W) [] σ H s:=⟨ok_tryB.mpr I.ok,I.os,I.bare,I.base,I.loc,I.cell,I.free,I.freeC,λp hp=>I.pin p (by have hp:p∈(X.pn ++ zd) ++ []:=hp;rwa[D4]at hp),I.hok,I.len⟩
def Inv.ofB(I:Inv (tryB X zd W) aj σ H s):Inv X zd σ H s:=⟨ok_tryB.mp I.ok,I.os,I.bare,I.base,I.loc,I.cell,I.free,I.freeC,λp hp=>I.pin p (J9 _ hp),I.hok,I.len⟩
theorem SP.ofB{D:Ends}{f:Flow}(h:SP (tryB X zd W) aj D f s):SP X zd D f s:=by
 cases f with
 |next=>obtain⟨σ',H',I,q⟩:=h;exact⟨σ',H',Inv.ofB I,q⟩
 |brk=>obtain⟨σ',H',I,q⟩:=h;exact⟨σ',H',Inv.ofB I,q⟩
 |cont=>obtain⟨σ',H',I,q⟩:=h;exact⟨σ',H',Inv.ofB I,q⟩
 |ret u=>obtain⟨v,σ',H',I,r,q⟩:=h;exact⟨v,σ',H',Inv.ofB I,r,q⟩
def Un.hput{fs ex:List Addr}{H0 H':Hp}{h h':Heap}{a:Addr}{o:Obj}{u:HO}(U:Un fs ex H0 H' h h')(z:h.objs.size<=a)(q:H' a=some (.frz o u)):Un fs ex (upd H0 a (.frz o u)) H' h h':=by
 have nb:∀b o,h.get? b=some o->b≠a:=λb o g e=>absurd (A5 g) (by rw[e];exact ZB1.mpr z);refine⟨λb o g n=>U.keep b o g (by rwa[Aq (nb b o g)]at n),λb o g n=>U.slot b o g (by rwa[Aq (nb b o g)]at n),λb o g n=>U.free b o g (by rwa[Aq (nb b o g)]at n),U.there,λb xs e=> ?_,λb ob v e=> ?_,λb ps e=> ?_⟩
 all_goals
  by_cases hb:b=a
  ·subst hb;rw[Bj]at e;cases e
   try exact q
  ·rw[Aq hb]at e
   first|exact U.tups b _ e|exact U.frzs b _ _ e|exact U.tbls b _ e
def Un.htake{fs ex:List Addr}{H0 H1 H':Hp}{h h1 h':Heap}{a:Addr}{v:HO}(U0:Un fs ex H0 H1 h h1)(n:H1 a=none)(U:Un fs ex (upd H0 a v) H' h h')(z:h.objs.size<=a):Un fs ex H0 H' h h':=by
 have nb:∀b o,h.get? b=some o->b≠a:=λb o g e=>absurd (A5 g) (by rw[e];exact ZB1.mpr z);refine⟨λb o g q=>U.keep b o g (by rwa[Aq (nb b o g)]),λb o g q=>U.slot b o g (by rwa[Aq (nb b o g)]),λb o g q=>U.free b o g (by rwa[Aq (nb b o g)]),U.there,λb xs e=> ?_,λb ob v e=> ?_,λb ps e=> ?_⟩
 ·by_cases hb:b=a
  ·subst hb;have:=U0.tups b xs e;rw[n]at this;cases this
  ·exact U.tups b xs (by rwa[Aq hb])
 ·by_cases hb:b=a
  ·subst hb;have:=U0.frzs b ob v e;rw[n]at this;cases this
  ·exact U.frzs b ob v (by rwa[Aq hb])
 ·by_cases hb:b=a
  ·subst hb;obtain⟨m,q⟩:=U0.tbls b ps e;rw[n]at q;cases q
  ·exact U.tbls b ps (by rwa[Aq hb])
def Inv.toH(I:Inv X zd σ H s)(z:X.s₀.heap.objs.size<=e.a)(q:H e.a=some e.ho):Inv (hand X e) zd σ H s:=by
 have nb:∀b o,X.s₀.heap.get? b=some o->b≠e.a:=λb o g y=>absurd (A5 g) (by rw[y];exact ZB1.mpr z);refine⟨⟨I.ok.mod,I.ok.kind,I.ok.glob,I.ok.blt,I.ok.above,I.ok.inj,I.ok.has,I.ok.cab,λz=>absurd z A6,I.ok.frames,I.ok.stk,I.ok.exf,λb o g=> ?_,I.ok.bsz,I.ok.noex,I.ok.exfs,I.ok.funs,λb hb=> ?_⟩,I.os,I.bare,Un.hput I.base z q,I.loc,I.cell,I.free,I.freeC,I.pin,I.hok,I.len⟩
 ·obtain⟨g1,g2⟩:=I.ok.bs b o g;exact⟨g1,(Aq (nb b o g1)).trans g2⟩
 ·obtain⟨_,u,hu,_⟩:=I.ok.funs.mem hb;exact(Aq (nb b u hu)).trans (I.ok.frf b hb)
def Inv.ofH{p0:AE}{σ0:Sg}{H0:Hp}{s0:Shared}(J:Inv X p0 σ0 H0 s0)(n:H0 e.a=none)(z:X.s₀.heap.objs.size<=e.a)(I:Inv (hand X e) zd σ H s):Inv X zd σ H s:=⟨J.ok,I.os,I.bare,Un.htake J.base n I.base z,I.loc,I.cell,I.free,I.freeC,I.pin,I.hok,I.len⟩
end
def di_4(i:Nat):Fl->Fl
 | .nx Δ=> .nx (Δ.set i .no)
 | .bk Δ=> .bk (Δ.set i .no)
 | .ct Δ=> .ct (Δ.set i .no)
 | .rt w=> .rt w
 |_=> .no
def Catches(K:Frag)(C2:Addr)(tb:List (Str×Bool)):Prop:=∀c b,tb.lookup c=some b->∀C,ClsAt K c C->exmOne K (.ref C) (.ref C2)=some b
def Ev.drop{H0:HB}{G0 G H:Hp}{σ:Sg}{Δ:SE}{O:OS}(E:Ev K H0 G0 G H σ Δ O)(i:Nat):Ev K H0 G0 G H (σ.set i none) (Δ.set i .no) O:=by
 refine⟨E.st,by rw[F3,F3];exact E.len,λj d e=> ?_,λj z d e zo=> ?_,E.out,E.dj,λj d e=> ?_,λj d e=> ?_⟩
 ·rcases Eu e with⟨rfl,q⟩|⟨n,q⟩
  ·cases q
  ·rw[C1 n];exact E.sh j d q
 ·rcases Eu e with⟨rfl,q⟩|⟨n,q⟩
  ·subst q;cases zo
  ·rw[C1 n];exact E.ow j z d q zo
 ·rcases Eu e with⟨rfl,q⟩|⟨n,q⟩
  ·cases q
  ·rw[C1 n];exact E.lk j d q
 ·rcases Eu e with⟨rfl,q⟩|⟨n,q⟩
  ·cases q
  ·rw[C1 n];exact E.lt j d q
section
variable{X:Cx}{EX:Au}{i:Nat}{tb:List (Str×Bool)}{g h:FS}{c n:Str}{C2:Addr}{body ai:List Stmt}{b₀:Stmt}{np hp pos:Pos}
def Has.exc{G:Hp}{a C:Addr}{dx:Option Addr}{o:Obj}{x:Xn}(hn:G a=none)(e:ExcAt K G (.ref C) dx x):Has K (upd G a (.frz o (XO a C dx))) (.ref a) (.exn x.c x.ns x.vs):=by
 cases e with
 |bare hc=>exact .exn0 hc Bj
 |with_ hc hd hl r=>exact .exn1 hc Bj (by rw[Aq (Ej hd hn)];exact hd) hl (r.mono (h_9 hn _))
def cr_0{H0:HB}{G0 G1:Hp}{D:Ends}{r:Fl}(q:Fin K EX H0 G0 G1 D (di_4 i r)):Fin K Fy H0 G0 G1 {nx:=λ σ H=>D.nx (σ.set i none) H,rt:=D.rt,bk:=λ σ H=>D.bk (σ.set i none) H,ct:=λ σ H=>D.ct (σ.set i none) H} r:=by
 cases r with
 |nx Δ=>exact λ σ G H O E sg=>q _ G H O (E.drop i) sg
 |bk Δ=>exact λ σ G H O E sg=>q _ G H O (E.drop i) sg
 |ct Δ=>exact λ σ G H O E sg=>q _ G H O (E.drop i) sg
 |rt w=>exact q
 |rv d Δ=>exact q.elim
 |ex x Δ=>exact q.elim
 |no=>exact q
end
structure XGet(K:Frag)(C:Addr)(f:Str):Prop where
 ga:findIn K (.ref C) "__getattribute__" =some (some (.builtin "BaseException.__getattribute__"))
 gt:findIn K (.ref C) "__getattr__" =some none
 be:mroIn K C (.type "BaseException")=some true
 hd:hasDictIn K C=true
 no:findIn K (.ref C) f=some none
section
variable{prog:Program}{w:World}{A:Around}{E:AA}{s:Shared}{K:Frag}{x C dx:Addr}{f:Str}
structure XInst(K:Frag)(C:Addr):Prop where
 ga:findIn K (.ref C) "__getattribute__" =some (some (.builtin "BaseException.__getattribute__"))
 gt:findIn K (.ref C) "__getattr__" =some none
 be:mroIn K C (.type "BaseException")=some true
 hd:hasDictIn K C=true
 cl:findIn K (.ref C) "__class__" =some (some (.builtin "object.__class__"))
 gs:specialIn K (.builtin "object.__class__") "__get__" =some (some (.builtin "getset_descriptor.__get__"))
 tk:takesIn K (.builtin "object.__class__")=some true
 ob:mroIn K C (.type "object")=some true
end
def eAttr(cs:List Str)(f:Str)(fo:FE):FE:=λ δ=>(fo δ).bind λw=>match w.d with
 | .exn c ns vs=>if cs.contains c=true then(match(ns.zip vs).lookup f with|some d=> .ok (.sh d)|none=> .no) else .no
 |_=> .no
section
variable{X:Cx}{EX:Au}{o:Expr}{fo:FE}{f:Str}{cs:List Str}{pos:Pos}
end
def eIsC(tb:List (Str×Bool))(fo:FE):FE:=λ δ=>(fo δ).bind λw=>match w.d with
 | .exn c _ _=>(match tb.lookup c with|some b=> .ok (.sh (.bl b))|none=> .no)
 |_=> .no
section
variable{X:Cx}{EX:Au}{zd:AE}{σ:Sg}{G H:Hp}{s:Shared}
variable{a:Expr}{fo:FE}{tb:List (Str×Bool)}{pp pos:Pos}
end
theorem RoomC.units{c:Bool}{k:Nat}{A:Around}(r:RoomC c k A):A.units + 64 < cLine:=by have:=r.un;omega
section
variable{X:Cx}{c:Bool}{k:Nat}{zd:AE}{W:AA}{e:HX}
def cr_1(h:RoomC c k (Cx.A X)):RoomC c k (Cx.A (Cx.nox X)):=h
def cr_2(h:RoomC c k (Cx.A X)):RoomC c k (Cx.A (tryB X zd W)):=h
def cr_3(h:Cx.calm X=true):Cx.calm (Cx.nox X)=true:=h
def h_1{cm:Bool}{P:Program}{w:World}{N:List Str}{qual:Str}{scope:Scope}{f:Addr}{cd:Value}{A:Around}{outer:List Env}{s:Shared}{E:XK}:
  PassesOwn (model P w) (Cx.A (Gc cm P w K mg base N qual scope f cd A outer s H E)) (Cx.env (Gc cm P w K mg base N qual scope f cd A outer s H E)) (Cx.xe (Gc cm P w K mg base N qual scope f cd A outer s H E)):=
 λe s' h=>wpAny_leaving_again (SameStack.refl _) h
def Catches.one{C2:Addr}{c:Str}{C:Addr}{b:Bool}(a:ClsAt K c C)(h:exmOne K (.ref C) (.ref C2)=some b){tb:List (Str×Bool)}(r:Catches K C2 tb):Catches K C2 ((c,b)::tb):=λc' b' e C' a'=>by
 rw[E9]at e;cases z:(c' ==c) with
 |true=>
  rw[z]at e;cases e;have:c'=c:=eq_of_beq z;subst this;unfold ClsAt at a a';rw[a]at a';cases a';exact h
 |false=>rw[z]at e;exact r c' b' e C' a'
def Catches.nil{C2:Addr}:Catches K C2 []:=λ_ _ e=>by cases e
end
structure Hd where
 i:Option Nat
 tb:List (Str×Bool)
 h:FS
def hdGo(d:Hd)(x:Xn)(Δ:SE):Fl:=match d.i with
 |some i=>di_4 i (d.h (Δ.set i (.sh (.exn x.c x.ns x.vs))))
 |none=>(match d.h Δ with
  | .ex _ _=> .no
  |r=>r)
def tryH:List Hd->Xn->SE->Fl
 | [],_,_=> .no
 |d::r,x,Δ=>match d.tb.lookup x.c with
  |some true=>hdGo d x Δ
  |some false=>tryH r x Δ
  |none=> .no
def au_5(g:FS)(hs:List Hd):FS:=λ Δ=>match g Δ with
 | .ex x Δ1=>tryH hs x Δ1
 |r=>r
inductive HOk3(X:Cx):List ExceptHandler->List Hd->Prop where
 |nil:HOk3 X [] []
 |as_ {c n:Str} {C2:Addr} {b₀:Stmt} {ai:List Stmt} {np hp:Pos} {i:Nat} {tb:List (Str×Bool)} {h:FS} {hs:List ExceptHandler} {ds:List Hd} (hc:X.mg c=some (.ref C2)) (ct:Catches X.K C2 tb) (hh:∀e,BD (hand X e) Fy (b₀::ai) h) (r:HOk3 X hs ds)
   (hi:X.N[i]? =some n:=by rfl) (hk:X.env.scope.names.lookup n=some .local:=by rfl) (hg:Gl X c:=by rfl) (hdb:AG c:=by decide):
   HOk3 X (.ExceptHandler (some (.Name c np)) (some n) (b₀::ai) hp::hs) (⟨some i,tb,h⟩::ds)
 |bare {c:Str} {C2:Addr} {b₀:Stmt} {ai:List Stmt} {np hp:Pos} {tb:List (Str×Bool)} {h:FS} {hs:List ExceptHandler} {ds:List Hd} (hc:X.mg c=some (.ref C2)) (ct:Catches X.K C2 tb) (hh:∀e,BD (hand X e) Fy (b₀::ai) h) (r:HOk3 X hs ds)
   (hg:Gl X c:=by rfl) (hdb:AG c:=by decide):
   HOk3 X (.ExceptHandler (some (.Name c np)) none (b₀::ai) hp::hs) (⟨none,tb,h⟩::ds)
def EXh(K:Frag)(EX:Au)(D:Ends)(ds:List Hd):Au:=λ σ=>⟨λx G H=>∃H0 G0 Δ O,Ev K H0 G0 G H σ Δ O/\Fin K EX H0 G0 G D (tryH ds x Δ),
 λ_ _ _ _ _ s ⟨H0,G0,Δ,O,E,f⟩=>⟨H0,G0,Δ,O,E.grow s,Fin.mono s.gg f⟩⟩
def dd_4{EX:Au}{H0:HB}{G0 G1:Hp}{D:Ends}{r:Fl}(q:Fin K EX H0 G0 G1 D (match r with| .ex _ _=> .no|r=>r)):Fin K Fy H0 G0 G1 {nx:=D.nx,rt:=D.rt,bk:=D.bk,ct:=D.ct} r:=by
 cases r with
 |nx Δ=>exact q
 |bk Δ=>exact q
 |ct Δ=>exact q
 |rt w=>exact q
 |rv d Δ=>exact q
 |ex x Δ=>exact q.elim
 |no=>exact q
section
variable{X:Cx}{EX:Au}{g:FS}{body:List Stmt}{pos:Pos}
def ci_5(hN:X.N.Nodup){zd:AE}{D:Ends}{a C T2:Addr}{dx:Option Addr}{σ1 σ0:Sg}{H1 H2:Hp}{s1 s2:Shared}{h2:Heap}{x:Xn}{H0':HB}{G2 G0':Hp}{Δ1:SE}{O1:OS}{e0:HX}{h9:Heap}(ha:e0.a=a)(hC:e0.C=C)(hx:e0.dx=dx)(zz:X.s₀.heap.objs.size<=e0.a)
  (J1:Inv X zd σ0 H1 s1) (J3:Inv X zd σ1 H2 {s2 with heap:=h9}) (J4:Inv X zd σ1 (upd H2 a e0.ho) {s2 with heap:=h2}) (st4:Step G2 H2 (upd G2 a e0.ho) (upd H2 a e0.ho))
  (n1:H2 a=none) (sg2:Same G2 H2) (ea:ExcAt X.K G2 (.ref C) dx x) (LT:Looks (model X.prog X.w) h2 (typeOf (.ref a)) (.ref C)) (hcC:ClsAt X.K x.c C)
  (E1:Ev X.K H0' G0' G2 H2 σ1 Δ1 O1)
  (flt:∀{A:Around} {E:AA} {Q:Unit->Shared->Prop},(∀h3,Inv X zd σ1 (upd H2 a e0.ho) {s2 with heap:=h3}->Q .unit {s2 with heap:=h3})->wpAny (model X.prog X.w) A (setFlight (.ref a) none) Q E {s2 with heap:=h2}):
  ∀{hs:List ExceptHandler} {ds:List Hd},HOk3 X hs ds->Fin X.K EX H0' G0' G2 D (tryH ds x Δ1)->wpAny (model X.prog X.w) X.A (handleBy (.ref a) X.env hs) (SP X zd D) X.xe {s2 with heap:=h2}:=by
 subst ha hC hx;intro hs ds ho
 induction ho with
 |nil=>intro q;exact False.elim q
 |as_ hc ct hh r hi hk hg hdb ih=>
  rename_i c n C2 b₀ ai np hp i tb h hs ds;intro q;refine wpAny_handleBy_cons (codeAny_handlers_test ?_) (by intro z;cases z);refine r_9 (X:=hand X e0) (Inv.toH J4 zz Bj) hg hc ?_ hdb;unfold tryH at q;cases e2:tb.lookup x.c with
  |none=>simp only[e2]at q;exact q.elim
  |some b=>
   have em:=ct _ _ e2 _ hcC;refine ZC7 (s:={s2 with heap:=h2}) (exm_one J4.kIn LT em) ?_;cases b with
   |false=>simp only[e2]at q;exact ih q
   |true=>
    simp only[e2,hdGo]at q;show codeAny _ _ _ _ _;refine codeAny_handlers_suite_as (flt λh3 J5=> ?_);refine ar_9 (X:=hand X e0) (v:=.ref e0.a) (Inv.toH J5 zz Bj) hN hi (.inl hk) rfl (λs6 I6=> ?_) (.inr hk);have E6:=(E1.grow st4).put (i:=i) (Has.exc (sg2.free n1) ea);refine E4 (hh e0 zd s6 _ _ _ I6 ⟨H0',G0',_,_,O1,E6,cr_0 (Fin.mono st4.gg q)⟩) (λf s7 h7=> ?_) λ_ _ z=>False.elim z;show wpAny _ X.A (do bindName X.env n .none;unbindBehindTheSuite X.env n hp) (λ_ s₃=>SP X zd D f s₃) _ s7;cases f with
    |next=>
     obtain⟨σ7,H7,I7,q7⟩:=h7;exact ac_8 (Inv.ofH J3 n1 zz I7) hN hi hk λs8 I8=>⟨_,H7,I8,q7⟩
    |brk=>
     obtain⟨σ7,H7,I7,q7⟩:=h7;exact ac_8 (Inv.ofH J3 n1 zz I7) hN hi hk λs8 I8=>⟨_,H7,I8,q7⟩
    |cont=>
     obtain⟨σ7,H7,I7,q7⟩:=h7;exact ac_8 (Inv.ofH J3 n1 zz I7) hN hi hk λs8 I8=>⟨_,H7,I8,q7⟩
    |ret u=>
     obtain⟨v,σ7,H7,I7,r7,q7⟩:=h7;exact ac_8 (Inv.ofH J3 n1 zz I7) hN hi hk λs8 I8=>⟨v,_,H7,I8,r7,q7⟩
 |bare hc ct hh r hg hdb ih=>
  rename_i c C2 b₀ ai np hp tb h hs ds;intro q;refine wpAny_handleBy_cons (codeAny_handlers_test ?_) (by intro z;cases z);refine r_9 (X:=hand X e0) (Inv.toH J4 zz Bj) hg hc ?_ hdb;unfold tryH at q;cases e2:tb.lookup x.c with
  |none=>simp only[e2]at q;exact q.elim
  |some b=>
   have em:=ct _ _ e2 _ hcC;refine ZC7 (s:={s2 with heap:=h2}) (exm_one J4.kIn LT em) ?_;cases b with
   |false=>simp only[e2]at q;exact ih q
   |true=>
    simp only[e2,hdGo]at q;show codeAny _ _ _ _ _;refine codeAny_handlers_suite (flt λh3 J5=> ?_);have E6:=E1.grow st4;refine E4 (hh e0 zd {s2 with heap:=h3} _ _ _ (Inv.toH J5 zz Bj) ⟨H0',G0',_,_,O1,E6,dd_4 (Fin.mono st4.gg q)⟩) (λf s7 h7=> ?_) λ_ _ z=>False.elim z;cases f with
    |next=>
     obtain⟨σ7,H7,I7,q7⟩:=h7;exact⟨_,H7,Inv.ofH J3 n1 zz I7,q7⟩
    |brk=>
     obtain⟨σ7,H7,I7,q7⟩:=h7;exact⟨_,H7,Inv.ofH J3 n1 zz I7,q7⟩
    |cont=>
     obtain⟨σ7,H7,I7,q7⟩:=h7;exact⟨_,H7,Inv.ofH J3 n1 zz I7,q7⟩
    |ret u=>
     obtain⟨v,σ7,H7,I7,r7,q7⟩:=h7;exact⟨v,_,H7,Inv.ofH J3 n1 zz I7,r7,q7⟩
def dd_5{hd0:ExceptHandler}{hs0:List ExceptHandler}{ds:List Hd}(hN:X.N.Nodup)(hfr:X.env.frame=some X.env.locals)(hst:X.stack=X.env::X.outer)(hb:∀zd W EXB,Lk (tryB X zd W) EXB->BD (tryB X zd W) EXB body g)(ho:HOk3 X (hd0::hs0) ds):
  SD X EX (.Try body (hd0::hs0) [] [] pos) (au_5 g ds):=by
 intro zd s σ H D I q;obtain⟨H0,G0,G,Δ,O,E,q⟩:=q;refine wpAny_Try_except ?_;have lk:Lk (tryB X zd λe s₁=>wpAny (model X.prog X.w) X.A (noteFrame e X.env) (λ_ s₂=>wpAny (model X.prog X.w) X.A (setFlight e none) (λ_ s₃=>wpAny (model X.prog X.w) X.A (handleBy e X.env (hd0::hs0)) (SP X zd D) X.xe s₃) X.xe s₂) X.xe s₁) (EXh X.K EX D ds):=by
  intro aj σ1 H1 s1 e s2 I1 cx;obtain⟨a,C,dx,T,H2,rfl,I2,tr,n1,n2,z1,z2,x,G2,sg2,ea,H0',G0',Δ1,O1,E1,f1⟩:=Inv.raised I1 cx;show wpAny _ X.A (noteFrame (.ref a) X.env) _ _ s2;have J1:=Inv.ofB I1;have J2:=Inv.ofB I2;refine ba_9 (outer:=X.outer) (by rw[<-hst];exact J2.ok.frames) (by rw[<-hst];exact J2.stack) hfr tr λh1 T2 z3 k1 t1=> ?_;refine u_7 t1 λh2 k2 t2=> ?_;have zT2:H2 T2=none:=J2.hok.fresh z3;have J3:Inv X zd σ1 H2 {s2 with heap:=h2}:=by
   refine Inv.settle (ch:=[a,T] ++ [T2]) J1 J2 (λb hb=> ?_) ?_
   ·have:b=a\/b=T\/b=T2:=by simpa using hb
    rcases this with rfl|rfl|rfl
    ·exact⟨z1,n1⟩
    ·exact⟨z2,n2⟩
    ·exact⟨C5 z1 (C5 (Q0 (A5 tr.ob.choose_spec.choose_spec.1)) z3),zT2⟩
   ·rw[hst];exact k1.trans (KeepX.of_same k2)
  obtain⟨⟨oa,ua,ga,gc,gd,gf,g1,g2⟩,ne,tbk⟩:=id t2;have goa:h2.get? a=some ⟨.ref C,dx,.fields ua,oa.slots⟩:=by
   obtain⟨c1,d1,e1,s1⟩:=oa;simp only at gc gd gf;subst gc gd gf;exact ga
  let e0:HX:=⟨a,C,dx,ua,oa.slots,g2⟩
  have zz:X.s₀.heap.objs.size<=e0.a:=C5 J1.sz z1;have J4:Inv X zd σ1 (upd H2 a e0.ho) {s2 with heap:=h2}:=Inv.speak J1 J3 z1 goa g2 n1;have st4:Step G2 H2 (upd G2 a e0.ho) (upd H2 a e0.ho):=Step.new sg2 n1 _;have LT:Looks (model X.prog X.w) h2 (typeOf (.ref a)) (.ref C):=gc▸(Looks.ld ga).andThen .now;obtain⟨hcC⟩:Nonempty (ClsAt X.K x.c C):=by cases ea with|bare hc=>exact⟨hc⟩|with_ hc _ _ _=>exact⟨hc⟩
  refine ci_5 (e0:=e0) (T2:=T2) hN rfl rfl rfl zz J1 J3 J4 st4 n1 sg2 ea LT hcC E1 (λ{A E Q} hq=> ?_) ho f1;refine u_7 t2 λh3 k3 t3=>hq h3 ?_;refine Inv.settle (ch:=[T2]) (s':={s2 with heap:=h2}) J1 J4 (λb hb=> ?_) (KeepX.of_same k3);have:b=T2:=by simpa using hb
  subst this;exact⟨C5 z1 (C5 (Q0 (A5 tr.ob.choose_spec.choose_spec.1)) z3),by rw[Aq ne];exact zT2⟩
 refine E4 (hb zd _ _ lk [] s σ H D (Inv.toB I) ⟨H0,G0,G,Δ,O,E, ?_⟩) (λf s1 hs=> ?_) λ_ _ z=>z
 ·unfold au_5 at q;cases e1:g Δ with
  |ex x Δ1=>
   rw[e1]at q;exact λ σ1 G1 H1 O1 E1 sg=>⟨H0,G0,Δ1,O1,E1,Fin.mono sg q⟩
  |nx Δ1=>rw[e1]at q;exact q
  |bk Δ1=>rw[e1]at q;exact q
  |ct Δ1=>rw[e1]at q;exact q
  |rt w=>rw[e1]at q;exact q
  |rv d Δ1=>rw[e1]at q;exact q
  |no=>rw[e1]at q;exact q
 ·have hs':=SP.ofB hs;cases f with
  |next=>exact T7 hs'
  |brk=>exact hs'
  |cont=>exact hs'
  |ret u=>exact hs'
end
section
variable{prog:Program}{w:World}{A:Around}{E:AA}{h:Heap}{g:Array GenState}{d:Drawn}{t:Nat}{os:OsState}
variable{nm q:Str}{C N:Addr}{bs bm bmB:List Value}{ax:Bool}{sn:List Str}{sub:List Value}{ab:Bool}{col:Option Bool}{dd:Option Addr}{k0 k1 k2 k3 k5:Option Value}{B newId ah:String}
def bw_0(FB:ExcBaseFacts B newId ah bmB)(T:OwnTail h bmB bm){mN:AB}{Q:PySem.Fin->Shared->Prop}
  (hC:h.get? C=some (excClassObj nm q C N bs bm ax sn sub ab col dd k0 k1 k2 k3 k5 newId)) (hn:h.Ns N mN) (hi:mN "__init__" =none)
  (z:∀h' e,Heap.MadeExcOf h h' e (.ref C) []->h.objs.size<=e->Q (.done (.ret (.ref e))) ⟨h',g,d,t,os⟩):
  wpAny (model prog w) A (Builtin.«type.__call__» ⟨[.ref C],[]⟩) Q E ⟨h,g,d,t,os⟩:=by
 wp_walk using N1 hC,wpAny_madeBy_exc hC
 refine Y6 (U1 _ FB.quiet) (wpAny_check_new_subT FB T hC ?_);refine codeAny_exc_new_subT FB T hC ?_ (by show 0<=sizeLine;exact L0 _);show wpAny _ _ _ _ _ _;generalize e1:({cls:=.type "tuple",data:=.seq ([]:List Value).toArray}:Obj)=o1;generalize e2:({cls:=.ref C,data:=.fields #[.ref h.objs.size,.none,.none,.none,.bool false,.none]}:Obj)=o2;have up:∀b o,h.get? b=some o->((h.push o1).push o2).get? b=some o:=λb o e=>A4 _ (A4 _ e);have ge:((h.push o1).push o2).get? (h.objs.size + 1)=some o2:=by
  have:=B9 (h.push o1) (o:=o2) (by rw[<-e2];rfl)
  rwa[L7]at this
 have hC1:=up _ _ hC;have hn1:((h.push o1).push o2).Ns N mN:=hn.keeps up;have T1:=T.keeps up;have cl:o2.cls=.ref C:=by rw[<-e2]
 have hcC:List.contains (Value.ref C::bm) (.ref C)=true:=S3.mpr (.head _);unfold isInstance
 repeat (first|(with_reducible refine N1 ge ?_;rw[cl])|(with_reducible refine X3 hC1 ?_;rw[hcC])|wp_step)
 show wpAny _ _ (typeLookup (.ref C) _) _ _ _;refine wpAny_typeLookup_tail hC1 hn1 T1 FB.mroIs FB.init.lookup ?_;rw[hi];refine W2 (A7 (wpAny_of_eq (FB.init.bind _) ?_));refine A7 (V8 (codeAny_call_builtin FB.init.plain FB.initEntry (wpAny_check_init_subT FB T1 hC1 ge cl ?_)));subst e1 e2
 wp_walk
 refine z _ (h.objs.size + 1) ⟨λb o hb=> ?_,Q1 (L6 _),h.objs.size + 2, ?_,Q1 (), ?_⟩ (L6 _)
 ·rw[K1 _ _ (Ne.symm (C9 (S5 (A5 hb))))];exact A4 _ (up b o hb)
 ·rw[R9 _ (A4 _ ge) rfl,L7,L7];rfl
 ·rw[K1 _ _ (C9 (Q8 (h.objs.size + 1)))];exact Heap.get?_push_at (by rw[L7,L7]) rfl
def ci_6(FB:ExcBaseFacts B newId ah bmB)(T:OwnTail h bmB bm){mN:AB}{Q:AA}
  (hC:h.get? C=some (excClassObj nm q C N bs bm ax sn sub ab col dd k0 k1 k2 k3 k5 newId)) (hn:h.Ns N mN) (hi:mN "__init__" =none)
  (z:∀h' e,Heap.MadeExcOf h h' e (.ref C) []->h.objs.size<=e->Q (.ref e) ⟨h',g,d,t,os⟩):
  wpAny (model prog w) A (call (.ref C) []) Q E ⟨h,g,d,t,os⟩:=by
 have f1:=tc_lookup;have f2:=tc_bind (.ref C);have Cu:Shared.TypeIs ⟨h,g,d,t,os⟩ (.ref C) "type" :=⟨_,hC,rfl⟩;refine V8 (codeAny_of_tree (?_:wpAny _ _ (callAny (.ref C) _) _ _ _))
 wp_walk using N1 hC
 refine⟨rfl, ?_⟩;exact Z7 (U1 _ nofun) entry_typeCall (Y7 hC (bw_0 FB T hC hn hi z))
end
def XMk0(K:Frag)(C:Addr):Prop:=∃(nm q:Str) (N:Addr) (bs bm:List Value) (sn:List Str) (sub:List Value) (ab:Bool) (col:Option Bool) (dd:Option Addr) (k0 k1 k2 k3 k5:Option Value) (mN:AB),
 K.lookup C=some (excClassObj nm q C N bs bm true sn sub ab col dd k0 k1 k2 k3 k5 "ValueError.__new__")/\(∀h:Heap,K.In h->OwnTail h bmVE bm)/\(∀h:Heap,K.In h->h.Ns N mN)/\mN "__init__" =none
def dd_7{C N L:Addr}{nm q:Str}{bs:List Value}{sn:List Str}{sub:List Value}{ab:Bool}{col:Option Bool}{dd:Option Addr}{k0 k1 k2 k3 k5:Option Value}{oc c0 oL:Value}{od ddL odL:Option Addr}{es esL:Array DictEntry}{ep epL:Nat}{sl sl0 slL:Array (Option Value)}{cd:ClassData}
  (lc:K.lookup C=some (excClassObj nm q C N bs (.ref L::bmVE) true sn sub ab col dd k0 k1 k2 k3 k5 "ValueError.__new__")) (ln:K.lookup N=some ⟨oc,od,.dict es ep,sl⟩) (kn:l_9 es=true) (hi:nsFind es "__init__" =none)
  (ll:K.lookup L=some ⟨c0,ddL,.cls cd,sl0⟩) (lm:K.lookup cd.ns=some ⟨oL,odL,.dict esL epL,slL⟩) (km:l_9 esL=true) (hL:nsFind esL "__init__" =none):XMk0 K C:=
 ⟨nm,q,N,bs,_,sn,sub,ab,col,dd,k0,k1,k2,k3,k5,nsFind es,lc,λh X=> .own (X _ _ ll) (cb_3 lm km X) hL .base,λh X=>cb_3 ln kn X,hi⟩
structure XC0(K:Frag)(mg:AB)(c:Str)(C:Addr):Prop where
 at_:ClsAt K c C
 glob:mg c=some (.ref C)
 kp:keepIn K (.ref C)=true
 made:XMk0 K C
def ac_9(c:Str):FS:=λ Δ=> .ex ⟨c,[],[]⟩ Δ
section
variable{X:Cx}{C:Addr}{c:Str}
def bb_8{EX:Au}{np zf pos:Pos}(M:XC0 X.K X.mg c C)(hr:RoomC true 2 X.A)(l1:Lk1 X EX)(hg:Gl X c:=by rfl)(hdb:AG c:=by decide):
  SD X EX (.Raise (some (.Call (.Name c np) [] [] zf)) none pos) (ac_9 c):=by
 intro zd s σ H D I q;obtain⟨H0,G0,G,Δ,O,E,q⟩:=q;obtain⟨nm,qn,N,bs,bm,sn,sub,ab,col,dd,k0,k1,k2,k3,k5,mN,lc,tl,hn,hi⟩:=M.made;have hB:bm.contains (.type "BaseException")=true:=al_6 (tl s.heap I.kIn);rw[arm_exec_Raise];have mk:wpAny (model X.prog X.w) X.A (eval (.Call (.Name c np) [] [] zf) X.env) (λv s1=>∃a t dx,v=.ref a/\s1.heap.get? C=some (excClassObj nm qn C N bs bm true sn sub ab col dd k0 k1 k2 k3 k5 "ValueError.__new__")/\
   s1.heap.get? a=some {cls:=.ref C,dict:=dx,data:=.fields #[.ref t,.none,.none,.none,.bool false,.none]}/\X.xe (.ref a) s1) X.xe s:=by
  refine M4 (r_9 I hg M.glob ?_ hdb);refine callWith_K0 I.kIn M.kp ?_;have KX:=I.kIn;obtain⟨hh,gg,dr,tk,os⟩:=s;refine ci_6 Y2 (tl hh KX) (KX _ _ lc) (hn hh KX) hi λh' a me za=> ?_;obtain⟨kk,new,t,et,_,_⟩:=me;have I2:Inv X zd σ H ⟨h',gg,dr,tk,os⟩:=I.kept (h':=h') (t':=tk) kk;refine⟨a,t,none,rfl,I2.kIn _ _ lc,et, ?_⟩;exact l1 zd σ H H ⟨hh,gg,dr,tk,os⟩ ⟨h',gg,dr,tk,os⟩ a C none _ _ I I2 et rfl rfl rfl rfl rfl (I.hok.fresh za) za ⟨⟨c,[],[]⟩,G,E.st.gh,.bare M.at_,q σ G H O E (Same.refl _)⟩
 refine A7 (R8 (bb_0 hB (hr.hd rfl) (A7 (E4 mk (λv s3 h3=>A7 (R8 (E7 h3))) λ_ _ x=>x))))
end
end L3
namespace L3
open PySem L2
variable{K:Frag}{fd:FuncData}{mg:AB}{us:List Value}{base:Heap}{H:Hp}{X:Cx}{pos:Pos}{v:V}
abbrev Ai{a b:Prop}(x:a)(y:b):a/\b:=⟨x,y⟩
def Ao:=Ai @Ar.eq_1 (Ai @Bb.eq_1 (Ai @Ag.eq_1 (Ai @Al.eq_1 (Ai @gsome.eq_1 (Ai @give1.eq_1 (Ai @List.foldl_cons.{0,0} (Ai @List.foldl_nil.{0,0} (Ai @Az.eq_1 (Ai @Cl.eq_1 (Ai @Bx.eq_1 (Ai @sExpr.eq_1 (Ai @Bc.eq_1 (Ai @At.eq_1 (Ai @Ba.eq_1 (Ai @gall.eq_1 (Ai @do_6 (Ai @do_7 (Ai @do_8 (Ai @do_9 (Ai @dp_0 (Ai @dp_1 (Ai @dc_9 (Ai @dd_0 (Ai @dd_1 (Ai @Af.eq_1 (Ai @Aa.eq_1 (Ai @eC.eq_1 (Ai @Ak.eq_1 (Ai @Bn.eq_1 (Ai @Bu.eq_1 (Ai @Bu.eq_2 (Ai @Bu.eq_3 (Ai @Bu.eq_4 (Ai @Bu.eq_5 (Ai @Bu.eq_6 (Ai @Bu.eq_7 (Ai @Dp.eq_1 (Ai @Dp.eq_2 (Ai @An.eq_1 (Ai @Bl.eq_1 (Ai @R.calm_ok (Ai @R.calm_no (Ai @R.calm_ex (Ai @Dy.eq_1 (Ai @Dy.eq_2 (Ai @Dy.eq_3 (Ai @Dy.eq_4 (Ai @Dy.eq_5 (Ai @eAttr.eq_1 (Ai @eIsC.eq_1 (Ai @isND.eq_1 (Ai @isND.eq_2 (Ai @nonB.eq_1 (Ai @nonB.eq_2 (Ai @Ac.eq_1 (Ai @Ab.eq_1 (Ai @Bq.eq_1 (Ai @Cd.eq_1 (Ai @eIf.eq_1 (Ai @eAnd.eq_1 (Ai @eOr.eq_1 (Ai @eNot.eq_1 (Ai @Eb.eq_1 (Ai @tOrF.eq_1 (Ai @Fw.eq_1 (Ai @eIs.eq_1 (Ai @bm_8 (Ai @bv_6 (Ai @bm_9 (Ai @bn_0 (Ai @bn_1 (Ai @bn_2 (Ai @bg_4 (Ai @bn_3 (Ai @bg_5 (Ai @bg_6 (Ai @bg_7 (Ai @bg_8 (Ai @bn_4 (Ai @bv_7 (Ai @bn_5 (Ai @bn_6 (Ai @bn_7 (Ai @bn_8 (Ai @bg_9 (Ai @bn_9 (Ai @bh_0 (Ai @bh_1 (Ai @bh_2 (Ai @bh_3 (Ai @ay_7 (Ai @bh_4 (Ai @ay_8 (Ai @ay_9 (Ai @az_0 (Ai @az_1 (Ai @eSlice.eq_1 (Ai @oNone.eq_1 (Ai @oSome.eq_1 (Ai @intPart.eq_1 (Ai @intPart.eq_2 (Ai @eMeth.eq_1 (Ai @eMeth0.eq_1 (Ai @tyD.eq_1 (Ai @tyD.eq_2 (Ai @tyD.eq_3 (Ai @tyD.eq_4 (Ai @Bv.eq_1 (Ai @El.eq_1 (Ai @Fb.eq_1 (Ai @Fb.eq_2 (Ai @Fb.eq_3 (Ai @Fb.eq_4 (Ai @R.bind_ok (Ai @R.bind_no (Ai @R.bind_ex (Ai @W.d_sh (Ai @W.d_ow (Ai @A8.{0,0} (Ai @N0.{0,0} (Ai @Q9.{0} (Ai @P8.{0} (Ai @D4.{0} (Ai @K5.{0} (Ai @List.replicate_zero.{0} (Ai @B4.{0} (Ai @J8.{0} (Ai @Y3.{0} (Ai @List.set_cons_succ.{0} (Ai @M7.{0} (Ai @O5.{0} (Ai @if_true.{1} (Ai @T6.{1} (Ai @Bf.eq_1 (Ai @Bf.eq_2 (Ai @Bf.eq_3 (Ai @Bf.eq_4 (Ai @Bf.eq_5 (Ai @N6 (Ai @ZC6 (Ai @ZC2 (Ai @Bool.true_and (Ai @ZB9 (Ai @Q3 (Ai @W5 (Ai @X7 (Ai @gC.eq_1 (@gV.eq_1))))))))))))))))))))))))))))))))))))))))))))))))))))))))))))))))))))))))))))))))))))))))))))))))))))))))))))))))))))))))))))))))))))))))))))))))))))
end L3
namespace L3
open PySem PySem.Spec PyProof.Rows L2
variable{K:Frag}{fd:FuncData}{mg:AB}{us:List Value}{base:Heap}{H:Hp}{X:Cx}{pos:Pos}{v:V}
abbrev HBd(c:Bool)(P:Program)(w:World)(K:Frag)(mg:AB)(base:Heap)(N:List Str)(qual:Str)(st:Stmt)(f:Addr)(k:Nat)(g:FS):Prop:=∀{zp:Value} {A:Around} {outer:List Env} {s:Shared} {H:Hp} {E:XK},(Gc c P w K mg base N qual (Cc st) f zp A outer s H E).calm=c->RoomC c k (Cx.A (Gc c P w K mg base N qual (Cc st) f zp A outer s H E))->(Cx.A (Gc c P w K mg base N qual (Cc st) f zp A outer s H E)).units + 64 < cLine->N.Nodup->Lk (Gc c P w K mg base N qual (Cc st) f zp A outer s H E) (λ_=>EXof K E)->
   BD (Gc c P w K mg base N qual (Cc st) f zp A outer s H E) (λ_=>EXof K E) (Ey st) g
def Df{c:Bool}{P:Program}{w:World}{x qual:Str}{st:Stmt}{f:Addr}{N ps:List Str}{k:Nat}{g:FS}(F:Fun K x qual st f fd)
  (zj:HBd c P w K mg base N qual st f k g) (S:FnScope N ps (Cc st):=by exact⟨rfl,rfl,rfl,by decide +kernel,rfl,by decide +kernel,by decide +kernel⟩):FnX P w K mg base c (k + 1) f fd ps (Ca K ps.length (Ar N.length g)):=
 fn_D F S λzp A outer s H E hr=>zj rfl hr (RoomC.units hr) S.nd bf_8
def FnAt(K:Frag)(x qual:Str)(st:Stmt)(f:Addr):Prop:=∃fd,Fun K x qual st f fd
def FnAt.mk{x qual:Str}{st:Stmt}{f:Addr}{oc kV dc pm cd ct:Value}{od an:Option Addr}{sl:Array (Option Value)}
  (l:K.lookup f=some ⟨oc,od,.func (fnOf x qual (i_8 st) (Ey st) (Cc st) .none kV dc pm an cd ct),sl⟩) (c:codeIn K cd qual=true) (k:keepIn K (.ref f)=true):FnAt K x qual st f:=⟨_,bt_8 l c k⟩
def FnTop(K:Frag)(x:Str)(st:Stmt):Prop:=∃f,nsIn K mainGlobals x=some (some (.ref f))/\FnAt K x x st f
theorem FnTop.mk{x:Str}{st:Stmt}{f:Addr}{oc kV dc pm cd ct:Value}{od an:Option Addr}{sl:Array (Option Value)}(a:nsIn K mainGlobals x=some (some (.ref f)))
  (l:K.lookup f=some ⟨oc,od,.func (fnOf x x (i_8 st) (Ey st) (Cc st) .none kV dc pm an cd ct),sl⟩) (c:codeIn K cd x=true) (k:keepIn K (.ref f)=true):FnTop K x st:=⟨f,a,FnAt.mk l c k⟩
def FnMet(K:Frag)(C:Addr)(x qual:Str)(st:Stmt):Prop:=∃f,findIn K (.ref C) x=some (some (.ref f))/\FnAt K x qual st f/\keepIn K (.ref f)=true/\isFn K (.ref f)=true
theorem FnMet.mk{C:Addr}{x qual:Str}{st:Stmt}{f:Addr}{oc kV dc pm cd ct:Value}{od an:Option Addr}{sl:Array (Option Value)}(a:findIn K (.ref C) x=some (some (.ref f)))
  (l:K.lookup f=some ⟨oc,od,.func (fnOf x qual (i_8 st) (Ey st) (Cc st) .none kV dc pm an cd ct),sl⟩) (c:codeIn K cd qual=true) (k:keepIn K (.ref f)=true) (i:isFn K (.ref f)=true):FnMet K C x qual st:=⟨f,a,FnAt.mk l c k,k,i⟩
def Dq(i:Int):List Int->Int
 | []=>i
 |j::r=>Dq (if j < i then j else i) r
theorem aq_7:∀(r:List Int) (i:Int),Dq i r<=i/\∀j∈r,Dq i r<=j
 | [],i=>⟨Int.le_refl _,λj h=>by simp at h⟩
 |a::r,i=>by
  obtain⟨h1,h2⟩:=aq_7 r (if a < i then a else i);have h3:(if a < i then a else i)<=i/\(if a < i then a else i)<=a:=by split <;> omega
  refine⟨ZD1 h1 h3.1,λj hj=> ?_⟩;rcases C6.mp hj with rfl|hj
  ·exact ZD1 h1 h3.2
  ·exact h2 j hj
theorem au_6:∀(r:List Int) (i:Int),Dq i r∈i::r
 | [],i=>by simp[Dq]
 |a::r,i=>by
  have h:=au_6 r (if a < i then a else i);show Dq (if a < i then a else i) r∈i::a::r;rcases C6.mp h with e|h
  ·rw[e];split <;> simp
  ·exact C7 _ (C7 _ h)
def dd_8{i m:Int}{r:List Int}(h1:m∈i::r)(h2:∀j∈i::r,m<=j):m=Dq i r:=by
 refine Int.le_antisymm (h2 _ (au_6 r i)) ?_;rcases C6.mp h1 with e|h
 ·rw[e];exact(aq_7 r i).1
 ·exact(aq_7 r i).2 m h
def cr_4{i:Int}{is:List Int}{n:Nat}(hn:n=is.length):(i::is).getD (argBest (λa b=>decide ((i::is).getD a 0 < (i::is).getD b 0)) n) 0=Dq i is:=by
 subst hn;obtain⟨b1,b2⟩:=argBest_lt (λj=>(i::is).getD j 0) is.length;refine dd_8 ?_ λj hj=> ?_
 ·rw[N2,B3 (Nat.lt_succ_of_le b1)];exact V9 _
 ·obtain⟨k,hk,rfl⟩:=S7.mp hj;have:=b2 k (Nat.le_of_lt_succ hk);rw[show(i::is)[k]=(i::is).getD k 0 by rw[N2,B3 hk];rfl];exact this
def minL:List D->R W
 | [.lst ds]=>(match ag_9 ds with
  |some (i::is)=> .ok (.sh (.int (Dq i is)))
  |_=> .no)
 |_=> .no
section
variable{X:Cx}{EX:Au}{pos:Pos}
def ci_7(hc:X.calm=true):y_9 X (.builtin "min") minL:=by
 intro zd s σ H vs us Q I rv q;obtain⟨EX,G,ds,g,r,o⟩:=q;cases r with
 |nil=>exact False.elim o
 |cons h t=>
  cases t with
  |cons _ _=>cases h <;> exact False.elim o
  |nil=>
   cases h with
   |lst h r=>
    rename_i l _ _;simp only[minL]at o
    split at o
    ·rename_i i is e;obtain⟨u,rfl,ru⟩:=rv.one;cases ru;obtain⟨its,rv',pl,hz⟩:=I.list (g.seq h);obtain⟨el,ev⟩:=bg_0 r rv' e;have nl:l≠s.heap.objs.size:=λz=>by
      obtain⟨o',ho,_⟩:=pl.isList;exact absurd (A5 ho) (by rw[<-z];exact D7 _)
     have ll:l < s.heap.objs.size:=by
      obtain⟨o',ho,_⟩:=pl.isList;exact A5 ho
     refine call_min_walk (U8 pl.isList ⟨s.heap.objs.size,_,_,_,_,_,λa b=>decide ((i::is).getD a 0 < (i::is).getD b 0),rfl,Walks.list (A:=X.A.in1) (I.ok.hd hc) s.heap.objs.size l nl its.toArray,⟨⟨_,B9 _ rfl,rfl,rfl⟩, ?_⟩,λb hb=> ?_, ?_,CmpOf.ints_lt (λj=>(i::is).getD j 0) (λj v hP=>ev j v (by simpa using hP)),λv h' tk hP hk=> ?_⟩)
     ·exact pl.isList.at λo z=>A4 _ z
     ·rw[L7];have hb':b=s.heap.objs.size\/b=l:=by simpa using hb
      rcases hb' with rfl|rfl
      ·exact Q8 _
      ·exact S5 ll
     ·simp[el]
     ·have hP':=hP;rw[List.getElem?_toArray]at hP';obtain⟨t,rfl⟩:=ev _ v hP';rw[cr_4 (by simp[el])];refine⟨.int _,H,I.kept (t':=tk) λb o' z=>hk b o' (by
       have hb:b≠s.heap.objs.size:=C9 (A5 z);simpa using hb) (A4 _ z),⟨t,rfl⟩,Cv o g (.int _)⟩
    ·exact o.elim
   |_=>exact False.elim o
end
section
variable{X:Cx}{EX:Au}{pos:Pos}
end
section
variable{X:Cx}{EX:Au}
end
end L3
namespace PySem
open PyProof.Rows (IsTup)
namespace F
end F
def Heap.IsRvd(h:Heap)(a t:Addr)(i:Int):Prop:=∃o,h.get? a=some o/\o.cls=.type "reversed" /\o.data=.fields #[.ref t,rawInt i]
open AutoSeq1 (wpAny_loadPart')
section
variable{prog:Program}{w:World}{A:Around}{E:AA}{s:Shared}
def Heap.IsRvd.ty{a l:Addr}{i:Int}(x:s.heap.IsRvd a l i):s.TypeIs (.ref a) "reversed" :=x.elim λo z=>⟨o,z.1,z.2.1⟩
end
end PySem
namespace L3
open PySem PySem.Spec PyProof.Rows L2
variable{K:Frag}{fd:FuncData}{mg:AB}{us:List Value}{base:Heap}{H:Hp}{X:Cx}{pos:Pos}{v:V}
section
variable{X:Cx}{EX:Au}{a:Expr}{f:FE}{p p' pos pos':Pos}
end
end L3
namespace HT
open PySem PyProof.Rows
section
variable{prog:Program}{w:World}{A:Around}{E:AA}{s:Shared}
def cat_tup0{t b:Addr}{ws:List Value}{Q:AA}(ht:IsTup s.heap t ([]:List Value).toArray)(hb:IsTup s.heap b ws.toArray)(h1:Q (.ref b) s):wpAny (model prog w) A (binaryOp .Add (.ref t) (.ref b)) Q E s:=by
 obtain⟨⟨cls,dd,data,sl⟩,ho,hc,n,hd⟩:=id ht;obtain⟨⟨df,dd2,data2,sl2⟩,ho2,hc2,n2,hd2⟩:=id hb;simp only at hc hd hc2 hd2;subst hc hd hc2 hd2;exact ZA6 ⟨_,ho,rfl⟩ ⟨_,ho2,rfl⟩ Z5 ZC5 U5 U2 (T5 _ _)
  (tuple_addW0 t b #[] ws.toArray n n2 dd dd2 sl sl2 rfl) ⟨ho,ho2,h1⟩
end
end HT
namespace L3
open PySem PySem.Spec PyProof.Rows L2
variable{K:Frag}{fd:FuncData}{mg:AB}{us:List Value}{base:Heap}{H:Hp}{X:Cx}{pos:Pos}{v:V}
section
variable{X:Cx}{EX:Au}{e:Expr}{f:FE}{pos p2:Pos}
def addT:D->D->R W
 | .tup a,.tup b=>if a.length + b.length<=16777216 then .ok (.sh (.tup (a ++ b))) else .no
 |_,_=> .no
def cb_5:Er X (binaryOp .Add) addT:=by
 intro zd s σ H x y v u Q I rx ry h;obtain⟨EX,G,a,b,g,ra,rb,o⟩:=h;cases ra with
 |tup h1 r1=>
  cases rb with
  |tup h2 r2=>
   rename_i a1 vs ds b1 us es;simp only[addT]at o
   split at o
   ·rename_i hz
    by_cases hv:vs= []
    ·subst hv;cases r1;cases rx;cases ry;obtain⟨its,rv,p1,_⟩:=I.tuple (Same.tupS g h1);obtain⟨bg,rv2,p2,_⟩:=I.tuple (Same.tupS g h2);cases rv;exact HT.cat_tup0 p1 p2 ⟨.ref _,H,I,rfl,Cv o g (.tup h2 r2)⟩
    ·refine cz_4 zd s σ H _ _ _ _ Q I rx ry ⟨_,_,_,_,rfl,rfl,Same.tupS g h1,Same.tupS g h2,hv,by rw[r1.length,r2.length,D6];exact hz,λe=> ?_,λ_ p hp=> ?_⟩
     ·subst e;cases r2;rw[D4]at o;exact Cv o g (.tup h1 r1)
     ·exact o (.ref p) _ _ (Step.new g hp _) (.tup (SqT.of Bj) ((r1.append r2).mono (h_9 (g.free hp) _)))
   ·exact o.elim
  |_=>exact False.elim o
 |_=>cases rb <;> exact False.elim o
end
section
variable{X:Cx}{EX:Au}{pos:Pos}
end
end L3
namespace PySem
namespace SetTable
structure Cut(xs:Array Nat)(j k:Nat):Prop where
 le:k<=xs.size
 lo:∀i x,i < k->xs[i]? =some x->x < j
 hi:∀i x,k<=i->xs[i]? =some x->j<=x
end SetTable
end PySem
namespace PySem
def vInt:Value->Int
 | .int i _=>i
 |_=>0
section
variable{prog:Program}{w:World}{A:Around}{E:AA}{s:Shared}{led:Bool}{ns:List Int}{a:Addr}
end
end PySem
namespace PySem
open AutoSeq1 (wpAny_loadPart')
namespace F
end F
section
variable{prog:Program}{w:World}{A:Around}{E:AA}{s:Shared}
def Heap.SetIt(h:Heap)(I S:Addr)(f:Value)(i n ep:Nat):Prop:=∃o,h.get? I=some o/\o.cls=.type "set_iterator" /\o.data=.fields #[f,rawInt i,.ref S,rawInt n,rawInt ep]
def Heap.SetIt.ty{I S:Addr}{f:Value}{i n ep:Nat}(x:s.heap.SetIt I S f i n ep):s.TypeIs (.ref I) "set_iterator" :=x.elim λo z=>⟨o,z.1,z.2.1⟩
end
end PySem
namespace PySem
open AutoSeq1 (wpAny_loadPart')
section
variable{prog:Program}{w:World}{A:Around}{R:Result->Shared->Prop}{I S:Addr}{fp wr:List Addr}{G:Array GenState->Array GenState->Prop}{n:Nat}{P:Nat->Value->Prop}{St:Nat->Shared->Prop}{led:Bool}
end
section
variable{prog:Program}{w:World}{A:Around}{E:AA}{s:Shared}
end
end PySem
namespace PySem
open AutoSeq1 (wpAny_loadPart')
section
variable{prog:Program}{w:World}{A:Around}{E:AA}{s:Shared}
end
end PySem
namespace PySem
open AutoSeq1 (wpAny_loadPart')
namespace SetTable
end SetTable
section
variable{prog:Program}{w:World}{A:Around}
end
section
variable{prog:Program}{w:World}{A A':Around}{E:AA}{s:Shared}
structure SetWalk(prog:Program)(w:World)(A':Around)(h:Heap)(I S:Addr)(old:Nat)(ns:List Int):Prop where
 ex:∃(fp:List Addr) (n:Nat) (vals:Array Value) (St:Nat->Heap->Prop),Walks prog w A' I fp [I] n (λi v=>vals[i]? =some v) St/\St 0 h/\(∀b∈fp,b < h.objs.size/\(b=S\/old<=b))/\n=vals.size/\(vals.toList.map vInt).Perm ns/\∀v∈vals.toList,∃i t,v=.int i t
 new:old<=I
end
end PySem
namespace PySem
open AutoSeq1 (wpAny_loadPart')
open PyProof.Rows (IntsAre seqObj sortedHeap)
section
variable{prog:Program}{w:World}{A:Around}{E:AA}{s:Shared}
end
end PySem
namespace L3
open PySem PySem.Spec PyProof.Rows L2
variable{K:Frag}{fd:FuncData}{mg:AB}{us:List Value}{base:Heap}{H:Hp}{X:Cx}{pos:Pos}{v:V}
section
variable{X:Cx}{EX:Au}{a:Expr}{f:FE}{p p' pos pos':Pos}
end
def Inv.retag{zd:AE}{σ:Sg}{s:Shared}(I:Inv X zd σ H s){a:Addr}{u u':HO}(hu:H a=some u)(n1:∀xs,u≠ .tup xs)(n2:∀x,u≠ .own x)(n3:∀ps,u≠ .tbl ps)(nf:∀o v,X.H₀ a≠some (.frz o v))(new:ObjOk X.prog X.w (upd H a u') s.heap a u'):Inv X zd σ (upd H a u') s:=by
 have off:∀b,H b=none->upd H a u' b=none:=λb z=>by
  rw[Aq (λq=>by rw[q,hu]at z;cases z)];exact z
 refine⟨I.ok,I.os,I.bare,⟨I.base.keep,I.base.slot,λb o e n hx=>off b (I.base.free b o e n hx),I.base.there,λb xs e=> ?_,λb o v e=> ?_,λb ps e=> ?_⟩,I.loc,I.cell,off _ I.free,λx c e=>off c (I.freeC x c e),λp hp=> ?_,λb o e=> ?_,I.len⟩
 ·have z:=I.base.tups b xs e;rw[Aq (λq=>by rw[q,hu]at z;cases z;exact n1 _ rfl)];exact z
 ·have z:=I.base.frzs b o v e;rw[Aq (λq=>by subst q;exact nf _ _ e)];exact z
 ·obtain⟨more,z⟩:=I.base.tbls b ps e;exact⟨more,by rw[Aq (λq=>by rw[q,hu]at z;cases z;exact n3 _ rfl)];exact z⟩
 ·obtain⟨z1,z2,z3⟩:=I.pin p hp;exact⟨z1,off _ z2,z3⟩
 ·by_cases hb:b=a
  ·subst hb;rw[Bj]at e;cases e;exact new
  ·rw[Aq hb]at e;refine(I.hok b o e).stay (λ_ _ _ q=>q) (λc z=> ?_) λc xs z=> ?_
   ·rw[Aq (λq=>by rw[q,hu]at z;cases z;exact n2 _ rfl)];exact z
   ·rw[Aq (λq=>by rw[q,hu]at z;cases z;exact n1 _ rfl)];exact z
section
variable{K:Frag}{G:Hp}{a:Addr}{u u':HO}
def isDk(kvs:List (Ae×V))(u:HO):Prop:=u=.dK kvs\/∃o,u=.frz o (.dK kvs)
def isDk.rd{kvs:List (Ae×V)}(h:isDk kvs u)(e:G a=some u):Rd G a (.dK kvs):=by
 rcases h with rfl|⟨o,rfl⟩
 ·exact .inl e
 ·exact .inr ⟨o,e⟩
def isDk.noL{kvs:List (Ae×V)}(h:isDk kvs u)(e:G a=some u){xs:List V}:¬Rd G a (.lst xs)/\¬Rd G a (.tup xs):=by
 rcases h with rfl|⟨o,rfl⟩
 ·exact⟨λr=>by rcases r with r|⟨o,r⟩ <;> (rw[e]at r;cases r),λr=>by rcases r with r|⟨o,r⟩ <;> (rw[e]at r;cases r)⟩
 ·exact⟨λr=>by rcases r with r|⟨o,r⟩ <;> (rw[e]at r;cases r),λr=>by rcases r with r|⟨o,r⟩ <;> (rw[e]at r;cases r)⟩
def isDk.one{kvs bp:List (Ae×V)}(h:isDk kvs u)(e:G a=some u)(r:Rd G a (.dK bp)):bp=kvs:=by
 rcases h with rfl|⟨o,rfl⟩ <;> rcases r with r|⟨o,r⟩ <;> (rw[e]at r;cases r;try rfl)
def isDk.noX{kvs:List (Ae×V)}(h:isDk kvs u)(e:G a=some u):(∀φ,G a≠some (.ext φ))/\(∀fs,G a≠some (.xd fs))/\∀C dx fs,G a≠some (.ins C dx fs):=by
 rcases h with rfl|⟨o,rfl⟩ <;> exact⟨λ_ z=>(by rw[e]at z;cases z),λ_ z=>(by rw[e]at z;cases z),λ_ _ _ z=>(by rw[e]at z;cases z)⟩
def isDk.noF{kvs:List (Ae×V)}(h:isDk kvs u)(e:G a=some u)(o:Obj)(x C:Addr)(dx:Option Addr):G a≠some (.frz o (XO x C dx)):=by
 rcases h with rfl|⟨o,rfl⟩ <;> exact λz=>(by rw[e]at z;cases z)
def cr_6{b:Addr}{v:HO}(h:b≠a)(r:Rd G b v):Rd (upd G a u') b v:=by
 rcases r with r|⟨o,r⟩
 ·exact .inl (by rw[Aq h];exact r)
 ·exact .inr ⟨o,by rw[Aq h];exact r⟩
mutual
theorem Has.tag{kvs:List (Ae×V)}(ha:G a=some u)(hd:isDk kvs u)(hd':isDk kvs u'):∀{v:V} {d:D},Has K G v d->Has K (upd G a u') v d
 |_,_,.non=> .non
 |_,_,.bl b=> .bl b
 |_,_,.int i=> .int i
 |_,_,.str x=> .str x
 |_,_,.lst (a:=b) h r=>by
  refine .lst ?_ (HasL.tag ha hd hd' r);rcases h with h|h
  ·exact .inl (cr_6 (λz=>(hd.noL ha).1 (by rw[<-z];exact h)) h)
  ·exact .inr h
 |_,_,.tup (a:=b) h r=>by
  refine .tup ?_ (HasL.tag ha hd hd' r);rcases h with h|h
  ·exact .inl (cr_6 (λz=>(hd.noL ha).2 (by rw[<-z];exact h)) h)
  ·exact .inr h
 |_,_,.exn0 (a:=b) hc h=> .exn0 hc (by rw[Aq (λz=>hd.noF ha _ _ _ _ (by rw[<-z];exact h))];exact h)
 |_,_,.exn1 (a:=b) (d:=e) hc h hx hl r=> .exn1 hc (by rw[Aq (λz=>hd.noF ha _ _ _ _ (by rw[<-z];exact h))];exact h) (by rw[Aq (λz=>(hd.noX ha).2.1 _ (by rw[<-z];exact hx))];exact hx) hl (HasL.tag ha hd hd' r)
 |_,_,.dic (a:=b) h hk r=>by
  have r':=HasL.tag ha hd hd' r
  by_cases hb:b=a
  ·refine .dic ?_ hk r';have e:=hd.one ha (by rw[<-hb];exact h);rw[e,hb];exact hd'.rd Bj
  ·exact .dic (cr_6 hb h) hk r'
 |_,_,.obj (a:=b) hc h hl r=> .obj hc (by rw[Aq (λz=>(hd.noX ha).2.2 _ _ _ (by rw[<-z];exact h))];exact h) hl (HasL.tag ha hd hd' r)
theorem HasL.tag{kvs:List (Ae×V)}(ha:G a=some u)(hd:isDk kvs u)(hd':isDk kvs u'):∀{vs:List V} {ds:List D},HasL K G vs ds->HasL K (upd G a u') vs ds
 |_,_,.nil=> .nil
 |_,_,.cons h r=> .cons (Has.tag ha hd hd' h) (HasL.tag ha hd hd' r)
end
end
def Itk(a:Addr)(ob:Obj)(kvs:List (Ae×V)):It:=⟨λi H=>H a=some (.frz ob (.dK kvs))/\i < kvs.length,λi H x H'=>H'=H/\∃p,kvs[i]? =some p/\x=kV p.1,λi H=>H a=some (.frz ob (.dK kvs))/\i=kvs.length⟩
def ah_5{P:Program}{w:World}{h:Heap}{a:Addr}{ob:Obj}{kvs:List (Ae×V)}(ok:HOk P w H h)(e:H a=some (.frz ob (.dK kvs))){es:Array DictEntry}{ep:Nat}(hd:ob.data=.dict es ep):∃ws,KV kvs ws/\h.DictAt (Dw P w) a ws ep:=by
 obtain⟨g,_,_,ws,kv,o,es',ep',g',c1,c2,c3⟩:=(show ObjOk P w H h a (.frz ob (.dK kvs)) from ok a _ e);rw[g]at g';cases g';rw[hd]at c2;cases c2;exact⟨ws,kv,ob,_,g,c1,hd,c3⟩
def KV.get{kvs:List (Ae×V)}{ws:List (Ae×Value)}(r:KV kvs ws){i:Nat}{p:Ae×V}(e:kvs[i]? =some p):∃x,ws[i]? =some (p.1,x):=by
 have hl:=r.length;have hk:=r.keys;have hi:i < kvs.length:=(B6.mp e).1;obtain⟨q,hq⟩:∃q,ws[i]? =some q:=⟨_,B3 (show i < ws.length by omega)⟩;have e1:(kvs.map (·.1))[i]? =some p.1:=by rw[A9,e];rfl
 have e2:(ws.map (·.1))[i]? =some q.1:=by rw[A9,hq];rfl
 rw[hk,e2]at e1;have e3:q.1=p.1:=J7 e1;exact⟨q.2,by rw[hq,<-e3]⟩
def bb_9{P:Program}{w:World}{tg:Expr}(a it:Addr)(ob:Obj)(kvs:List (Ae×V)){es:Array DictEntry}{ep:Nat}(hd:ob.data=.dict es ep):Turn P w K tg (Itk a ob kvs) [it] it (λi h=>h.IsKeyIter it a i kvs.length ep) where
 mem:=by simp
 obj:=λi h st b hb=>by
  have e:b=it:=by simpa using hb
  subst e;obtain⟨o,e,c,d⟩:=st;exact⟨o,e,λv z=>by rw[d]at z;cases z⟩
 keep:=λi h h' st k=>st.at λo e=>k it (by simp) o e
 item:=by
  intro X hP hw hK hc i zd s σ H E I hf st hg;subst hP hw hK;obtain⟨hq,hlt⟩:=hg;obtain⟨ws,kv,da⟩:=ah_5 I.hok hq hd;obtain⟨f0,f1,f2,f3,f4,f5⟩:=hf it (by simp);obtain⟨p,hp⟩:∃p,kvs[i]? =some p:=⟨_,B3 hlt⟩;obtain⟨x,hx⟩:=KV.get kv hp;rw[kv.length]at st;refine wpAny_pyNext_dict_item st da hx λkey h' hk st' sb=> ?_;rw[<-kv.length]at st';have I1:Inv X zd σ H {s with heap:=h'}:=I.turned (t':=s.toks) (λb o hb e=>(sb.2 b hb).trans e) f0 f1 f3 f4 f5;obtain⟨o,e,c,d⟩:=id st';exact⟨key,rfl,bk_2 (s:={s with heap:=h'}) e c d ⋯ ⟨kV p.1,H,I1,cq_2 hk,⟨rfl,p,hp,rfl⟩,st',λb hb=>(hf b hb).1⟩⟩
 done:=by
  intro X hP hw hK hc i zd s σ H E I hf st hg;subst hP hw hK;obtain⟨hq,hg⟩:=hg;subst hg;obtain⟨ws,kv,da⟩:=ah_5 I.hok hq hd;obtain⟨f0,f1,f2,f3,f4,f5⟩:=hf it (by simp);rw[kv.length]at st;exact wpAny_pyNext_dict_end (I.ok.hd hc) st da (by simp) λh' eb=>⟨rfl,I.turned (t':=s.toks) (λb o hb e=>eb b o hb e) f0 f1 f3 f4 f5⟩
 self:=λ_ _ _ _ _ st h=>wpAny_pyIter_keyiter st h
def du_9:D->R (List D)
 | .dic kds=> .ok (kds.map λp=>kD p.1)
 |_=> .no
def bo_4(f:FE):FI:=λ δ=>(f δ).bind λw=>du_9 w.d
section
variable{X:Cx}{EX:Au}{pos:Pos}
def ZD(X:Cx)(G H G2 H2:Hp):Prop:=∃(a:Addr) (ob:Obj) (kvs:List (Ae×V)) (G1 H1:Hp),Step G H G1 H1/\((G2=G1/\H2=H1)\/(G1 a=some (.dK kvs)/\(∀o v,X.H₀ a≠some (.frz o v))/\G2=upd G1 a (.frz ob (.dK kvs))/\H2=upd H1 a (.frz ob (.dK kvs))))
def cr_7{tg iter:Expr}{fi:FI}(h:∀(zd:AE) (s:Shared) (σ:Sg) (G H:Hp) (δ:DE) (ds:List D),Inv X zd σ H s->Same G H->HasS X.K G σ δ->fi δ=.ok ds->
  wpAny (model X.prog X.w) X.A (eval iter X.env) (λxv s₁=>wpAny (model X.prog X.w) X.A (pyIter xv) (λitv s₂=>∃(it:Addr) (fp:List Addr) (tn:Nat->Heap->Prop) (J:It) (H2 G2:Hp),itv=.ref it/\Inv X zd σ H2 s₂/\TurnZ X.prog X.w X.K tg J fp it tn z_0/\tn 0 s₂.heap/\(∀b∈fp,Fc X zd H2 b)/\ZD X G H G2 H2/\ItD X.K G2 J ds) X.xe s₁) X.xe s):Fd X z_0 tg iter fi:=λzd s σ G H δ ds I g0 h0 ed=>by
 refine⟨ZD X G H,λG2 H2 z=> ?_,h zd s σ G H δ ds I g0 h0 ed,λDa C s1 G2 H2 G' H' vs rs Io fc z st h1 h2 h3 rl=> ?_⟩
 ·obtain⟨a,ob,kvs,G1,H1,st,z⟩:=z;rcases z with⟨rfl,rfl⟩|⟨ga,_,rfl,rfl⟩
  ·exact⟨st.gh,h0.mono st.gg⟩
  ·refine⟨as_5 st.gh _ _,(h0.mono st.gg).len,λi d e=> ?_⟩;obtain⟨v,e1,r⟩:=(h0.mono st.gg).get i d e;exact⟨v,e1,Has.tag ga (.inl rfl) (.inr ⟨ob,rfl⟩) r⟩
 ·obtain⟨c0,c1,c2,c3,c4,c5⟩:=id fc;obtain⟨a,ob,kvs,G1,H1,st1,z⟩:=z;rcases z with⟨rfl,rfl⟩|⟨ga,nf,rfl,rfl⟩
  ·exact⟨G',H',Io,fc,st1.trans st,st1.hh.free h1,h2,h3,rl⟩
  ·have gF:G' a=some (.frz ob (.dK kvs)):=st.gg _ _ Bj;have hF:H' a=some (.frz ob (.dK kvs)):=st.hh _ _ Bj;have hH1:H1 a=some (.dK kvs):=st1.gh _ _ ga;have nDa:Da≠a:=λz=>by rw[z,Bj]at h1;cases h1
   have nC:C≠a:=λz=>by rw[z,hF]at c0;cases c0
   obtain⟨_,okd⟩:=(show ObjOk X.prog X.w H' s1.heap a (.frz ob (.dK kvs)) from Io.hok a _ hF);have back:∀{F F1 F':Hp},F1 a=some (.dK kvs)->Same F F1->Same (upd F1 a (.frz ob (.dK kvs))) F'->Same F (upd F' a (.dK kvs)):=λe s1 s2 b o z=>by
    have z1:=s1 _ _ z
    by_cases hb:b=a
    ·subst hb;rw[e]at z1;rw[Bj];exact z1
    ·rw[Aq hb];exact s2 _ _ (by rw[Aq hb];exact z1)
   have I4:Inv X zd σ (upd H' a (.dK kvs)) s1:=Inv.retag Io hF (λ_ z=>by cases z) (λ_ z=>by cases z) (λ_ z=>by cases z) nf okd;refine⟨upd G' a (.dK kvs),_,I4,⟨by rw[Aq nC];exact c0,c1,c2,c3,c4,c5⟩,⟨back hH1 st1.hh st.hh,as_5 st.gh _ _,back ga st1.gg st.gg,λb z1 z2=> ?_⟩,st1.hh.free (by rw[Aq nDa]at h1;exact h1),by rw[Aq nDa];exact h2,by rw[Aq nDa];exact h3,HasL.tag gF (.inr ⟨ob,rfl⟩) (.inl rfl) rl⟩;have g1:=st1.nw b z1 z2;have hb:b≠a:=λq=>by rw[q,ga]at g1;cases g1
   rw[Aq hb];exact st.nw b (by rw[Aq hb];exact g1) (by rw[Aq hb];exact λq=>z2 (st1.hh.free q))
def cr_8{iter tg:Expr}{f0:FE}(hi:ED X Fy iter f0):Fd X z_0 tg iter (bo_4 f0):=cr_7 λzd s σ G H δ ds I g0 h0 ek=>by
 obtain⟨w,kds,ew,ed,rfl⟩:∃w kds,f0 δ=.ok w/\w.d=.dic kds/\ds=kds.map λp=>kD p.1:=by
  unfold bo_4 at ek;cases e:f0 δ with
  |ok w=>
   rw[e,R.bind_ok]at ek;cases e2:w.d with
   |dic kds=>rw[e2]at ek;cases ek;exact⟨w,kds,rfl,e2,rfl⟩
   |_=>rw[e2]at ek;cases ek
  |ex x=>rw[e]at ek;cases ek
  |no=>rw[e]at ek;cases ek
 refine Ay (hi zd s σ H (λv H1=>∃G1,Step G H G1 H1/\Has X.K G1 v w.d) I ⟨G,δ,g0,h0,by rw[ew];exact WP.intro λv G1 H1 st r=>⟨G1,st,r⟩⟩) λu s1 ⟨v,H1,I1,r1,G1,st,r⟩=> ?_;rw[ed]at r;cases r with
 |dic hh hk' r=>
  rename_i a kvs;cases r1;obtain⟨z,lo,ws,kv,o,es,ep,g1,c1,c2,c3⟩:=r_5 I1.hok (Same.rdD st.gh hh);have da:s1.heap.DictAt (Dw X.prog X.w) a ws ep:=⟨o,es,g1,c1,c2,c3⟩;refine wpAny_pyIter_dict lo da ?_;have I2:=I1.kept (t':=s1.toks) (h':=s1.heap.push {cls:=.type "dict_keyiterator",data:=.fields #[.ref a,.int 0 0,.int ws.length 0,.int ep 0]}) λb o e=>A4 _ e;have tn0:(s1.heap.push {cls:=.type "dict_keyiterator",data:=.fields #[.ref a,.int 0 0,.int ws.length 0,.int ep 0]}).IsKeyIter s1.heap.objs.size a 0 kvs.length ep:=⟨_,B9 _ rfl,rfl,by rw[kv.length];rfl⟩;have zk:(kds.map λp=>kD p.1).length=kvs.length:=by
   have:=K4 List.length hk';rw[A3,A3]at this;rw[A3];exact this.symm
  have itd:∀G2:Hp,G2 a=some (.frz o (.dK kvs))->ItD X.K G2 (Itk a o kvs) (kds.map λp=>kD p.1):=λG2 ga G' H' s1' s2' i=>by
   have gH:H' a=some (.frz o (.dK kvs)):=s2' _ _ (s1' _ _ ga);refine⟨λd e=>⟨⟨gH, ?_⟩,λx H'' y=> ?_⟩,λe=>⟨gH,by omega⟩⟩
   ·have:=(B6.mp e).1;omega
   ·obtain⟨rfl,q,hq,rfl⟩:=y;refine⟨G',Step.refl s2', ?_⟩;rw[A9]at e;obtain⟨q',hq',rfl⟩:=F9.mp e;have e1:(kvs.map (·.1))[i]? =some q.1:=by rw[A9,hq];rfl
    have e2:(kds.map (·.1))[i]? =some q'.1:=by rw[A9,hq'];rfl
    rw[hk',e2]at e1;have e3:q'.1=q.1:=J7 e1;rw[e3];exact au_0 _
  have fr:∀H2:Hp,H2 s1.heap.objs.size=none->∀b∈ [s1.heap.objs.size],Fc X zd H2 b:=λH2 hn b hb=>by
   have e:b=s1.heap.objs.size:=by simpa using hb
   subst e;exact I1.fpOk (B5 _) hn
  have free:=I1.hok.fresh (B5 s1.heap.objs.size);rcases hh with hh|⟨o',hh⟩
  ·have hH:=st.gh _ _ hh;have nf:∀o v,X.H₀ a≠some (.frz o v):=λo v e=>by
    have:=I1.base.frzs a o v e;rw[hH]at this;cases this
   have ok:ObjOk X.prog X.w (upd H1 a (.frz o (.dK kvs))) (s1.heap.push {cls:=.type "dict_keyiterator",data:=.fields #[.ref a,.int 0 0,.int ws.length 0,.int ep 0]}) a (.frz o (.dK kvs)):=⟨A4 _ g1,z,lo,ws,kv,o,es,ep,A4 _ g1,c1,c2,c3⟩;have I3:=Inv.retag I2 hH (λ_ z=>by cases z) (λ_ z=>by cases z) (λ_ z=>by cases z) nf ok;refine⟨_,_,_,Itk a o kvs,_,upd G1 a (.frz o (.dK kvs)),rfl,I3,Turn.z (bb_9 a _ o kvs c2),tn0,fr _ ?_,⟨a,o,kvs,G1,H1,st,.inr ⟨hh,nf,rfl,rfl⟩⟩,itd _ Bj⟩;rw[Aq (λz=>by rw[z,hH]at free;cases free)];exact free
  ·have hH:=st.gh _ _ hh;obtain⟨g2,_⟩:=(show ObjOk X.prog X.w H1 s1.heap a (.frz o' (.dK kvs)) from I1.hok a _ hH);rw[g1]at g2;cases g2;exact⟨_,_,_,Itk a o kvs,H1,G1,rfl,I2,Turn.z (bb_9 a _ o kvs c2),tn0,fr _ free,⟨a,o,kvs,G1,H1,st,.inl ⟨rfl,rfl⟩⟩,itd _ hh⟩
end
def gcM{EX:Au}{i:Nat}{x:Str}(hN:decide X.N.Nodup=true:=by rfl')(hi:X.N[i]? =some x:=by rfl)(hx:Ep X.env.scope x:=by trivial)
  (hf:X.fn x=true\/X.env.scope.names.lookup x=some .local:=by trivial):GC X EX (.Name x pos) (gC i):=db_5 (K8 hN) hi hx hf
structure BaseI(K:Frag)(B f:Addr):Prop where
 sp:specialIn K (.ref B) "__getattribute__" =some (some (.builtin "type.__getattribute__"))
 rd:readsIn K B (.type "type")=true
 at_:findCls K (.ref B) (.type "type") "__init__" =some (.val (.ref f))
 kp:keepIn K (.ref f)=true
section
variable{X:Cx}{EX:Au}{e:Expr}{es:List Expr}{x:Str}{pp zg pos:Pos}{cc:Bool}{k k' n:Nat}{ps:List Str}
end
def Step.wr{G H G' H':Hp}{a:Addr}{o:HO}(s:Step G H G' H')(n:H a=none)(g:G' a=none):Step G H G' (L2.upd H' a o):=
 ⟨λb u z=>by rw[Aq (Ej z n)];exact s.hh b u z,λb u z=>by rw[Aq (Ej z g)];exact s.gh b u z,s.gg,s.nw⟩
structure OInst(K:Frag)(C:Addr):Prop where
 pg:plainGet K C "__class__" =true
 hd:hasDictIn K C=true
 cl:findIn K (.ref C) "__class__" =some (some (.builtin "object.__class__"))
 gs:specialIn K (.builtin "object.__class__") "__get__" =some (some (.builtin "getset_descriptor.__get__"))
 tk:takesIn K (.builtin "object.__class__")=some true
 ob:mroIn K C (.type "object")=some true
section
variable{X:Cx}{EX:Au}{zd:AE}{σ:Sg}{G H:Hp}{s:Shared}
variable{a:Expr}{fo:FE}{tb:List (Str×Bool)}{pp pos:Pos}
end
section
variable{X:Cx}{EX:Au}{pos:Pos}
def gNs:List Nat->List D->SE->R SE
 | [],[],Δ=> .ok Δ
 |i::is,d::ds,Δ=>gNs is ds (Δ.set i (.sh d))
 |_,_,_=> .no
def bc_0(is:List Nat):FG:=λd Δ=>match d with
 | .tup ds=>gNs is ds Δ
 |_=> .no
theorem cb_6:∀(is:List Nat) (ds:List D) (Δ Δ':SE),gNs is ds Δ=.ok Δ'->ds.length=is.length
 | [],[],_,_,_=>rfl
 |_::is,_::ds,_,_,e=>K4 Nat.succ (cb_6 is ds _ _ e)
 | [],_::_,_,_,e=>by cases e
 |_::_,[],_,_,e=>by cases e
def tGs(K:Frag)(is:List Nat):TGs:=λvs σ H Q=>∃H0 G0 G Δ O ds Δ',Ev K H0 G0 G H σ Δ O/\HasL K G vs ds/\gNs is ds Δ=.ok Δ'/\∀σ' G' H' O',Ev K H0 G0 G' H' σ' Δ' O'->Same G G'->Q σ' H'
def cr_9:PGs X [] (tGs X.K []):=λzd s σ H vs us Q I r ⟨H0,G0,G,Δ,O,ds,Δ',E,rl,e,q⟩=>ag_1 zd s σ H vs us Q I r (by
 cases rl with
 |nil=>cases e;exact⟨rfl,q σ G H O E (Same.refl _)⟩
 |cons _ _=>cases e)
def ad_0{i:Nat}{x:Str}{p:Pos}{ts:List Expr}{is:List Nat}(hN:X.N.Nodup)(h2:PGs X ts (tGs X.K is))(hi:X.N[i]? =some x:=by rfl)(hx:Ep X.env.scope x:=by trivial)
  (hf:X.fn x=true\/X.env.scope.names.lookup x=some .local:=by trivial)
  (hs:(assignEach (.Name x p::ts) X.env).map (·.2)=assign (.Name x p) X.env::(assignEach ts X.env).map (·.2):=by rfl):PGs X (.Name x p::ts) (tGs X.K (i::is)):=
 λzd s σ H vs us Q I r ⟨H0,G0,G,Δ,O,ds,Δ',E,rl,e,q⟩=>l_8 (m_2 hN hi hx hf) h2 hs zd s σ H vs us Q I r (by
  cases rl with
  |nil=>cases e
  |cons h rl=>exact⟨_,_,rfl,H0,G0,G,_,O,_,Δ',E.put h,rl,e,q⟩)
theorem HasL.len{G:Hp}:∀{vs:List V} {ds:List D},HasL K G vs ds->vs.length=ds.length
 |_,_,.nil=>rfl
 |_,_,.cons _ r=>K4 Nat.succ r.len
def cb_7{es:List Expr}{is:List Nat}{k:Nat}(hc:X.calm=true)(h:PGs X es (tGs X.K is))(hn:(assignEach es X.env).length=is.length:=by rfl)(hst:(assignEach es X.env).findIdx? (·.1)=none:=by rfl):
  GD X EX (.Tuple es k pos) (bc_0 is):=
 PG.imp (bs_6 hc h hn hst) λv σ H Q ⟨H0,G0,G,Δ,O,d,E,r,q⟩=>by
  cases r with
  | @tup a vs ds h r=>
   simp only[bc_0]at q;cases e:gNs is ds Δ with
   |ok Δ'=>
    rw[e]at q;exact⟨_,_,rfl,Same.tupS E.st.gh h,r.len.trans (cb_6 _ _ _ _ e),H0,G0,G,Δ,O,_,Δ',E,r,e,q⟩
   |ex x=>rw[e]at q;exact q.elim
   |no=>rw[e]at q;exact q.elim
  |_=>exact False.elim q
end
section
variable{P:Program}{w:World}{K:Frag}{mg:AB}{base:Heap}{cc:Bool}{k n:Nat}{ps:List Str}{st:Stmt}{Fn:AF}
def bo_5{m q c:Str}{C:Addr}(xa:ClsAt K c C)(cl:Cls K C)(W:FnMet K C m q st)(ok:∀{f:Addr} {fd:FuncData},Fun K m q st f fd->FnX P w K mg base cc k f fd ps (Ca K (n + 1) Fn)/\Binds K fd ps []):MethD P w K mg base cc k n m c Fn:=by
 obtain⟨f,a,⟨fd,F⟩,kp,i⟩:=W;exact⟨⟨C,f,fd,ps,xa,cl,⟨a,i,kp⟩,(ok F).1,(ok F).2⟩⟩
def Ef{x:Str}{h:Heap}(X:K.In h)(G:h.Ns mainGlobals mg)(W:FnTop K x st)(ok:∀{f:Addr} {fd:FuncData},Fun K x x st f fd->FnX P w K mg base cc k f fd ps (Ca K ps.length Fn)/\Binds K fd ps []):FnD P w K mg base cc x k ps Fn:=by
 obtain⟨f,a,fd,F⟩:=W;exact dn_6 F (mg_of X G a) (ok F).2 (ok F).1
end
section
variable{X:Cx}{zd:AE}{σ:Sg}{H:Hp}{s:Shared}{a:Addr}{kvs:List (Ae×V)}{k:Ae}{u:Value}{A:Around}{E:AA}
def cs_0{x:V}{r:Value}{Q:AA}(I:Inv X zd σ H s)(e:H a=some (.dK kvs))(ry:RelV (kV k) u)(rx:RelV x r)(l:kvs.length < sizeLine)
  (h1:∀v w' s',Ci kvs k=some v->Inv X zd σ H s'->RelV v w'->Q w' s') (h2:Ci kvs k=none->∀s',Inv X zd σ (upd H a (.dK (Ek kvs k x))) s'->Q r s'):
  wpAny (model X.prog X.w) A (call (.builtin "dict.setdefault") [.ref a,u,r]) Q E s:=by
 obtain⟨z,hd,vs,rel,dd⟩:=bz_3 I.hok e;have hl:(Ek kvs k x).length<=sizeLine:=by have:=u_8 kvs k x;omega
 have hr:=rel.val k;refine U6 W8 dd.typeIs PySem.F.entry_dict_setdefault (PySem.F.args_dict_setdefault_3 _ _ _) (PySem.kt_meets_setdefault (Dw X.prog X.w) a (ag_4 ry) hd r) ⟨vs,dd,by rw[<-rel.length];exact z,λw' hw=> ?_,λhn h' dd' hs=> ?_⟩
 ·cases hv:Ci kvs k with
  |none=>
   have hn:valueAt vs k=none:=RelO.none_of (by rw[<-hv];exact hr);rw[hn]at hw;cases hw
  |some v=>
   obtain⟨w2,hw2,rv⟩:=RelO.some_of (v:=v) (o:=valueAt vs k) (by rw[<-hv];exact hr);rw[hw2]at hw;cases hw;exact h1 v w' _ hv (I.tok _) rv
 ·have he:∃q,h'.get? a=some q:=let⟨q,_,_,hq,_⟩:=dd';⟨q,hq⟩;refine h2 ?_ _ (ag_5 I (by rw[e];exact True.intro) hs he (bf_4 hl hd (rel.put k rx) dd'));cases hv:Ci kvs k with
  |none=>rfl
  |some v=>
   obtain⟨w2,hw2,rv⟩:=RelO.some_of (v:=v) (o:=valueAt vs k) (by rw[<-hv];exact hr);rw[hw2]at hn;cases hn
end
def dv_0(td ty tx:TE):TE:=λ σ H Q=>td σ H λx H1=>∃a,x=.ref a/\IsD H1 a/\ty σ H1 λy H2=>tx σ H2 λz H3=>∃kvs k,H3 a=some (.dK kvs)/\y=kV k/\kvs.length < sizeLine/\
 (∀v,Ci kvs k=some v->Q v H3)/\(Ci kvs k=none->Q z (upd H3 a (.dK (Ek kvs k z))))
section
variable{X:Cx}{EX:Au}{o e f:Expr}{zg zf pos:Pos}{td ty tx:TE}
def de_0(ho:PE X o td)(he:PE X e ty)(hf:PE X f tx)(m:M2 X o "setdefault" zg e f zf):PE X (.Call (.Attribute o "setdefault" zg) [e,f] [] zf) (dv_0 td ty tx):=by
 intro zd s σ H Q I h;refine Z0 m.base m.few m.line O0 W8 PySem.F.type_dict_setdefault (Ay (ho zd s σ H _ I h) λu s1 ⟨x,H1,I1,rx,a,ex,d,q1⟩=> ?_);subst ex;obtain rfl:u=Value.ref a:=rx;obtain⟨t1,t2,_⟩:=bu_2 I1 d;refine⟨t1,t2, ?_⟩;rw[m.trees];refine M9 rfl (S6 (O9 (Ay (he zd s1 σ H1 _ I1 q1) λiv s2 ⟨y,H2,I2,ry,q2⟩=>
  O9 (Ay (hf zd s2 σ H2 _ I2 q2) λfv s3 ⟨z,H3,I3,rz,kvs,k,ea,ey,l,q3,q4⟩=>U4 ?_))))
 subst ey;exact cs_0 I3 ea ry rz l (λv w' s4 hv I4 rv=>⟨v,_,I4,rv,q3 v hv⟩) λhn s4 I4=>⟨z,_,I4,rz,q4 hn⟩
end
def sdK(zm:List (Ae×Tn))(k:Ae):List (Ae×Tn):=match Bh zm k with
 |some _=>zm
 |none=>zm ++ [(k,.lst [])]
section
variable{X:Cx}{EX:Au}{pos:Pos}
theorem bo_6{k:Ae}:∀{kvs:List (Ae×V)} {zm:List (Ae×Tn)},kvs.map (·.1)=zm.map (·.1)->Bh zm k=none->Ci kvs k=none
 | [],_,_,_=>rfl
 |_::_,[],e,_=>by simp at e
 |(x,v)::kvs,(y,t)::zm,e,h=>by
  simp only[A8,R7]at e;obtain⟨e1,e2⟩:=e;subst e1
  by_cases q:x=k
  ·exfalso;unfold Bh at h;rw[R5 (by simpa using q)]at h;cases h
  ·rw[i_1 q];refine bo_6 e2 ?_;unfold Bh at h⊢
   rwa[R6 (by simpa using q)]at h
end
section
variable{P:Program}{w:World}{K:Frag}{mg:AB}{base:Heap}{cc:Bool}{j k n:Nat}{ps:List Str}{st:Stmt}{Fn:AF}{C:Addr}{m c q f:Str}
def XB(K:Frag)(C:Addr)(q f:Str)(st:Stmt):Prop:=keepIn K (.ref C)=true/\XCls K C/\findIn K (.ref C) f=some none/\∃(fI:Addr) (fd:FuncData) (o:Obj),XMk K C fI/\K.lookup fI=some o/\o.cls=.type "function" /\Fun K "__init__" q st fI fd
def XB.mk{fI N L:Addr}{nm qn:Str}{bs sub:List Value}{sn:List Str}{ab:Bool}{col:Option Bool}{dd od ddL odL odI an:Option Addr}{k0 k1 k2 k3 k5:Option Value}{oc c0 oL kV dc pm cd ct:Value}{es esL:Array DictEntry}{ep epL:Nat}{sl sl0 slL slI:Array (Option Value)}{cdL:ClassData}
  (lc:K.lookup C=some (excClassObj nm qn C N bs (.ref L::bmVE) true sn sub ab col dd k0 k1 k2 k3 k5 "ValueError.__new__")) (ln:K.lookup N=some ⟨oc,od,.dict es ep,sl⟩) (_:findIn K (.ref C) "__init__" =some (some (.ref fI))) (kn:l_9 es=true) (hi:nsFind es "__init__" =some (.ref fI))
  (ll:K.lookup L=some ⟨c0,ddL,.cls cdL,sl0⟩) (lm:K.lookup cdL.ns=some ⟨oL,odL,.dict esL epL,slL⟩) (km:l_9 esL=true) (hL:nsFind esL "__init__" =none) (sa:findIn K (.ref C) "__setattr__" =some (some (.builtin "object.__setattr__"))) (nf:findIn K (.ref C) f=some none) (kp:keepIn K (.ref C)=true)
  (l:K.lookup fI=some ⟨.type "function",odI,.func (fnOf "__init__" q (i_8 st) (Ey st) (Cc st) .none kV dc pm an cd ct),slI⟩) (cI:codeIn K cd q=true) (kI:keepIn K (.ref fI)=true):XB K C q f st:=
 ⟨kp,dd_3 lc sa,nf,fI,_,_,dp_2 lc ln kn hi ll lm km hL,l,rfl,bt_8 l cI kI⟩
def di_5(xa:ClsAt K c C)(gx:mg c=some (.ref C))(b:XB K C q f st)(ok:∀{fI:Addr} {fd:FuncData},Fun K "__init__" q st fI fd->XCls K C->findIn K (.ref C) f=some none->FnX P w K mg base false 1 fI fd ps (al_5 C f)/\Binds K fd ps []):XC P w K mg base c f C:=by
 obtain⟨kp,xc,nf,fI,fd,o,mk,l,e,F⟩:=b;exact⟨xa,gx,kp,xc,fI,fd,ps,o,mk,l,e,(ok F xc nf).1,(ok F xc nf).2⟩
def XB0{N L:Addr}{nm qn:Str}{bs sub:List Value}{sn:List Str}{ab:Bool}{col:Option Bool}{dd od ddL odL:Option Addr}{k0 k1 k2 k3 k5:Option Value}{oc c0 oL:Value}{es esL:Array DictEntry}{ep epL:Nat}{sl sl0 slL:Array (Option Value)}{cdL:ClassData}
  (lc:K.lookup C=some (excClassObj nm qn C N bs (.ref L::bmVE) true sn sub ab col dd k0 k1 k2 k3 k5 "ValueError.__new__")) (ln:K.lookup N=some ⟨oc,od,.dict es ep,sl⟩) (kn:l_9 es=true) (hi:nsFind es "__init__" =none)
  (ll:K.lookup L=some ⟨c0,ddL,.cls cdL,sl0⟩) (lm:K.lookup cdL.ns=some ⟨oL,odL,.dict esL epL,slL⟩) (km:l_9 esL=true) (hL:nsFind esL "__init__" =none) (kp:keepIn K (.ref C)=true):keepIn K (.ref C)=true/\XMk0 K C:=⟨kp,dd_7 lc ln kn hi ll lm km hL⟩
def XB9(K:Frag)(C:Addr):Prop:=keepIn K (.ref C)=true/\XMk0 K C
def cs_1(xa:ClsAt K c C)(gx:mg c=some (.ref C))(b:XB9 K C):XC0 K mg c C:=⟨xa,gx,b.1,b.2⟩
def OInst.mm(pg:plainGet K C Str.empty=true)(hd:hasDictIn K C=true)(cl:findIn K (.ref C) "__class__" =some (some (.builtin "object.__class__")))(gs:specialIn K (.builtin "object.__class__") "__get__" =some (some (.builtin "getset_descriptor.__get__")))(tk:takesIn K (.builtin "object.__class__")=some true)(ob:mroIn K C (.type "object")=some true):OInst K C:=⟨pg,hd,cl,gs,tk,ob⟩
def NoAttr.mk(h:findIn K (.ref C) f=some none):NoAttr K C f:=h
def mto{tb:List (Str×(AF))}(d:MethD P w K mg base cc j n m c Fn)(r:MethT P w K mg base cc k n m tb)(hj:j<=k:=by decide):MethT P w K mg base cc k n m ((c,Fn)::tb):=.one d hj r
def mtn:MethT P w K mg base cc k n m []:=.nil
end
def Gd:HO->Bool
 | .ins _ _ _=>true
 | .dK _=>true
 |_=>false
mutual
def Tn.lends:Tn->Bool
 | .sh _=>true
 | .lst _=>false
 | .tup _=>false
 | .dic zm=>Tn.lendsK zm
 | .obj _ _ ts=>Tn.lendsL ts
def Tn.lendsL:List Tn->Bool
 | []=>true
 |t::ts=>t.lends && Tn.lendsL ts
def Tn.lendsK:List (Ae×Tn)->Bool
 | []=>true
 |(_,t)::ts=>t.lends && Tn.lendsK ts
end
theorem Tn.lendsK_eq:∀zm:List (Ae×Tn),Tn.lendsL (zm.map (·.2))=Tn.lendsK zm
 | []=>by simp only[N0,Tn.lendsL,Tn.lendsK]
 |(k,t)::zm=>by simp only[A8,Tn.lendsL,Tn.lendsK,Tn.lendsK_eq zm]
mutual
theorem Ow.lend{G H:Hp}:∀{v:V} {t:Tn} {S:AS},Ow K G H v t S->t.lends=true->∃S':AS,(∀b,S' b->S b/\∃o,H b=some o/\Gd o=true)/\Ow K G H v t S'
 |_,_,_,.sh h,_=>⟨λ_=>False,λ_ z=>z.elim,.sh h⟩
 |_,_,_,.lst h ha sub r,e=>by simp only[Tn.lends]at e;cases e
 |_,_,_,.tup h ha sub r,e=>by simp only[Tn.lends]at e;cases e
 |_,_,_,.dic (a:=a) h hk ha sub r,e=>by
  simp only[Tn.lends]at e;obtain⟨S1,f,r'⟩:=OwL.lend r (by rw[Tn.lendsK_eq];exact e);refine⟨λb=>b=a\/S1 b,λb hb=> ?_,.dic h hk (.inl rfl) (λb hb=>⟨.inr hb,(sub b (f b hb).1).2⟩) r'⟩;rcases hb with rfl|hb
  ·exact⟨ha,_,h,rfl⟩
  ·exact⟨(sub b (f b hb).1).1,(f b hb).2⟩
 |_,_,_,.obj (a:=a) hc h hl ha sub r,e=>by
  simp only[Tn.lends]at e;obtain⟨S1,f,r'⟩:=OwL.lend r e;refine⟨λb=>b=a\/S1 b,λb hb=> ?_,.obj hc h hl (.inl rfl) (λb hb=>⟨.inr hb,(sub b (f b hb).1).2⟩) r'⟩;rcases hb with rfl|hb
  ·exact⟨ha,_,h,rfl⟩
  ·exact⟨(sub b (f b hb).1).1,(f b hb).2⟩
theorem OwL.lend{G H:Hp}:∀{vs:List V} {ts:List Tn} {S:AS},OwL K G H vs ts S->Tn.lendsL ts=true->∃S':AS,(∀b,S' b->S b/\∃o,H b=some o/\Gd o=true)/\OwL K G H vs ts S'
 |_,_,_,.nil,_=>⟨λ_=>False,λ_ z=>z.elim,.nil⟩
 |_,_,_,.cons h r dj s1 s2,e=>by
  simp only[Tn.lendsL,C8]at e;obtain⟨A,fA,hA⟩:=Ow.lend h e.1;obtain⟨B,fB,hB⟩:=OwL.lend r e.2;exact⟨λb=>A b\/B b,λb hb=>hb.elim (λz=>⟨s1 b (fA b z).1,(fA b z).2⟩) λz=>⟨s2 b (fB b z).1,(fB b z).2⟩,.cons hA hB (λb x y=>dj b (fA b x).1 (fB b y).1) (λ_ z=> .inl z) λ_ z=> .inr z⟩
end
mutual
def Do:D->Bool
 | .non=>true
 | .bl _=>true
 | .int _=>true
 | .str _=>true
 | .lst ds=>Dz ds
 | .tup ds=>Dz ds
 |_=>false
def Dz:List D->Bool
 | []=>true
 |d::ds=>Do d && Dz ds
end
mutual
def Di:Tn->Bool
 | .sh d=>Do d
 | .lst ts=>k_2 ts
 | .tup ts=>k_2 ts
 | .dic zm=>p_9 zm
 | .obj _ _ ts=>k_2 ts
def k_2:List Tn->Bool
 | []=>true
 |t::ts=>Di t && k_2 ts
def p_9:List (Ae×Tn)->Bool
 | []=>true
 |(_,t)::ts=>Di t && p_9 ts
end
theorem af_1:∀zm:List (Ae×Tn),k_2 (zm.map (·.2))=p_9 zm
 | []=>by simp only[N0,k_2,p_9]
 |(k,t)::zm=>by simp only[A8,k_2,p_9,af_1 zm]
def o_1:W->Bool
 | .sh d=>Do d
 | .ow d=>Di (Tn.of d)
 | .tr t=>Di t
open Classical in
def offQ(G:Hp)(S:AS):Hp:=λb=>if S b then none else G b
section
variable{K:Frag}{G H:Hp}{S:AS}
def offQ_sub:Same (offQ G S) G:=λb o e=>by
 unfold offQ at e
 split at e
 ·cases e
 ·exact e
def t_3{b:Addr}(h:¬S b):offQ G S b=G b:=by unfold offQ;rw[if_neg h]
def ah_6{b:Addr}(h:S b):offQ G S b=none:=by unfold offQ;rw[if_pos h]
def al_7(hs:∀b o,S b->G b=some o->Gd o=true){b:Addr}{o:HO}(e:G b=some o)(n:Gd o=false):offQ G S b=some o:=by
 rw[t_3 λz=>by have:=hs b o z e;rw[n]at this;cases this];exact e
def cb_8(hs:∀b o,S b->G b=some o->Gd o=true){a:Addr}{u:HO}(h:Rd G a u)(n:Gd u=false):Rd (offQ G S) a u:=by
 rcases h with h|⟨o,h⟩
 ·exact .inl (al_7 hs h n)
 ·exact .inr ⟨o,al_7 hs h rfl⟩
mutual
theorem Has.offQ(hs:∀b o,S b->G b=some o->Gd o=true):∀{v:V} {d:D},Has K G v d->Do d=true->Has K (L3.offQ G S) v d
 |_,_,.non,_=> .non
 |_,_,.bl b,_=> .bl b
 |_,_,.int i,_=> .int i
 |_,_,.str x,_=> .str x
 |_,_,.lst h r,e=>by
  simp only[Do]at e;exact .lst (h.elim (λz=> .inl (cb_8 hs z rfl)) .inr) (HasL.offQ hs r e)
 |_,_,.tup h r,e=>by
  simp only[Do]at e;exact .tup (h.elim (λz=> .inl (cb_8 hs z rfl)) .inr) (HasL.offQ hs r e)
 |_,_,.exn0 _ _,e=>by simp only[Do]at e;cases e
 |_,_,.exn1 _ _ _ _ _,e=>by simp only[Do]at e;cases e
 |_,_,.dic _ _ _,e=>by simp only[Do]at e;cases e
 |_,_,.obj _ _ _ _,e=>by simp only[Do]at e;cases e
theorem HasL.offQ(hs:∀b o,S b->G b=some o->Gd o=true):∀{vs:List V} {ds:List D},HasL K G vs ds->Dz ds=true->HasL K (L3.offQ G S) vs ds
 |_,_,.nil,_=> .nil
 |_,_,.cons h r,e=>by
  simp only[Dz,C8]at e;exact .cons (Has.offQ hs h e.1) (HasL.offQ hs r e.2)
end
mutual
theorem Ow.offQ(hs:∀b o,S b->G b=some o->Gd o=true):∀{v:V} {t:Tn} {S':AS},Ow K G H v t S'->Di t=true->Ow K (L3.offQ G S) H v t S'
 |_,_,_,.sh h,e=>by simp only[Di]at e;exact .sh (h.offQ hs e)
 |_,_,_,.lst h ha sub r,e=>by simp only[Di]at e;exact .lst h ha sub (OwL.offQ hs r e)
 |_,_,_,.tup h ha sub r,e=>by simp only[Di]at e;exact .tup h ha sub (OwL.offQ hs r e)
 |_,_,_,.dic h hk ha sub r,e=>by simp only[Di]at e;exact .dic h hk ha sub (OwL.offQ hs r (by rw[af_1];exact e))
 |_,_,_,.obj hc h hl ha sub r,e=>by simp only[Di]at e;exact .obj hc h hl ha sub (OwL.offQ hs r e)
theorem OwL.offQ(hs:∀b o,S b->G b=some o->Gd o=true):∀{vs:List V} {ts:List Tn} {S':AS},OwL K G H vs ts S'->k_2 ts=true->OwL K (L3.offQ G S) H vs ts S'
 |_,_,_,.nil,_=> .nil
 |_,_,_,.cons h r dj s1 s2,e=>by
  simp only[k_2,C8]at e;exact .cons (Ow.offQ hs h e.1) (OwL.offQ hs r e.2) dj s1 s2
end
theorem ExcAt.offQ(hs:∀b o,S b->G b=some o->Gd o=true){cls:Value}{dx:Option Addr}{x:Xn}(h:ExcAt K G cls dx x)(e:Dz x.vs=true):ExcAt K (L3.offQ G S) cls dx x:=by
 cases h with
 |bare hc=>exact .bare hc
 |with_ hc hd hl r=>exact .with_ hc (al_7 hs hd rfl) hl (r.offQ hs e)
end
def v_1(js:List Nat):Nat->SE->DE
 |_,[]=> []
 |n,s::Δ=>(if js.contains n=true then s.any else s.pub)::v_1 js (n + 1) Δ
def x_9(js:List Nat)(Δ:SE):DE:=v_1 js 0 Δ
theorem bc_1(js:List Nat):∀(Δ:SE) (n i:Nat),(v_1 js n Δ)[i]? =(Δ[i]?).map λs=>if js.contains (n + i)=true then s.any else s.pub
 | [],n,i=>by simp only[v_1,List.getElem?_nil,Option.map_none]
 |s::Δ,n,0=>by simp only[v_1,M7,L5,Nat.add_zero]
 |s::Δ,n,i + 1=>by
  simp only[v_1,O5];rw[bc_1 js Δ (n + 1) i,show n + 1 + i=n + (i + 1) by omega]
theorem bc_2(js:List Nat):∀(Δ:SE) (n:Nat),(v_1 js n Δ).length=Δ.length
 | [],_=>rfl
 |s::Δ,n=>by simp only[v_1,B4,bc_2 js Δ]
def j_0(js:List Nat)(Δ:SE):Bool:=js.all λj=>match Δ[j]? with
 |some s=>(match s.own with
  |some t=>t.lends
  |none=>true)
 |none=>true
section
variable{K:Frag}{H0:HB}{G0 G H:Hp}{σ:Sg}{Δ:SE}{O:OS}
def Sl.any_own{s:Sl}{d:D}(e:s.any=some d):s=.sh d\/∃t,s.own=some t/\t.d=d:=by
 cases s with
 |no=>cases e
 |sh d'=>cases e;exact .inl rfl
 |ow d'=>cases e;exact .inr ⟨_,rfl,Tn.of_d _⟩
 |tr t=>cases e;exact .inr ⟨_,rfl,rfl⟩
 |lk d'=>cases e;exact .inr ⟨_,rfl,Tn.of_d _⟩
 |lt t=>cases e;exact .inr ⟨_,rfl,rfl⟩
theorem Ev.lend(E:Ev K H0 G0 G H σ Δ O)(js:List Nat)(hl:j_0 js Δ=true):∃S:AS,(∀b,S b->∃i,O i b)/\(∀b,S b->∃o,H b=some o/\Gd o=true)/\HasS K (Cz G H S) σ (x_9 js Δ):=by
 let S:AS:=λb=>∃(i:Nat) (s:Sl) (t:Tn) (v:V) (S':AS),Δ[i]? =some s/\s.own=some t/\σ[i]? =some (some v)/\(∀b,S' b->O i b/\∃o,H b=some o/\Gd o=true)/\S' b
 have hS:∀b,S b->∃i,O i b:=λb ⟨i,s,t,v,S',_,_,_,f,hb⟩=>⟨i,(f b hb).1⟩;have sg:Same G (Cz G H S):=λb o q=>by
  unfold Cz
  split
  ·rename_i hb;obtain⟨i,hi⟩:=hS b hb;rw[(E.out i b hi).1]at q;cases q
  ·exact q
 refine⟨S,hS,λb ⟨i,s,t,v,S',_,_,_,f,hb⟩=>(f b hb).2,by unfold x_9;rw[bc_2];exact E.len,λi d q=> ?_⟩;unfold x_9 at q;rw[bc_1,Q3]at q;obtain⟨s,es,q⟩:=F9.mp q
 split at q
 ·rename_i hj;rcases Sl.any_own q with rfl|⟨t,to,rfl⟩
  ·obtain⟨v,e1,r⟩:=E.sh i d es;exact⟨v,e1,r.mono sg⟩
  ·obtain⟨v,e1,w⟩:=E.ow i s t es to;have lt:t.lends=true:=by
    have:=F0.mp hl i (S3.mp hj);rw[es]at this;simp only[to]at this;exact this
   obtain⟨S',f,w'⟩:=w.lend lt;refine⟨v,e1,w'.has sg λb o hb hq=> ?_⟩;unfold Cz;rw[if_pos ⟨i,s,t,v,S',es,to,e1,f,hb⟩];exact hq
 ·cases s with
  |sh d'=>cases q;obtain⟨v,e1,r⟩:=E.sh i _ es;exact⟨v,e1,r.mono sg⟩
  |_=>cases q
def bo_7(E:Ev K H0 G0 G H σ Δ O){S:AS}(hS:∀b,S b->∃i,O i b):offQ (Cz G H S) S=G:=by
 funext b
 by_cases hb:S b
 ·rw[ah_6 hb];obtain⟨i,hi⟩:=hS b hb;exact(E.out i b hi).1.symm
 ·rw[t_3 hb];unfold Cz;rw[if_neg hb]
def cs_2(E:Ev K H0 G0 G H σ Δ O){S:AS}:Same (Cz G H S) H:=λb o q=>by
 unfold Cz at q
 split at q
 ·exact q
 ·exact E.st.gh b o q
def cs_3{S:AS}(hk:∀b,S b->∃o,H b=some o/\Gd o=true):∀b,S b->∃o,Cz G H S b=some o/\Gd o=true:=λb hb=>by
 obtain⟨o,e,l⟩:=hk b hb;exact⟨o,by unfold Cz;rw[if_pos hb];exact e,l⟩
end
theorem Step.offQ{G H G2 H2:Hp}{S:AS}(st:Step G H G2 H2):Step (L3.offQ G S) H (L3.offQ G2 S) H2:=
 ⟨st.hh,λb o q=>st.gh b o (offQ_sub b o q),λb o q=>by
  by_cases hb:S b
  ·rw[ah_6 hb]at q;cases q
  ·rw[t_3 hb]at q⊢;exact st.gg b o q,λb n z=>by
  by_cases hb:S b
  ·exact ah_6 hb
  ·rw[t_3 hb]at n⊢;exact st.nw b n z⟩
def Step.lentK{G H G2 H2:Hp}{S:AS}(st:Step G H G2 H2)(hk:∀b,S b->∃o,G b=some o/\Gd o=true):∀b,S b->∃o,G2 b=some o/\Gd o=true:=λb hb=>by
 obtain⟨o,e,l⟩:=hk b hb;exact⟨o,st.gg b o e,l⟩
def kin{G:Hp}{S:AS}(hk:∀b,S b->∃o,G b=some o/\Gd o=true):∀b o,S b->G b=some o->Gd o=true:=λb o hb q=>by
 obtain⟨o',e,l⟩:=hk b hb;rw[e]at q;cases q;exact l
def dv_1(EX:EXT):EXT:=⟨λx G H=>Dz x.vs=true/\∃S:AS,(∀b,S b->∃o,G b=some o/\Gd o=true)/\EX.p x (offQ G S) H,
 λ_ _ _ _ _ st ⟨pl,S,k,q⟩=>⟨pl,S,st.lentK k,EX.mono _ _ _ _ _ st.offQ q⟩⟩
def bh_6(EX:Au):Au:=λ σ=>dv_1 (EX σ)
def Lk.lend{EX:Au}(lk:Lk X EX):Lk X (bh_6 EX):=λzd σ H s e s' I c=>by
 obtain⟨a,C,dx,T,H',h1,h2,h3,h4,h5,h6,h7,h8,h9,h10,x,G,sg,ea,pl,S,k,q⟩:=c;exact lk zd σ H s e s' I ⟨a,C,dx,T,H',h1,h2,h3,h4,h5,h6,h7,h8,h9,h10,x,offQ G S,offQ_sub.trans sg,ea.offQ (kin k) pl,q⟩
section
variable{K:Frag}{EX:Au}{H0:HB}{G0 G H:Hp}{σ:Sg}{Δ:SE}{O:OS}{f:FE}{Q:VK}{js:List Nat}{w:W}{x:Xn}
def aq_8(E:Ev K H0 G0 G H σ Δ O)(hl:j_0 js Δ=true)(e:f (x_9 js Δ)=.ok w)(pw:o_1 w=true)(q:WP K G H w Q):tD K EX f σ H Q:=by
 obtain⟨S,hS,hk,hs⟩:=E.lend js hl;have k1:=cs_3 (G:=G) hk;refine⟨Cz G H S,x_9 js Δ,cs_2 E,hs, ?_⟩;rw[e];have st':∀{G2 H2:Hp},Step (Cz G H S) H G2 H2->Step G H (offQ G2 S) H2:=λst=>by
  have:=st.offQ (S:=S);rw[bo_7 E hS]at this;exact this
 cases w with
 |sh d=>exact λv G2 H2 st r=>q v (offQ G2 S) H2 (st' st) (r.offQ (kin (st.lentK k1)) pw)
 |ow d=>exact λv S' G2 H2 st fr t=>q v S' (offQ G2 S) H2 (st' st) (λa ha=>⟨(fr a ha).1,offQ_sub.free (fr a ha).2.1,(fr a ha).2.2⟩) (t.offQ (kin (st.lentK k1)) pw)
 |tr t=>exact λv S' G2 H2 st fr t=>q v S' (offQ G2 S) H2 (st' st) (λa ha=>⟨(fr a ha).1,offQ_sub.free (fr a ha).2.1,(fr a ha).2.2⟩) (t.offQ (kin (st.lentK k1)) pw)
def cb_9(E:Ev K H0 G0 G H σ Δ O)(hl:j_0 js Δ=true)(e:f (x_9 js Δ)=.ex x)(pl:Dz x.vs=true)(q:(EX σ).p x G H):tD K (bh_6 EX) f σ H Q:=by
 obtain⟨S,hS,hk,hs⟩:=E.lend js hl;refine⟨Cz G H S,x_9 js Δ,cs_2 E,hs, ?_⟩;rw[e];exact⟨pl,S,cs_3 hk,by rw[bo_7 E hS];exact q⟩
end
inductive FM where
 |ok (d:D) (Δ:SE)|ex (x:Xn) (Δ:SE)|no
def OutM(K:Frag)(EX:Au)(H0:HB)(G0 G1:Hp)(σ:Sg)(r:FM)(Q:VK):Prop:=match r with
 | .ok d Δ=>∀v G H O,Ev K H0 G0 G H σ Δ O->Same G1 G->Has K G v d->Q v H
 | .ex x Δ=>∀G H O,Ev K H0 G0 G H σ Δ O->Same G1 G->(EX σ).p x G H
 | .no=>False
def OutM.mono{EX:Au}{H0:HB}{G0 G1 G2:Hp}{σ:Sg}{r:FM}{Q:VK}(s:Same G1 G2)(h:OutM K EX H0 G0 G1 σ r Q):OutM K EX H0 G0 G2 σ r Q:=by
 cases r with
 |ok d Δ=>exact λv G H O E q r=>h v G H O E (s.trans q) r
 |ex x Δ=>exact λG H O E q=>h G H O E (s.trans q)
 |no=>exact h
def tM(K:Frag)(EX:Au)(g:SE->FM):TE:=λ σ H Q=>∃H0 G0 G Δ O,Ev K H0 G0 G H σ Δ O/\OutM K EX H0 G0 G σ (g Δ) Q
abbrev EM(X:Cx)(EX:Au)(e:Expr)(g:SE->FM):Prop:=PE X e (tM X.K EX g)
def tMt(K:Frag)(EX:Au)(g:SE->FM):TT:=λ σ H Q=>tM K EX g σ H λv H'=>∃b,v=.bl b/\Q b H'
abbrev TM(X:Cx)(EX:Au)(e:Expr)(g:SE->FM):Prop:=PT X e (tMt X.K EX g)
def Et(js:List Nat)(f:FE):SE->FM:=λ Δ=>if j_0 js Δ=true then(match f (x_9 js Δ) with
 | .ok w=>if o_1 w=true then .ok w.d Δ else .no
 | .ex x=>if Dz x.vs=true then .ex x Δ else .no
 | .no=> .no) else .no
def mNot(g:SE->FM):SE->FM:=λ Δ=>match g Δ with
 | .ok (.bl b) Δ1=> .ok (.bl (!b)) Δ1
 | .ok _ _=> .no
 |r=>r
def cc_0(g:SE->FM):SE->FM:=λ Δ=>match g Δ with
 | .ok (.bl b) Δ1=> .ok (.bl b) Δ1
 | .ok _ _=> .no
 |r=>r
section
variable{X:Cx}{EX:Au}{a b e:Expr}{f:FE}{p:FT}{g g2:SE->FM}{pos:Pos}
def q_0(js:List Nat)(he:ED X (bh_6 EX) e f):EM X EX e (Et js f):=PE.imp he λ σ H Q ⟨H0,G0,G,Δ,O,E,q⟩=>by
 unfold Et at q
 split at q
 ·rename_i hl;cases e1:f (x_9 js Δ) with
  |ok w=>
   simp only[e1]at q
   split at q
   ·rename_i pw;exact aq_8 E hl e1 pw (WP.intro λv G' H' st r=>q v G' H' O (E.grow st) st.gg r)
   ·exact q.elim
  |ex x=>
   simp only[e1]at q
   split at q
   ·rename_i pl;exact cb_9 E hl e1 pl (q G H O E (Same.refl _))
   ·exact q.elim
  |no=>simp only[e1]at q;exact q.elim
 ·exact q.elim
def dp_4(ha:TM X EX a g):TM X EX (.UnaryOp .Not a pos) (mNot g):=PT.imp (cl_2 ha) λ σ H Q ⟨H0,G0,G,Δ,O,E,q⟩=>by
 refine⟨H0,G0,G,Δ,O,E, ?_⟩;unfold mNot at q;cases e1:g Δ with
 |ok d Δ1=>
  simp only[e1]at q;cases d with
  |bl b=>
   intro v G1 H1 O1 E1 s1 r1;cases r1;obtain⟨b',z,q⟩:=q (.bl (!b)) G1 H1 O1 E1 s1 (.bl _);cases z;exact⟨b,rfl,q⟩
  |_=>exact q.elim
 |ex x Δ1=>simp only[e1]at q;exact q
 |no=>simp only[e1]at q;exact q.elim
def dv_2(ha:EM X EX a g)(he:∀whole,isTrue a X.env whole=(do let v<-whole;standAt a.pos;holding [v] (truthy v)):=by intro _;rfl):TM X EX a (cc_0 g):=PT.imp (bk_3 ha he) λ σ H Q ⟨H0,G0,G,Δ,O,E,q⟩=>by
 refine⟨H0,G0,G,Δ,O,E, ?_⟩;unfold cc_0 at q;cases e1:g Δ with
 |ok d Δ1=>
  simp only[e1]at q;cases d with
  |bl b=>
   intro v G1 H1 O1 E1 s1 r1;obtain⟨b',z,q⟩:=q v G1 H1 O1 E1 s1 r1;subst z;exact⟨b',rfl,q⟩
  |_=>exact q.elim
 |ex x Δ1=>simp only[e1]at q;exact q
 |no=>simp only[e1]at q;exact q.elim
end
def Ei(i:Nat)(g:SE->FM):FS:=λ Δ=>match g Δ with
 | .ok d Δ1=> .nx (Δ1.set i (.sh d))
 | .ex x Δ1=> .ex x Δ1
 | .no=> .no
def t_4(g:SE->FM):FS:=λ Δ=>match g Δ with
 | .ok _ Δ1=> .nx Δ1
 | .ex x Δ1=> .ex x Δ1
 | .no=> .no
def r_6(g:SE->FM):FS:=λ Δ=>match g Δ with
 | .ok d Δ1=> .rv d Δ1
 | .ex x Δ1=> .ex x Δ1
 | .no=> .no
def sIfM(t:SE->FM)(g h:FS):FS:=λ Δ=>match t Δ with
 | .ok (.bl b) Δ1=>if b=true then g Δ1 else h Δ1
 | .ex x Δ1=> .ex x Δ1
 |_=> .no
section
variable{X:Cx}{EX:Au}{e:Expr}{g:SE->FM}{g1 g2:FS}{pos:Pos}
def s_1{i:Nat}{x:Str}{pos':Pos}(he:EM X EX e g)(hN:X.N.Nodup)(hi:X.N[i]? =some x:=by rfl)(hx:Ep X.env.scope x:=by trivial)(hs:swapsWith e (some (.Name x pos')) pos.line X.env=pure false:=by rfl)
  (hf:X.fn x=true\/X.env.scope.names.lookup x=some .local:=by trivial):SD X EX (.Assign [.Name x pos'] e pos) (Ei i g):=
 PS.imp (be_7 hN hi hx he hs hf) λD σ H ⟨H0,G0,G,Δ,O,E,q⟩=>by
  refine⟨H0,G0,G,Δ,O,E, ?_⟩;unfold Ei at q;cases e1:g Δ with
  |ok d Δ1=>simp only[e1]at q;exact λv G1 H1 O1 E1 s1 r1=>q _ G1 H1 O1 (E1.put r1) s1
  |ex x Δ1=>simp only[e1]at q;exact λG1 H1 O1 E1 s1=>q σ G1 H1 O1 E1 s1
  |no=>simp only[e1]at q;exact q.elim
def au_7(he:EM X EX e g)(hs:swapsWith e none pos.line X.env=pure false:=by rfl):SD X EX (.Expr e pos) (t_4 g):=
 PS.imp (ac_1 he hs) λD σ H ⟨H0,G0,G,Δ,O,E,q⟩=>by
  refine⟨H0,G0,G,Δ,O,E, ?_⟩;unfold t_4 at q;cases e1:g Δ with
  |ok d Δ1=>simp only[e1]at q;exact λv G1 H1 O1 E1 s1 r1=>q σ G1 H1 O1 E1 s1
  |ex x Δ1=>simp only[e1]at q;exact λG1 H1 O1 E1 s1=>q σ G1 H1 O1 E1 s1
  |no=>simp only[e1]at q;exact q.elim
def y_0(he:EM X EX e g):SD X EX (.Return (some e) pos) (r_6 g):=
 PS.imp (bs_5 he) λD σ H ⟨H0,G0,G,Δ,O,E,q⟩=>by
  refine⟨H0,G0,G,Δ,O,E, ?_⟩;unfold r_6 at q;cases e1:g Δ with
  |ok d Δ1=>simp only[e1]at q;exact λv G1 H1 O1 E1 s1 r1=>q v σ G1 H1 O1 E1 s1 r1
  |ex x Δ1=>simp only[e1]at q;exact λG1 H1 O1 E1 s1=>q σ G1 H1 O1 E1 s1
  |no=>simp only[e1]at q;exact q.elim
def dp_5{c:Expr}{as bs:List Stmt}(hc:TM X EX c g)(ha:BD X EX as g1)(hb:BD X EX bs g2):SD X EX (.If c as bs pos) (sIfM g g1 g2):=
 PS.imp (dh_8 hc ha hb) λD σ H ⟨H0,G0,G,Δ,O,E,q⟩=>by
  refine⟨H0,G0,G,Δ,O,E, ?_⟩;unfold sIfM at q;cases e1:g Δ with
  |ok d Δ1=>
   simp only[e1]at q;cases d with
   |bl b=>
    intro v G1 H1 O1 E1 s1 r1;cases r1;refine⟨b,rfl, ?_⟩;cases b with
    |true=>rw[if_pos rfl];exact⟨H0,G0,G1,Δ1,O1,E1,Fin.mono s1 q⟩
    |false=>rw[if_neg A6];exact⟨H0,G0,G1,Δ1,O1,E1,Fin.mono s1 q⟩
   |_=>exact q.elim
  |ex x Δ1=>simp only[e1]at q;exact λG1 H1 O1 E1 s1=>q σ G1 H1 O1 E1 s1
  |no=>simp only[e1]at q;exact q.elim
end
inductive RR where
 |ok (d:D) (t:Tn)|ex (x:Xn) (t:Tn)|no
def aa_6(n:Nat)(t:Tn)(ds:List D):SE:=.lt t::(ds.map Sl.sh ++ List.replicate (n - (ds.length + 1)) .no)
def w_6(n:Nat)(g:FS)(t:Tn)(ds:List D):RR:=match g (aa_6 n t ds) with
 | .nx (.lt t'::_)=> .ok .non t'
 | .rv d (.lt t'::_)=> .ok d t'
 | .ex x (.lt t'::_)=> .ex x t'
 |_=> .no
def spR(K:Frag)(n:Nat)(F:Tn->List D->RR):Sp:=λvs H Q E=>∃a0 vs0,vs=.ref a0::vs0/\vs0.length=n/\∃G ds t S,Same G H/\HasL K G vs0 ds/\Ow K G H (.ref a0) t S/\(∀a,S a->G a=none/\H a≠none)/\
 match F t ds with
 | .ok d t'=>∀v G' H' S',MStep2 S G H G' H'->(∀a,S' a->(S a\/H a=none)/\G' a=none/\H' a≠none)->Ow K G' H' (.ref a0) t' S'->Has K G' v d->Q v H'
 | .ex x t'=>∀cls dx G' H' S',MStep2 S G H G' H'->(∀a,S' a->(S a\/H a=none)/\G' a=none/\H' a≠none)->Ow K G' H' (.ref a0) t' S'->ExcAt K G' cls dx x->E cls dx H'
 | .no=>False
open Classical in
def fn_R{c:Bool}{P:Program}{w:World}{x qual:Str}{st:Stmt}{f:Addr}{N ps:List Str}{k n:Nat}{g:FS}(F:Fun K x qual st f fd)(S:FnScope N ps (Cc st))(hn:ps.length=n + 1)(hle:ps.length<=N.length)
  (zj:∀(zp:Value) (A:Around) (outer:List Env) (s:Shared) (H:Hp) (E:XK),RoomC c k (A.deeper (envOfC qual (Cc st) s.heap.objs.size f zp))->
   BD (Gc c P w K mg base N qual (Cc st) f zp A outer s H E) (λ_=>EXof K E) (Ey st) g):FnX P w K mg base c (k + 1) f fd ps (spR K n (w_6 N.length g)):=by
 refine Fun.okX F S (λvs H Q E h=> ?_) λzp A outer s H vs Q E hr h=>⟨_,zj zp A outer s H E hr, ?_⟩
 ·obtain⟨a0,vs0,rfl,hl,_⟩:=h;rw[B4,hl,hn]
 obtain⟨a0,vs0,rfl,hl,G,ds,t,S0,g0,r,tw,out,q⟩:=h;have i0:Same (λb=>if S0 b then none else H b) H:=λb o e=>by
  simp only at e
  split at e
  ·cases e
  ·exact e
 have E0:=al_4 (N:=N) (b:=λ_=>a0) (v0:=.ref a0) g0 i0 r (by rw[hl];omega);have hs:(L2.start N (.ref a0::vs0))[0]? =some (some (.ref a0)):=rfl;have E1:=E0.putO (i:=0) (z:=.lt t) (v:=.ref a0) (S:=S0) (λa ha=>⟨by simp only;rw[if_pos ha],(out a ha).1,(out a ha).2⟩) rfl (λ_ z=>by cases z) tw (λj a ha=>ha.elim) (λ_ _=>rfl);rw[t_0 hs]at E1;refine⟨⟨λb=>if S0 b then none else H b,λ_=>a0⟩,G,G,_,_,E1, ?_⟩;have e2:(Sl.no::(ds.map Sl.sh ++ List.replicate (N.length - (ds.length + 1)) .no)).set 0 (.lt t)=aa_6 N.length t ds:=rfl;rw[e2];have fin:∀{Δ:SE} {t':Tn} {σ:Sg} {G' H':Hp} {O:OS},Ev K ⟨λb=>if S0 b then none else H b,λ_=>a0⟩ G G' H' σ (.lt t'::Δ) O->MStep2 S0 G H G' H'/\(∀a,O 0 a->(S0 a\/H a=none)/\G' a=none/\H' a≠none)/\Ow K G' H' (.ref a0) t' (O 0):=λ{Δ t' σ G' H' O} E'=>by
  obtain⟨v,s1,t3⟩:=E'.ow 0 (.lt t') t' rfl rfl;have s2:=E'.lt 0 t' rfl;rw[s1]at s2;cases s2;refine⟨⟨λb o nb z=>E'.st.hh b o (by simp only;rw[if_neg nb];exact z),E'.st.gh,E'.st.gg,λb nb z1 z2=>E'.st.nw b z1 (by simp only;rw[if_neg nb];exact z2)⟩,λa ha=> ?_,t3⟩;obtain⟨k1,k2,k3⟩:=E'.out _ a ha;refine⟨?_,k1,k3⟩;simp only at k2
  split at k2
  ·rename_i z;exact .inl z
  ·exact .inr k2
 unfold w_6 at q;cases e:g (aa_6 N.length t ds) with
 |nx Δ=>
  rw[e]at q;cases Δ with
  |nil=>exact q.elim
  |cons s Δ=>
   cases s with
   |lt t'=>
    intro σ G' H' O E' _;obtain⟨ms,fr,tt⟩:=fin E';exact q .non G' H' _ ms fr tt .non
   |_=>exact q.elim
 |rv d Δ=>
  rw[e]at q;cases Δ with
  |nil=>exact q.elim
  |cons s Δ=>
   cases s with
   |lt t'=>
    intro v σ G' H' O E' _ rv;obtain⟨ms,fr,tt⟩:=fin E';exact q v G' H' _ ms fr tt rv
   |_=>exact q.elim
 |ex x Δ=>
  rw[e]at q;cases Δ with
  |nil=>exact q.elim
  |cons s Δ=>
   cases s with
   |lt t'=>
    intro σ G' H' O E' _ cls dx G2 H2 st2 ea;obtain⟨ms,fr,tt⟩:=fin (E'.grow st2);exact q cls dx G2 H2 _ ms fr tt ea
   |_=>exact q.elim
 |rt w=>rw[e]at q;exact q.elim
 |bk Δ=>rw[e]at q;exact q.elim
 |ct Δ=>rw[e]at q;exact q.elim
 |no=>rw[e]at q;exact q.elim
def FnRd(P:Program)(w:World)(K:Frag)(mg:AB)(base:Heap)(c:Bool)(x:Str)(k n:Nat)(ps:List Str)(F:Tn->List D->RR):Prop:=
 ∃f fd,FnX P w K mg base c k f fd ps (spR K n F)/\mg x=some (.ref f)/\keepIn K (.ref f)=true/\Binds K fd ps []
def dp_6{c:Bool}{P:Program}{w:World}{x:Str}{st:Stmt}{f:Addr}{ps:List Str}{k n:Nat}{Fn:Tn->List D->RR}(F:Fun K x x st f fd)(hm:mg x=some (.ref f))(hb:Binds K fd ps [])
  (ok:FnX P w K mg base c k f fd ps (spR K n Fn)):FnRd P w K mg base c x k n ps Fn:=⟨f,fd,ok,hm,F.kp,hb⟩
structure MethR(P:Program)(w:World)(K:Frag)(mg:AB)(base:Heap)(cc:Bool)(k n:Nat)(m c:Str)(F:Tn->List D->RR):Prop where
 ex:∃C f fd ps,ClsAt K c C/\Cls K C/\Meth K C m f/\FnX P w K mg base cc k f fd ps (spR K n F)/\Binds K fd ps []
def tMa(K:Frag)(EX:Au)(ga:SE->R (List D)):TA:=λ σ H Q=>∃H0 G0 G Δ O,Ev K H0 G0 G H σ Δ O/\match ga Δ with
 | .ok ds=>∀vs G' H',Ev K H0 G0 G' H' σ Δ O->Same G G'->HasL K G' vs ds->Q vs H'
 | .ex x=>∀G' H',Ev K H0 G0 G' H' σ Δ O->Same G G'->(EX σ).p x G' H'
 | .no=>False
abbrev AM(X:Cx)(EX:Au)(es:List Expr)(ga:SE->R (List D)):Prop:=PA X es (tMa X.K EX ga)
def Ff:SE->R (List D):=λ_=> .ok []
def an_7(js:List Nat)(f:FE)(ga:SE->R (List D)):SE->R (List D):=λ Δ=>if j_0 js Δ=true then(match f (x_9 js Δ) with
 | .ok w=>if o_1 w=true then(match ga Δ with
  | .ok ds=> .ok (w.d::ds)
  | .ex x=> .ex x
  | .no=> .no) else .no
 | .ex x=>if Dz x.vs=true then .ex x else .no
 | .no=> .no) else .no
section
variable{X:Cx}{EX:Au}{e:Expr}{es:List Expr}{f:FE}{ga:SE->R (List D)}{x:Str}{pp pos:Pos}{c:Bool}{k k' n:Nat}{ps:List Str}
def af_2:AM X EX [] Ff:=PA.imp r_0 λ σ H Q ⟨H0,G0,G,Δ,O,E,q⟩=>q [] G H E (Same.refl _) .nil
def de_3(js:List Nat)(ha:ED X (bh_6 EX) e f)(hr:AM X EX es ga)(hs:starEach (e::es) X.env=(false,eval e X.env)::starEach es X.env:=by rfl):AM X EX (e::es) (an_7 js f ga):=
 PA.imp (i_7 ha hr hs) λ σ H Q ⟨H0,G0,G,Δ,O,E,q⟩=>by
  unfold an_7 at q
  by_cases hl:j_0 js Δ=true
  ·rw[if_pos hl]at q;cases e1:f (x_9 js Δ) with
   |ok w=>
    simp only[e1]at q
    by_cases pw:o_1 w=true
    ·rw[if_pos pw]at q;refine aq_8 E hl e1 pw (WP.intro λv G1 H1 st r=>⟨H0,G0,G1,Δ,O,E.grow st, ?_⟩);cases e2:ga Δ with
     |ok ds=>simp only[e2]at q;exact λvs G2 H2 E2 s2 r2=>q (v::vs) G2 H2 E2 (st.gg.trans s2) (.cons (r.mono s2) r2)
     |ex x=>simp only[e2]at q;exact λG2 H2 E2 s2=>q G2 H2 E2 (st.gg.trans s2)
     |no=>simp only[e2]at q
    ·rw[if_neg pw]at q;exact q.elim
   |ex x=>
    simp only[e1]at q
    by_cases pl:Dz x.vs=true
    ·rw[if_pos pl]at q;exact cb_9 E hl e1 pl (q G H E (Same.refl _))
    ·rw[if_neg pl]at q;exact q.elim
   |no=>simp only[e1]at q
  ·rw[if_neg hl]at q;exact q.elim
def goR(i:Nat)(lk:Bool)(Δ:SE):RR->FM
 | .ok d t'=> .ok d (Δ.set i (Sl.mk lk t'))
 | .ex x t'=> .ex x (Δ.set i (Sl.mk lk t'))
 | .no=> .no
def au_8(i n:Nat)(F:Tn->List D->RR)(ga:SE->R (List D)):SE->FM:=λ Δ=>match(Δ[i]?).bind Sl.tree with
 |some (.obj c ns ts,lk)=>(match ga Δ with
  | .ok ds=>if ds.length=n then goR i lk Δ (F (.obj c ns ts) ds) else .no
  | .ex x=> .ex x Δ
  | .no=> .no)
 |_=> .no
def r_7(i n:Nat)(m c:Str)(F:Tn->List D->RR)(ga:SE->R (List D)):SE->FM:=λ Δ=>match(Δ[i]?).bind Sl.tree with
 |some (.obj c' ns ts,lk)=>if c'=c/\ns.contains m=false then(match ga Δ with
  | .ok ds=>if ds.length=n then goR i lk Δ (F (.obj c' ns ts) ds) else .no
  | .ex x=> .ex x Δ
  | .no=> .no) else .no
 |_=> .no
def cs_5{H0:HB}{G0 G G1 H1:Hp}{σ:Sg}{Δ:SE}{O:OS}{i:Nat}{s:Sl}{c:Str}{ns:List Str}{ts:List Tn}{lk:Bool}{F:Tn->List D->RR}{a0:Addr}{vs:List V}{ds:List D}{Q:VK}
  (e1:Δ[i]? =some s) (etr:s.tree=some (.obj c ns ts,lk)) (s1:σ[i]? =some (some (.ref a0))) (E1:Ev K H0 G0 G1 H1 σ Δ O) (sg:Same G G1) (r:HasL K G1 vs ds) (hl:ds.length=n) (q:OutM K EX H0 G0 G σ (goR i lk Δ (F (.obj c ns ts) ds)) Q):spR K n F (.ref a0::vs) H1 Q (EXE K (EX σ)):=by
 obtain⟨v0,s1',t0⟩:=E1.ow i _ _ e1 (Sl.tree_own etr);rw[s1]at s1';cases s1';refine⟨a0,vs,rfl,by rw[r.length];exact hl,G1,ds,.obj c ns ts,O i,E1.st.gh,r,t0,λa ha=>⟨(E1.out i a ha).1,(E1.out i a ha).2.2⟩, ?_⟩;cases ef:F (.obj c ns ts) ds with
 |ok d t'=>
  rw[ef]at q;exact λv G' H' S' ms fr t1 rv=>q v G' H' _ (E1.step2 (Sl.mk_own lk t') (Sl.mk_lk lk t') (E1.mk_lt e1 etr t') ms s1 fr t1) (sg.trans ms.gg) rv
 |ex x t'=>
  rw[ef]at q;exact λcls dx G' H' S' ms fr t1 ea=>⟨x,G',ms.gh,ea,q G' H' _ (E1.step2 (Sl.mk_own lk t') (Sl.mk_lk lk t') (E1.mk_lt e1 etr t') ms s1 fr t1) (sg.trans ms.gg)⟩
 |no=>rw[ef]at q;exact q
theorem bo_8{m:Str}:∀{ns:List Str} {us:List V},ns.contains m=false->(ns.zip us).lookup m=none
 | [],_,_=>rfl
 |_::_,[],_=>rfl
 |n::ns,u::us,h=>by
  rw[M5,W4]at h;rw[M6,E9,h.1];exact bo_8 h.2
def cs_6{i:Nat}{y:Str}{F:Tn->List D->RR}{p3:Pos}(hr:RoomC c k' X.A)(lk:Lk X EX)(h:FnRd X.prog X.w X.K X.mg X.base c x k n ps F)(ha:AM X EX es ga)(hk:k<=k':=by decide)
  (hN:X.N[i]? =some y:=by rfl) (hv:Fg X.env.scope y:=by trivial) (hd:AG y:=by decide) (hcd:(y ==("__classdict__" :Str))=false:=by decide)
  (hg:Gl X x:=by rfl) (hdb:AG x:=by decide) (hs1:starEach (.Name y p3::es) X.env=(false,eval (.Name y p3) X.env)::starEach es X.env:=by rfl) (hpl:(backTo pos (starEach es X.env)).any (·.1)=false:=by rfl):
  EM X EX (.Call (.Name x pp) (.Name y p3::es) [] pos) (au_8 i n F ga):=by
 obtain⟨f,fd,ok,hm,kp,hb⟩:=h;refine PE.imp (bm_7 hr lk ok hm kp hb (i_7 (Fh hN hv hd hcd) ha hs1) hk hg hdb hs1 hpl) λ σ H Q ⟨H0,G0,G,Δ,O,E,q⟩=> ?_;unfold au_8 at q
 split at q
 ·rename_i c0 ns ts lk0 e0;obtain⟨s,e1,etr⟩:=J6.mp e0;obtain⟨v0,s1,t0⟩:=E.ow i _ _ e1 (Sl.tree_own etr);cases t0 with
  |obj hc hh hl hA sub rl=>
   refine⟨_,s1,H0,G0,G,Δ,O,E, ?_⟩;cases ea:ga Δ with
   |ok ds=>
    simp only[ea]at q
    split at q
    ·rename_i zk;exact λvs G1 H1 E1 sg r=>cs_5 e1 etr s1 E1 sg r zk q
    ·exact q.elim
   |ex x=>simp only[ea]at q;exact λG1 H1 E1 sg=>q G1 H1 O E1 sg
   |no=>simp only[ea]at q;exact q.elim
 ·exact q.elim
def ah_7{i:Nat}{y m cn:Str}{F:Tn->List D->RR}{p3 zg:Pos}{pl:Sem Bool}(h:MethR X.prog X.w X.K X.mg X.base c k n m cn F)(hr:RoomC c k' X.A)(lk:Lk X EX)(ha:AM X EX (e::es) ga)(hk:k<=k':=by decide)
  (hN:X.N[i]? =some y:=by rfl) (hv:Fg X.env.scope y:=by trivial) (hd:AG y:=by decide) (hcd:(y ==("__classdict__" :Str))=false:=by decide)
  (hst:starEach (e::es) X.env=(false,eval e X.env)::starEach es X.env:=by rfl) (hpl:(backTo pos (starEach es X.env)).any (·.1)=false:=by rfl)
  (ht:eval (.Call (.Attribute (.Name y p3) m zg) (e::es) [] pos) X.env=(do
   let ov<-eval (.Name y p3) X.env
   standAt zg.atName
   let(f,first)<-holding [ov] (getMethod ov m pl)
   callWith pos f first (backTo pos (starEach (e::es) X.env)) (backToKw pos (keywordEach [] X.env))):=by rfl):EM X EX (.Call (.Attribute (.Name y p3) m zg) (e::es) [] pos) (r_7 i n m cn F ga):=by
 obtain⟨C,f,fd,ps,a1,a2,a3,a4,a5⟩:=h.ex;refine PE.imp (ca_9 (Fh hN hv hd hcd) (hr.mono hk) lk ha hst hpl ht) λ σ H Q ⟨H0,G0,G,Δ,O,E,q⟩=> ?_;unfold r_7 at q
 split at q
 ·rename_i c0 ns ts lk0 e0;obtain⟨s,e1,etr⟩:=J6.mp e0;obtain⟨v0,s1,t0⟩:=E.ow i _ _ e1 (Sl.tree_own etr)
  split at q
  ·rename_i hcn;cases t0 with
   |obj hc hh hl hA sub rl=>
    obtain⟨rfl,hnm⟩:=hcn;have:=a1.same hc;subst this;refine⟨_,s1,_,_,_,_,f,fd,ps,_,rfl,hh,bo_8 hnm,a2,a3,a4,a5,H0,G0,G,Δ,O,E, ?_⟩;cases ea:ga Δ with
    |ok ds=>
     simp only[ea]at q
     split at q
     ·rename_i zk;exact λvs G1 H1 E1 sg r=>cs_5 e1 etr s1 E1 sg r zk q
     ·exact q.elim
    |ex x=>simp only[ea]at q;exact λG1 H1 E1 sg=>q G1 H1 O E1 sg
    |no=>simp only[ea]at q;exact q.elim
  ·exact q.elim
 ·exact q.elim
end
def repF:List Str->List Tn->Str->Tn->List Tn
 |n::ns,t::ts,f,t'=>if n=f then t'::ts else t::repF ns ts f t'
 |_,ts,_,_=>ts
def repV:List Str->List V->Str->V->List V
 |n::ns,t::ts,f,t'=>if n=f then t'::ts else t::repV ns ts f t'
 |_,ts,_,_=>ts
section
variable{K:Frag}{G H:Hp}
theorem OwL.focusF(f:Str):∀{ns:List Str} {us:List V} {ts:List Tn} {S:AS} {t:Tn},OwL K G H us ts S->(ns.zip ts).lookup f=some t->
  ∃v S1,(ns.zip us).lookup f=some v/\Ow K G H v t S1/\(∀b,S1 b->S b)/\
   ∀{H':Hp} {t':Tn},(∀b o,S b->¬S1 b->H b=some o->H' b=some o)->Ow K G H' v t' S1->OwL K G H' us (repF ns ts f t') S
 | [],_,_,_,_,_,e=>by cases e
 |_::_,[],_,_,_,.nil,e=>by cases e
 |n::ns,u::us,_,S,t,.cons (S1:=S1) (S2:=S2) (t:=t0) (ts:=ts) hh r dj s1 s2,e=>by
  rw[M6,E9]at e
  by_cases q:n=f
  ·subst q;simp only[N5]at e;cases e;refine⟨u,S1,by rw[M6,E9,N5],hh,s1,λ{H' t'} g h'=> ?_⟩;unfold repF;rw[if_pos rfl];exact .cons h' (r.mono (Same.refl _) (λb o hb z=>g b o (s2 b hb) (λw=>dj b w hb) z) λ_ z=>z) dj s1 s2
  ·have hb:(f ==n)=false:=O7.mpr (Ne.symm q);simp only[hb]at e;obtain⟨v',S',e1,h',i',f'⟩:=OwL.focusF f r e;refine⟨v',S',by rw[M6,E9,hb];exact e1,h',λb z=>s2 b (i' b z),λ{H' t'} g h2=> ?_⟩;unfold repF;rw[if_neg q];exact .cons (hh.mono (Same.refl _) (λb o hb z=>g b o (s1 b hb) (λw=>dj b hb (i' b w)) z) λ_ z=>z) (f' (λb o hb nb z=>g b o (s2 b hb) nb z) h2) dj s1 s2
theorem OwL.repF{d:D}(hv:Has K G v d)(f:Str):∀{ns:List Str} {us:List V} {ts:List Tn} {S:AS},OwL K G H us ts S->OwL K G H (repV ns us f v) (L3.repF ns ts f (.sh d)) S
 | [],us,ts,S,r=>by
  have h1:repV [] us f v=us:=by cases us <;> rfl
  have h2:L3.repF [] ts f (.sh d)=ts:=by cases ts <;> rfl
  rw[h1,h2];exact r
 |_::_,_,_,_,.nil=> .nil
 |n::ns,u::us,_,S,.cons (S1:=S1) (S2:=S2) hh r dj s1 s2=>by
  unfold repV L3.repF
  by_cases q:n=f
  ·rw[if_pos q,if_pos q];exact .cons (S1:=λ_=>False) (.sh hv) r (λ_ z _=>z) (λ_ z=>z.elim) s2
  ·rw[if_neg q,if_neg q];exact .cons hh (OwL.repF hv f r) dj s1 s2
theorem bp_0(f:Str)(v:V):∀(ns:List Str) (us:List V),(repV ns us f v).length=us.length
 | [],us=>by cases us <;> rfl
 |_::_,[]=>rfl
 |n::ns,u::us=>by
  unfold repV
  split
  ·rfl
  ·rw[B4,B4,bp_0 f v ns us]
theorem bp_1{f:Str}{y:V}:∀{ns:List Str} {us:List V},ns.length=us.length->ns.contains f=true->Fk f y (ns.zip us)=ns.zip (repV ns us f y)
 | [],[],_,h=>by cases h
 | [],_::_,e,_=>by simp at e
 |_::_,[],e,_=>by simp at e
 |n::ns,u::us,e,h=>by
  show Fk f y ((n,u)::ns.zip us)=_;unfold Fk repV
  by_cases q:n=f
  ·rw[if_pos q,if_pos q];simp only[q,M6]
  ·rw[if_neg q,if_neg q,M6,bp_1 (by simpa using e)];rw[M5,T8]at h;rcases h with h|h
   ·exact absurd (M8.mp h).symm q
   ·exact h
def Ow.obj_of{c:Str}{ns:List Str}{ts:List Tn}{S:AS}(t:Ow K G H v (.obj c ns ts) S):∃a C dx us S1,v=.ref a/\ClsAt K c C/\H a=some (.ins C dx (ns.zip us))/\ns.length=us.length/\S a/\(∀b,S1 b->S b/\b≠a)/\OwL K G H us ts S1:=by
 cases t with
 |obj hc h hl ha sub r=>exact⟨_,_,_,_,_,rfl,hc,h,hl,ha,sub,r⟩
end
def bc_3(i:Nat)(cs:List Str)(f:Str)(fk fe:FE):FS:=λ Δ=>match(Δ[i]?).bind Sl.tree with
 |some (.obj c ns ts,lk)=>if cs.contains c=true then(match(ns.zip ts).lookup f with
  |some (.dic kt2)=>(match unS kt2 with
   |some kds=>(match fe (At Δ) with
    | .ok w=>(match fk (At Δ) with
     | .ok z=>(match Ee z.d with
      |some k=>if kds.length < 16777216 then .nx (Δ.set i (Sl.mk lk (.obj c ns (repF ns ts f (Tn.of (.dic (By kds k w.d))))))) else .no
      |none=> .no)
     |_=> .no)
    |_=> .no)
   |none=> .no)
  |_=> .no) else .no
 |_=> .no
def bp_2(i:Nat)(cs:List Str)(f:Str)(fk:FE):FS:=λ Δ=>match(Δ[i]?).bind Sl.tree with
 |some (.obj c ns ts,lk)=>if cs.contains c=true then(match(ns.zip ts).lookup f with
  |some (.dic kt2)=>(match unS kt2 with
   |some kds=>(match fk (At Δ) with
    | .ok z=>(match Ee z.d with
     |some k=>if(Bh kds k).isSome=true then .nx (Δ.set i (Sl.mk lk (.obj c ns (repF ns ts f (Tn.of (.dic (Dn kds k))))))) else .no
     |none=> .no)
    |_=> .no)
   |none=> .no)
  |_=> .no) else .no
 |_=> .no
def bp_3(i:Nat)(cs:List Str)(f:Str)(js:List Nat)(fe:FE):FS:=λ Δ=>match((gsome js Δ)[i]?).bind Sl.tree with
 |some (.obj c ns ts,lk)=>if cs.contains c=true/\ns.contains f=true/\ns.length < 1000 then(match fe (At (gsome js Δ)) with
  | .ok w=> .nx ((gsome js Δ).set i (Sl.mk lk (.obj c ns (repF ns ts f (.sh w.d)))))
  |_=> .no) else .no
 |_=> .no
section
variable{X:Cx}{EX:Au}{pos:Pos}{i:Nat}{cs:List Str}{f x:Str}
def de_4{e e2:Expr}{fe fk:FE}{p1 p2 zh:Pos}(hu:X.A.units + 64 < cLine)(k:OFld X.K cs f)(he:ED X EX e fe)(h2:ED X EX e2 fk)(hN:X.N[i]? =some x:=by rfl)(hv:Fg X.env.scope x:=by trivial)(hd:AG x:=by decide)
  (hcd:(x ==("__classdict__" :Str))=false:=by decide) (hb:attributeBase (.Name x p1) f X.env (eval (.Name x p1) X.env)=eval (.Name x p1) X.env:=by rfl) (hs:swapsWith e (some (.Subscript (.Attribute (.Name x p1) f p2) e2 zh)) pos.line X.env=pure false:=by rfl):
  SD X EX (.Assign [.Subscript (.Attribute (.Name x p1) f p2) e2 zh] e pos) (bc_3 i cs f fk fe):=
 PS.imp (bf_5 () (bt_3 (Fh hN hv hd hcd) hb) h2 he hs) λD σ H ⟨H0,G0,G,Δ,O,E,q⟩=>by
  unfold bc_3 at q
  split at q
  ·rename_i c ns ts lk e0;obtain⟨s,e1,etr⟩:=J6.mp e0
   split at q
   ·rename_i hcs
    split at q
    ·rename_i kt2 ef
     split at q
     ·rename_i kds eu;refine⟨G,At Δ,E.st.gh,E.gsh, ?_⟩;cases e2:fe (At Δ) with
      |ex x=>simp only[e2]at q;exact q.elim
      |no=>simp only[e2]at q;exact q.elim
      |ok w=>
       simp only[e2]at q;refine WP.intro λv G1 H1 st r=> ?_;have E1:=E.grow st;obtain⟨v0,s1,t⟩:=E1.ow i _ _ e1 (Sl.tree_own etr);obtain⟨a,C,dx,us,S1,rfl,hC,hH,hl,ha,sub,rl⟩:=t.obj_of;obtain⟨kc,kn⟩:=k _ hcs _ hC;obtain⟨vd,Sd,ed,td,idd,fc⟩:=OwL.focusF f (ns:=ns) rl ef;refine⟨_,s1,a,C,dx,_,vd,rfl,hH,kc,kn,ed, ?_⟩;refine⟨G1,At Δ,E1.st.gh,E1.gsh, ?_⟩;cases e3:fk (At Δ) with
       |ex x=>simp only[e3]at q;exact q.elim
       |no=>simp only[e3]at q;exact q.elim
       |ok z=>
        simp only[e3]at q;refine WP.intro λv2 G2 H2 st2 r2=> ?_
        split at q
        ·rename_i k0 ek
         split at q
         ·rename_i zk;have hv2:=t_2 r2 ek;subst hv2;rw[aa_3 eu]at td;obtain⟨c1,kvc,rfl,mc,hHc,hkc,rlc⟩:=Ow.dict_of (kds:=kds) td;have E2:=E1.grow st2;have hle:kvc.length=kds.length:=by
           have:=K4 List.length hkc
           rwa[A3,A3]at this
          obtain⟨p1,p2⟩:=bg_1 k0 hkc rlc r;have hca:c1≠a:=(sub c1 (idd c1 mc)).2;refine⟨c1,_,rfl,DPut.k (st2.hh _ _ hHc) (by rw[hle,D6];exact zk),q σ G2 _ _ (E2.writeIn e1 etr s1 (sub c1 (idd c1 mc)).1 ?_) (st.gg.trans st2.gg)⟩;refine Ow.obj (S1:=S1) hC (by rw[Aq (Ne.symm hca)];exact st2.hh _ _ hH) hl ha sub ?_;refine OwL.mono st2.gg (fc (λb o hb nb z=> ?_) (Ow.dict Bj p1 mc p2)) (λ_ _ _ z=>z) λ_ z=>z;rw[Aq (show b≠c1 from λw=>nb (by rw[w];exact mc))];exact st2.hh _ _ z
         ·exact q.elim
        ·exact q.elim
     ·exact q.elim
    ·exact q.elim
   ·exact q.elim
  ·exact q.elim
def de_5{e2:Expr}{fk:FE}{p1 p2 zg zf:Pos}(k:OFld X.K cs f)(h2:ED X EX e2 fk)(hN:X.N[i]? =some x:=by rfl)(hv:Fg X.env.scope x:=by trivial)(hd:AG x:=by decide)
  (hcd:(x ==("__classdict__" :Str))=false:=by decide) (hb:attributeBase (.Name x p1) f X.env (eval (.Name x p1) X.env)=eval (.Name x p1) X.env:=by rfl) (hm:M1 X (.Attribute (.Name x p1) f p2) "pop" zg e2 zf:=by exact⟨rfl,rfl,rfl,rfl⟩)
  (hs:swapsWith (.Call (.Attribute (.Attribute (.Name x p1) f p2) "pop" zg) [e2] [] zf) none pos.line X.env=pure false:=by rfl):
  SD X EX (.Expr (.Call (.Attribute (.Attribute (.Name x p1) f p2) "pop" zg) [e2] [] zf) pos) (bp_2 i cs f fk):=
 PS.imp (ac_1 (bl_0 (bt_3 (Fh hN hv hd hcd) hb) h2 hm) hs) λD σ H ⟨H0,G0,G,Δ,O,E,q⟩=>by
  unfold bp_2 at q
  split at q
  ·rename_i c ns ts lk e0;obtain⟨s,e1,etr⟩:=J6.mp e0
   split at q
   ·rename_i hcs
    split at q
    ·rename_i kt2 ef
     split at q
     ·rename_i kds eu;obtain⟨v0,s1,t⟩:=E.ow i _ _ e1 (Sl.tree_own etr);obtain⟨a,C,dx,us,S1,rfl,hC,hH,hl,ha,sub,rl⟩:=t.obj_of;obtain⟨kc,kn⟩:=k _ hcs _ hC;obtain⟨vd,Sd,ed,td,idd,fc⟩:=OwL.focusF f (ns:=ns) rl ef;rw[aa_3 eu]at td;obtain⟨c1,kvc,rfl,mc,hHc,hkc,rlc⟩:=Ow.dict_of (kds:=kds) td;refine⟨_,s1,a,C,dx,_,_,rfl,hH,kc,kn,ed,c1,rfl,.inl ⟨kvc,.inl hHc⟩, ?_⟩;refine⟨G,At Δ,E.st.gh,E.gsh, ?_⟩;cases e3:fk (At Δ) with
      |ex x=>simp only[e3]at q;exact q.elim
      |no=>simp only[e3]at q;exact q.elim
      |ok z=>
       simp only[e3]at q;refine WP.intro λv2 G2 H2 st2 r2=> ?_
       split at q
       ·rename_i k0 ek
        split at q
        ·rename_i hin;have hv2:=t_2 r2 ek;subst hv2;have E2:=E.grow st2;obtain⟨d0,ed0⟩:=L8.mp hin;obtain⟨vv,ev,_⟩:=(x_8 k0 hkc rlc).2 d0 ed0;obtain⟨p1,p2⟩:=at_9 k0 hkc rlc;have hca:c1≠a:=(sub c1 (idd c1 mc)).2;refine⟨kvc,k0,vv,st2.hh _ _ hHc,rfl,ev,q σ G2 _ _ (E2.writeIn e1 etr s1 (sub c1 (idd c1 mc)).1 ?_) st2.gg⟩;refine Ow.obj (S1:=S1) hC (by rw[Aq (Ne.symm hca)];exact st2.hh _ _ hH) hl ha sub ?_;refine OwL.mono st2.gg (fc (λb o hb nb z=> ?_) (Ow.dict Bj p1 mc p2)) (λ_ _ _ z=>z) λ_ z=>z;rw[Aq (show b≠c1 from λw=>nb (by rw[w];exact mc))];exact st2.hh _ _ z
        ·exact q.elim
       ·exact q.elim
     ·exact q.elim
    ·exact q.elim
   ·exact q.elim
  ·exact q.elim
def de_6(js:List Nat){e:Expr}{fe:FE}{p1 p2:Pos}(k:OFld X.K cs f)(he:ED X EX e fe)(hN:X.N[i]? =some x:=by rfl)(hv:Fg X.env.scope x:=by trivial)(hd:AG x:=by decide)
  (hcd:(x ==("__classdict__" :Str))=false:=by decide) (hs:swapsWith e (some (.Attribute (.Name x p1) f p2)) pos.line X.env=pure false:=by rfl):SD X EX (.Assign [.Attribute (.Name x p1) f p2] e pos) (bp_3 i cs f js fe):=
 PS.imp (bt_4 (Fh hN hv hd hcd) he hs) λD σ H ⟨H0,G0,G,Δ,O,E,q⟩=>by
  obtain⟨G1,O1,sg,E1⟩:=E.gsome js;unfold bp_3 at q;generalize gsome js Δ=Δ1 at q E1
  split at q
  ·rename_i c ns ts lk e0;obtain⟨s,e1,etr⟩:=J6.mp e0
   split at q
   ·rename_i hc;obtain⟨hc1,hc2,hc3⟩:=hc;refine⟨G1,At Δ1,E1.st.gh,E1.gsh, ?_⟩;cases e2:fe (At Δ1) with
    |ex y=>simp only[e2]at q;exact q.elim
    |no=>simp only[e2]at q;exact q.elim
    |ok w=>
     simp only[e2]at q;refine WP.intro λv G2 H2 st r=> ?_;have E2:=E1.grow st;obtain⟨v0,s1,t⟩:=E2.ow i _ _ e1 (Sl.tree_own etr);obtain⟨a,C,dx,us,S1,rfl,hC,hH,hl,ha,sub,rl⟩:=t.obj_of;obtain⟨kc,kn⟩:=k _ hc1 _ hC;refine⟨_,s1,a,C,dx,_,rfl,hH,kc,kn,by rw[W7,<-hl,ZB0];exact hc3, ?_⟩;rw[bp_1 hl hc2];refine q σ G2 _ _ (E2.writeIn e1 etr s1 ha ?_) (sg.trans st.gg);refine .obj (S1:=S1) hC Bj (by rw[bp_0];exact hl) ha sub ?_;refine OwL.mono (Same.refl _) (OwL.repF r f rl) (λb o hb z=> ?_) λ_ z=>z;rw[Aq (sub b hb).2];exact z
   ·exact q.elim
  ·exact q.elim
end
def Ew(n:Nat)(c:Str)(g:FS)(ds:List D):R (List Str×List Tn):=match g (au_1 n c ds) with
 | .nx (.lt (.obj c' ns ts)::_)=>if c'=c then .ok (ns,ts) else .no
 | .ex x _=> .ex x
 |_=> .no
def spJ(K:Frag)(C:Addr)(cn:Str)(n:Nat)(F:List D->R (List Str×List Tn)):Sp:=λvs H Q E=>∃x dx vs0 Hq G ds,vs=.ref x::vs0/\vs0.length=n/\Hq x=none/\Same Hq H/\H x=some (.ins C dx [])/\Same G Hq/\HasL K G vs0 ds/\
 (match F ds with
 | .ok p=>∀G' H' S,Step G Hq G' H'->(∀a,S a->Hq a=none/\G' a=none/\H' a≠none)->Ow K G' H' (.ref x) (.obj cn p.1 p.2) S->Q .non H'
 | .ex e=>(EXof K E).p e G Hq
 | .no=>False)
def fn_J{c:Bool}{P:Program}{w:World}{x qual cn:Str}{st:Stmt}{f C:Addr}{N ps:List Str}{k n:Nat}{g:FS}(F:Fun K x qual st f fd)(S:FnScope N ps (Cc st))(hC:ClsAt K cn C)(hn:ps.length=n + 1)(hle:ps.length<=N.length)
  (zj:∀(zp:Value) (A:Around) (outer:List Env) (s:Shared) (H:Hp) (E:XK),RoomC c k (A.deeper (envOfC qual (Cc st) s.heap.objs.size f zp))->
   BD (Gc c P w K mg base N qual (Cc st) f zp A outer s H E) (λ_=>EXof K E) (Ey st) g):FnX P w K mg base c (k + 1) f fd ps (spJ K C cn n (Ew N.length cn g)):=by
 refine Fun.okX F S (λvs H Q E h=> ?_) λzp A outer s H vs Q E hr h=>⟨_,zj zp A outer s H E hr, ?_⟩
 ·obtain⟨x,dx,vs0,Hq,G,ds,rfl,hl,_⟩:=h;rw[B4,hl,hn]
 obtain⟨x,dx,vs0,Hq,G,ds,rfl,hl,n1,i0,hx,g0,r,q⟩:=h;have E0:=al_4 (N:=N) (b:=λ_=>x) (v0:=.ref x) (g0.trans i0) i0 r (by rw[hl];omega);have hs:(L2.start N (.ref x::vs0))[0]? =some (some (.ref x)):=rfl;have E1:=E0.putO (i:=0) (z:=.lt (.obj cn [] [])) (v:=.ref x) (S:=λb=>b=x) (λa ha=>by subst ha;exact⟨n1,g0.free n1,by rw[hx];simp⟩) rfl (λ_ z=>by cases z) (.obj (S1:=λ_=>False) hC (us:=[]) hx rfl rfl (λ_ z=>z.elim) .nil) (λj a ha=>ha.elim) (λ_ _=>rfl);rw[t_0 hs]at E1;refine⟨⟨Hq,λ_=>x⟩,G,G,_,_,E1, ?_⟩;have e2:(Sl.no::(ds.map Sl.sh ++ List.replicate (N.length - (ds.length + 1)) .no)).set 0 (.lt (.obj cn [] []))=au_1 N.length cn ds:=rfl;rw[e2];have nxt:∀{Δ:SE},g (au_1 N.length cn ds)=.nx Δ->Fin K (λ_=>EXof K E) ⟨Hq,λ_=>x⟩ G G {nx:=λ_ H'=>Q .non H',rt:=Q} (.nx Δ):=λ{Δ} e=>by
  unfold Ew at q;rw[e]at q;cases Δ with
  |nil=>exact q.elim
  |cons s Δ=>
   cases s with
   |lt t=>
    cases t with
    |obj c' ns ts=>
     simp only at q
     by_cases hcc:c'=cn
     ·subst hcc;rw[if_pos rfl]at q;intro σ G' H' O E' _;obtain⟨v,s1,t3⟩:=E'.ow 0 _ _ rfl rfl;have s2:=E'.lt 0 _ rfl;rw[s1]at s2;cases s2;exact q G' H' (O 0) E'.st (λa ha=>⟨(E'.out 0 a ha).2.1,(E'.out 0 a ha).1,(E'.out 0 a ha).2.2⟩) t3
     ·rw[if_neg hcc]at q;exact q.elim
    |_=>exact q.elim
   |_=>exact q.elim
 cases e:g (au_1 N.length cn ds) with
 |nx Δ=>exact nxt e
 |ex x Δ=>unfold Ew at q;rw[e]at q;exact λ σ G' H' O E' _=>(EXof K E).mono _ _ _ _ _ E'.st q
 |rt w=>unfold Ew at q;rw[e]at q;exact q.elim
 |rv d Δ=>unfold Ew at q;rw[e]at q;exact q.elim
 |bk Δ=>unfold Ew at q;rw[e]at q;exact q.elim
 |ct Δ=>unfold Ew at q;rw[e]at q;exact q.elim
 |no=>unfold Ew at q;rw[e]at q;exact q.elim
def bp_4(i:Nat)(cs:List Str)(f:Str)(fe:FE):FS:=λ Δ=>match Δ[i]? with
 |some (.lt (.obj c ns ts))=>if cs.contains c=true/\ns.contains f=false/\ns.length < 1000 then(match fe (At Δ) with
  | .ok (.ow d)=> .nx (Δ.set i (.lt (.obj c (ns ++ [f]) (ts ++ [Tn.of d]))))
  |_=> .no) else .no
 |_=> .no
def MakJ(P:Program)(w:World)(K:Frag)(mg:AB)(base:Heap)(cc:Bool)(c:Str)(k n:Nat)(F:List D->R (List Str×List Tn)):Prop:=
 ∃C f fd ps,ClsAt K c C/\mg c=some (.ref C)/\Mk K C f/\FnX P w K mg base cc k f fd ps (spJ K C c n F)/\Binds K fd ps []
def cs_7(c:Str)(n:Nat)(F:List D->R (List Str×List Tn))(fa:FA):FE:=λ δ=>(fa δ).bind λds=>if ds.length=n then(F ds).bind λp=> .ok (.tr (.obj c p.1 p.2)) else .no
section
variable{X:Cx}{EX:Au}{e:Expr}{es:List Expr}{x:Str}{pp pos:Pos}{cc:Bool}{k k' n:Nat}
def de_8{i:Nat}{cs:List Str}{f x:Str}{e:Expr}{fe:FE}{p1 p2:Pos}(k:OFld X.K cs f)(he:ED X EX e fe)(hN:X.N[i]? =some x:=by rfl)(hv:Fg X.env.scope x:=by trivial)(hd:AG x:=by decide)
  (hcd:(x ==("__classdict__" :Str))=false:=by decide) (hs:swapsWith e (some (.Attribute (.Name x p1) f p2)) pos.line X.env=pure false:=by rfl):SD X EX (.Assign [.Attribute (.Name x p1) f p2] e pos) (bp_4 i cs f fe):=
 PS.imp (bt_4 (Fh hN hv hd hcd) he hs) λD σ H ⟨H0,G0,G,Δ,O,E,q⟩=>by
  unfold bp_4 at q
  split at q
  ·rename_i c ns ts e1
   split at q
   ·rename_i hc;obtain⟨hc1,hc2,hc3⟩:=hc;refine⟨G,At Δ,E.st.gh,E.gsh, ?_⟩;cases e2:fe (At Δ) with
    |ex y=>simp only[e2]at q;exact q.elim
    |no=>simp only[e2]at q;exact q.elim
    |ok w=>
     simp only[e2]at q;cases w with
     |sh d=>exact q.elim
     |tr t=>exact q.elim
     |ow d=>
      intro v S2 G2 H2 st fr tw;have E2:=E.grow st;obtain⟨v0,s1,t⟩:=E2.ow i _ _ e1 rfl;obtain⟨a,C,dx,us,S1,rfl,hC,hH,hl,ha,sub,rl⟩:=t.obj_of;have s2:=E2.lt i _ e1;obtain⟨kc,kn⟩:=k _ hc1 _ hC;refine⟨_,s1,a,C,dx,_,rfl,hH,kc,kn,by rw[W7,<-hl,ZB0];exact hc3, ?_⟩;rw[au_2 hl hc2];have hna:∀b,S2 b->b≠a:=λb hb z=>(E.out i a ha).2.2 (by rw[<-z];exact(fr b hb).1);have nO:∀b,S2 b->∀j,¬O j b:=λb hb j hj=>(E.out j b hj).2.2 (fr b hb).1;have np:∀b,b≠a->upd H2 a (.ins C dx ((ns ++ [f]).zip (us ++ [v]))) b=H2 b:=λb hb=>Aq hb;have al:∀b,H2 b≠none->upd H2 a (.ins C dx ((ns ++ [f]).zip (us ++ [v]))) b≠none:=λb hb=>by
       by_cases z:b=a
       ·subst z;rw[Bj];simp
       ·rw[np b z];exact hb
      have gh:Same G2 (upd H2 a (.ins C dx ((ns ++ [f]).zip (us ++ [v])))):=λb o z=>by
       have nb:b≠a:=λw=>by rw[w,(E2.out i a ha).1]at z;cases z
       rw[np b nb];exact st.gh b o z
      have s0:σ[i]? =some (some (.ref a)):=s1;refine q σ G2 _ _ (E.step2 (S:=λb=>O i b\/S2 b) (z:=.lt _) rfl (λ_ z=>by cases z) (λ_ _=>by rw[s1]at s2⊢;exact s2) ⟨λb o nb z=>by rw[np b λw=>nb (by rw[w];exact ha)];exact st.hh b o z,gh,st.gg,λb _ z1 z2=>st.nw b z1 z2⟩ s0 (λb hb=> ?_) ?_) st.gg
      ·rcases hb with hb|hb
       ·exact⟨.inl hb,(E2.out i b hb).1,al b (E2.out i b hb).2.2⟩
       ·exact⟨.inr (fr b hb).1,(fr b hb).2.1,al b (fr b hb).2.2⟩
      ·refine .obj (S1:=λb=>S1 b\/S2 b) hC Bj (by rw[B8,B8,hl];rfl) (.inl ha) (λb hb=> ?_) ?_
       ·rcases hb with hb|hb
        ·exact⟨.inl (sub b hb).1,(sub b hb).2⟩
        ·exact⟨.inr hb,hna b hb⟩
       ·refine OwL.append (S1:=S1) (S2:=S2) (rl.mono (Same.refl _) (λb o hb z=>by rw[np b (sub b hb).2];exact z) λ_ z=>z) (.cons (S1:=S2) (S2:=λ_=>False) (tw.mono (Same.refl _) (λb o hb z=>by rw[np b (hna b hb)];exact z) λ_ z=>z) .nil (λ_ _ z=>z) (λ_ z=>z) λ_ z=>z.elim) (λb z1 z2=>nO b z2 i (sub b z1).1) (λ_ z=> .inl z) λ_ z=> .inr z
   ·exact q.elim
  ·exact q.elim
def de_9{F:List D->R (List Str×List Tn)}{fa:FA}(hr:RoomC cc k' X.A)(lk:Lk X EX)(h:MakJ X.prog X.w X.K X.mg X.base cc x k n F)(ha:AD X EX (e::es) fa)(hk:k + 1<=k':=by decide)(hg:Gl X x:=by rfl)(hdb:AG x:=by decide)
  (he:starEach (e::es) X.env=(false,eval e X.env)::starEach es X.env:=by rfl) (hpl:(backTo pos (starEach es X.env)).any (·.1)=false:=by rfl):ED X EX (.Call (.Name x pp) (e::es) [] pos) (cs_7 x n F fa):=by
 obtain⟨C,f,fd,ps,hC,hm,M,ok,hb⟩:=h;intro zd s σ H Q I q;obtain⟨G,δ,g0,s0,o⟩:=q;refine M4 (r_9 I hg hm ?_ hdb);have ta:tDa X.K EX fa σ H λvs H1=>∃G1 ds,Same G1 H1/\HasL X.K G1 vs ds/\ds.length=n/\Out X.K (EX σ) G1 H1 ((F ds).bind λp=> .ok (.tr (.obj x p.1 p.2))) Q:=by
  refine tDa.seq g0 s0 o λds vs G' H' _ st r o'=> ?_
  split at o'
  ·rename_i hl;exact⟨G',ds,st.gh,r,hl,o'⟩
  ·exact o'.elim
 refine X8 (h₀:=X.base) I.ok.mod.kin M.kp (Ay (ha pos zd s σ H _ I ta) λus s1 ⟨vs,H1,I1,r,G1,ds,sg,rl,hl,o'⟩=>⟨I1.kIn, ?_⟩) he hpl;refine ch_9 M ok (hr.mono hk) hb lk I1 r λy dy ny ndy ne=> ?_;refine⟨y,dy,vs,H1,G1,ds,rfl,by rw[rl.length];exact hl,ny,(λb o e=>by rw[Aq (Ej e ny),Aq (Ej e ndy)];exact e),Bj,sg,rl, ?_⟩;cases ef:F ds with
 |ok p=>
  rw[ef]at o';intro G' H' S st fr tw;exact⟨rfl,o' (.ref y) S G' H' st fr tw⟩
 |ex z=>rw[ef]at o';exact EXof.in o'
 |no=>rw[ef]at o';exact o'
end
def z_1(js:List Nat)(f:FE):SE->FM:=λ Δ=>match f (At (gsome js Δ)) with
 | .ok w=> .ok w.d (gsome js Δ)
 | .ex x=> .ex x (gsome js Δ)
 | .no=> .no
def k_3(js:List Nat)(g:SE->FM):SE->FM:=λ Δ=>g (gsome js Δ)
def Bw(f:FE)(ga:SE->R (List D)):SE->R (List D):=λ Δ=>match f (At Δ) with
 | .ok w=>(match ga Δ with
  | .ok ds=> .ok (w.d::ds)
  | .ex x=> .ex x
  | .no=> .no)
 | .ex x=> .ex x
 | .no=> .no
def bp_5(fg:FG)(g:SE->FM):FS:=λ Δ=>match g Δ with
 | .ok d Δ1=>(match fg d Δ1 with
  | .ok Δ2=> .nx Δ2
  |_=> .no)
 | .ex x Δ1=> .ex x Δ1
 | .no=> .no
def bp_6(g:SE->FM)(fg:FG)(gb:FS):FS:=λ Δ=>match g Δ with
 | .ok d Δ1=>(match cp_5 d with
  | .ok ds=>De fg gb ds Δ1
  |_=> .no)
 | .ex x Δ1=> .ex x Δ1
 | .no=> .no
def cc_1(i:Nat)(fk:FE):FS:=λ Δ=>match Δ[i]? with
 |some (.ow (.dic kds))=>(match fk (At Δ) with
  | .ok z=>(match Ee z.d with
   |some k=>if(Bh kds k).isSome=true then .nx (Δ.set i (.ow (.dic (Dn kds k)))) else .no
   |none=> .no)
  |_=> .no)
 |_=> .no
section
variable{X:Cx}{EX:Au}{e:Expr}{es:List Expr}{f:FE}{g:SE->FM}{ga:SE->R (List D)}{pos:Pos}
def ah_8(js:List Nat)(he:ED X EX e f):EM X EX e (z_1 js f):=PE.imp he λ σ H Q ⟨H0,G0,G,Δ,O,E,q⟩=>by
 obtain⟨G1,O1,sg,E1⟩:=E.gsome js;unfold z_1 at q;refine⟨G1,At (gsome js Δ),E1.st.gh,E1.gsh, ?_⟩;cases e1:f (At (gsome js Δ)) with
 |ok w=>simp only[e1]at q;exact WP.intro λv G' H' st r=>q v G' H' O1 (E1.grow st) (sg.trans st.gg) r
 |ex x=>simp only[e1]at q;exact q G1 H O1 E1 sg
 |no=>simp only[e1]at q;exact q.elim
def t_6(js:List Nat)(he:EM X EX e g):EM X EX e (k_3 js g):=PE.imp he λ σ H Q ⟨H0,G0,G,Δ,O,E,q⟩=>by
 obtain⟨G1,O1,sg,E1⟩:=E.gsome js;exact⟨H0,G0,G1,gsome js Δ,O1,E1,OutM.mono sg q⟩
def f_4(ha:ED X EX e f)(hr:AM X EX es ga)(hs:starEach (e::es) X.env=(false,eval e X.env)::starEach es X.env:=by rfl):AM X EX (e::es) (Bw f ga):=
 PA.imp (i_7 ha hr hs) λ σ H Q ⟨H0,G0,G,Δ,O,E,q⟩=>by
  unfold Bw at q;refine⟨G,At Δ,E.st.gh,E.gsh, ?_⟩;cases e1:f (At Δ) with
  |ok w=>
   simp only[e1]at q;refine WP.intro λv G1 H1 st r=>⟨H0,G0,G1,Δ,O,E.grow st, ?_⟩;cases e2:ga Δ with
   |ok ds=>simp only[e2]at q;exact λvs G2 H2 E2 s2 r2=>q (v::vs) G2 H2 E2 (st.gg.trans s2) (.cons (r.mono s2) r2)
   |ex x=>simp only[e2]at q;exact λG2 H2 E2 s2=>q G2 H2 E2 (st.gg.trans s2)
   |no=>simp only[e2]at q
  |ex x=>simp only[e1]at q;exact q G H E (Same.refl _)
  |no=>simp only[e1]at q
def df_0{fg:FG}{tg:Expr}(he:EM X EX e g)(hg:GD X EX tg fg)(hs:swapsWithSole [tg] e pos.line X.env=pure false:=by rfl)(hw:swappedStores [tg] e X.env=pure none:=by rfl)
  (h1:(assignEach [tg] X.env).map (·.2)= [assign tg X.env]:=by rfl):SD X EX (.Assign [tg] e pos) (bp_5 fg g):=
 PS.imp (cl_5 he hg hs hw h1) λD σ H ⟨H0,G0,G,Δ,O,E,q⟩=>by
  refine⟨H0,G0,G,Δ,O,E, ?_⟩;unfold bp_5 at q;cases e1:g Δ with
  |ok d Δ1=>
   simp only[e1]at q;intro v G1 H1 O1 E1 s1 r1;refine⟨H0,G0,G1,Δ1,O1,d,E1,r1, ?_⟩;cases e2:fg d Δ1 with
   |ok Δ2=>simp only[e2]at q;exact λ σ' G2 H2 O2 E2 s2=>q σ' G2 H2 O2 E2 (s1.trans s2)
   |ex x=>simp only[e2]at q;exact q.elim
   |no=>simp only[e2]at q;exact q.elim
  |ex x Δ1=>simp only[e1]at q;exact λG1 H1 O1 E1 s1=>q σ G1 H1 O1 E1 s1
  |no=>simp only[e1]at q;exact q.elim
def df_1{elts:List Expr}{x1:Nat}{tp p p2:Pos}{a:Expr}{body:List Stmt}{fg:FG}{gb:FS}(hp:PassesOwn (model X.prog X.w) X.A X.env X.xe)(hc:X.calm=true)(hm:X.mg "enumerate" =none)(he:EM X EX a g)(hg:GD X EX (.Tuple elts x1 tp) fg)(hb:BD X EX body gb)
  (hgl:Gl X "enumerate" :=by rfl) (hst:starEach [a] X.env= [(false,eval a X.env)]:=by rfl) (hs1:starEach [a] X.env=(false,eval a X.env)::starEach [] X.env:=by rfl) (hs:∀x,foldedSetIterable (.Call (.Name "enumerate" p) [a] [] p2) X.env x=pure x:=by intro _;rfl):
  SD X EX (.For (.Tuple elts x1 tp) (.Call (.Name "enumerate" p) [a] [] p2) body [] pos) (bp_6 g fg gb):=
 PS.imp (cl_8 hp hc (ca_2 hgl hm (i_7 he r_0 hs1) hst) hg hb hs) λD σ H ⟨H0,G0,G,Δ,O,E,q⟩=>by
  refine⟨H0,G0,G,Δ,O,E, ?_⟩;unfold bp_6 at q;cases e1:g Δ with
  |ok d Δ1=>
   simp only[e1]at q;intro v G1 H1 O1 E1 s1 r1;cases d with
   |lst ds=>
    cases r1 with
    |lst h r=>exact .inl ⟨_,rfl,⟨_,E1.st.gh.seq h⟩,ac_6 E1 (ca_3 h r) (Fin.mono s1 q)⟩
   |str z=>
    cases r1;exact .inr ⟨z,rfl,ac_6 E1 (ca_4 z) (Fin.mono s1 q)⟩
   |_=>exact q.elim
  |ex x Δ1=>simp only[e1]at q;exact λG1 H1 O1 E1 s1=>q σ G1 H1 O1 E1 s1
  |no=>simp only[e1]at q;exact q.elim
def df_2{i:Nat}{x:Str}{e2:Expr}{fk:FE}{p1 zg zf:Pos}(h2:ED X EX e2 fk)(hN:X.N[i]? =some x:=by rfl)(hv:Fg X.env.scope x:=by trivial)(hd:AG x:=by decide)
  (hcd:(x ==("__classdict__" :Str))=false:=by decide) (hm:M1 X (.Name x p1) "pop" zg e2 zf:=by exact⟨rfl,rfl,rfl,rfl⟩)
  (hs:swapsWith (.Call (.Attribute (.Name x p1) "pop" zg) [e2] [] zf) none pos.line X.env=pure false:=by rfl):
  SD X EX (.Expr (.Call (.Attribute (.Name x p1) "pop" zg) [e2] [] zf) pos) (cc_1 i fk):=
 PS.imp (ac_1 (bl_0 (Fh hN hv hd hcd) h2 hm) hs) λD σ H ⟨H0,G0,G,Δ,O,E,q⟩=>by
  unfold cc_1 at q
  split at q
  ·rename_i kds e1;obtain⟨v0,s1,t⟩:=E.ow i _ _ e1 rfl;obtain⟨c1,kvc,rfl,mc,hHc,hkc,rlc⟩:=Ow.dict_of t;refine⟨_,s1,c1,rfl,.inl ⟨kvc,.inl hHc⟩, ?_⟩;refine⟨G,At Δ,E.st.gh,E.gsh, ?_⟩;cases e3:fk (At Δ) with
   |ex x=>simp only[e3]at q;exact q.elim
   |no=>simp only[e3]at q;exact q.elim
   |ok z=>
    simp only[e3]at q;refine WP.intro λv2 G2 H2 st2 r2=> ?_
    split at q
    ·rename_i k0 ek
     split at q
     ·rename_i hin;have hv2:=t_2 r2 ek;subst hv2;have E2:=E.grow st2;obtain⟨d0,ed0⟩:=L8.mp hin;obtain⟨vv,ev,_⟩:=(x_8 k0 hkc rlc).2 d0 ed0;obtain⟨p1,p2⟩:=at_9 k0 hkc rlc;exact⟨kvc,k0,vv,st2.hh _ _ hHc,rfl,ev,q σ G2 _ _ (E2.writeD s1 mc p1 (p2.mono st2.gg)) st2.gg⟩
     ·exact q.elim
    ·exact q.elim
  ·exact q.elim
end
def bp_7{c:Bool}{P:Program}{w:World}{x qual:Str}{st:Stmt}{f:Addr}{N ps:List Str}{k n:Nat}{g:FS}(F:Fun K x qual st f fd)(hn:ps.length=n + 1)(hle:ps.length<=N.length)
  (zj:HBd c P w K mg base N qual st f k g) (S:FnScope N ps (Cc st):=by exact⟨rfl,rfl,rfl,by decide +kernel,rfl,by decide +kernel,by decide +kernel⟩):FnX P w K mg base c (k + 1) f fd ps (spR K n (w_6 N.length g)):=
 fn_R F S hn hle λzp A outer s H E hr=>zj rfl hr (RoomC.units hr) S.nd bf_8
def dv_3{c:Bool}{P:Program}{w:World}{x qual cn:Str}{st:Stmt}{f C:Addr}{N ps:List Str}{k n:Nat}{g:FS}(F:Fun K x qual st f fd)(hC:ClsAt K cn C)(hn:ps.length=n + 1)(hle:ps.length<=N.length)
  (zj:HBd c P w K mg base N qual st f k g) (S:FnScope N ps (Cc st):=by exact⟨rfl,rfl,rfl,by decide +kernel,rfl,by decide +kernel,by decide +kernel⟩):FnX P w K mg base c (k + 1) f fd ps (spJ K C cn n (Ew N.length cn g)):=
 fn_J F S hC hn hle λzp A outer s H E hr=>zj rfl hr (RoomC.units hr) S.nd bf_8
section
variable{P:Program}{w:World}{K:Frag}{mg:AB}{base:Heap}{cc:Bool}{k n:Nat}{ps:List Str}{st:Stmt}{Fn:Tn->List D->RR}{m q c:Str}{C:Addr}
def cc_2(xa:ClsAt K c C)(cl:Cls K C)(W:FnMet K C m q st)(ok:∀{f:Addr} {fd:FuncData},Fun K m q st f fd->FnX P w K mg base cc k f fd ps (spR K n Fn)/\Binds K fd ps []):MethR P w K mg base cc k n m c Fn:=by
 obtain⟨f,a,⟨fd,F⟩,kp,i⟩:=W;exact⟨⟨C,f,fd,ps,xa,cl,⟨a,i,kp⟩,(ok F).1,(ok F).2⟩⟩
def df_3{x:Str}{h:Heap}(X:K.In h)(G:h.Ns mainGlobals mg)(W:FnTop K x st)(ok:∀{f:Addr} {fd:FuncData},Fun K x x st f fd->FnX P w K mg base cc k f fd ps (spR K n Fn)/\Binds K fd ps []):FnRd P w K mg base cc x k n ps Fn:=by
 obtain⟨f,a,fd,F⟩:=W;exact dp_6 F (mg_of X G a) (ok F).2 (ok F).1
def dp_7{Fi:List D->R (List Str×List Tn)}(xa:ClsAt K c C)(gx:mg c=some (.ref C))(ms:makesIn K C=true)(kc:keepIn K (.ref C)=true)(W:FnMet K C "__init__" q st)(ok:∀{f:Addr} {fd:FuncData},Fun K "__init__" q st f fd->FnX P w K mg base cc k f fd ps (spJ K C c n Fi)/\Binds K fd ps []):MakJ P w K mg base cc c k n Fi:=by
 obtain⟨f,a,⟨fd,F⟩,kp,i⟩:=W;exact⟨C,f,fd,ps,xa,gx,⟨ms,a,i,kc⟩,(ok F).1,(ok F).2⟩
end
def df_4{Δ:SE}{i:Nat}{s:Sl}{t t':Tn}{lk:Bool}(e:Δ[i]? =some s)(q:s.tree=some (t,lk)):At (Δ.set i (Sl.mk lk t'))=At Δ:=by
 unfold At;rw[List.map_set];apply U7;intro j
 by_cases h:i=j
 ·subst h;have hlt:i < Δ.length:=(B6.mp e).1;rw[F4 (by rw[A3];exact hlt),A9,e];cases lk <;> cases s <;> first|rfl|cases q
 ·rw[C1 h]
def sSdb(i:Nat)(f1 f2:FE):FS:=λ Δ=>match(Δ[i]?).bind Sl.tree with
 |some (.dic zm,lk)=>(match f1 (Ba Δ) with
   | .ok z1=>(match Ee z1.d with
    |some k1=>if zm.length < 16777216 then(match Bh (sdK zm k1) k1 with
     |some (.lst ts)=>if ts.length < 16777216 then(match f2 (At Δ) with
      | .ok z2=> .nx (Δ.set i (Sl.mk lk (.dic (Dc (sdK zm k1) k1 (.lst (ts ++ [.sh z2.d]))))))
      |_=> .no) else .no
     |_=> .no) else .no
    |none=> .no)
   |_=> .no)
 |_=> .no
section
variable{X:Cx}{EX:Au}{pos:Pos}
def cc_3{H0:HB}{G0 G H:Hp}{σ:Sg}{Δ:SE}{O:OS}{D:Ends}{i:Nat}{s:Sl}{zm:List (Ae×Tn)}{lk:Bool}{k:Ae}{ts:List Tn}{f2:FE}{z2:W}(E:Ev K H0 G0 G H σ Δ O)(e1:Δ[i]? =some s)(etr:s.tree=some (.dic zm,lk))(ev:Bh zm k=some (.lst ts))(hz:ts.length < 16777216)(ef:f2 (At Δ)=.ok z2)
  (q:∀σ' G' H' O',Ev K H0 G0 G' H' σ' (Δ.set i (Sl.mk lk (.dic (Dc zm k (.lst (ts ++ [.sh z2.d])))))) O'->Same G G'->D.nx σ' H'):
  ∃c a kvs,σ[i]? =some (some (.ref a))/\H a=some (.dK kvs)/\Ci kvs k=some (.ref c)/\tyV K "list" (.ref c) H/\tD K EX f2 σ H λy H2=>bf_2 (.ref c) [y] H2 λ_ H3=>D.nx σ H3:=by
 obtain⟨v0,s1,t⟩:=E.ow i _ _ e1 (Sl.tree_own etr);obtain⟨a,kvs,S1,rfl,m,hH,hk,sub,rl⟩:=t.dic_of;obtain⟨vc,Sc,ec,tc,ic,fc⟩:=OwL.focusK k hk rl ev;cases tc with
 |lst hc mc subc rc=>
  rename_i c vs S2;have hca:c≠a:=(sub c (ic c mc)).2;refine⟨c,a,kvs,s1,hH,ec,.inl ⟨rfl,_,SqL.of hc⟩,G,At Δ,E.st.gh,E.gsh, ?_⟩;rw[ef];refine WP.intro λy G2 H2 st2 r2=> ?_;have E2:=E.grow st2;have zk:vs.length < sizeLine:=by rw[rc.length,D6];exact hz
  refine⟨c,vs,y,rfl,rfl,st2.hh _ _ hc,zk, ?_⟩;refine q σ G2 _ _ (E2.writeIn e1 etr s1 (sub c (ic c mc)).1 ?_) st2.gg;obtain⟨vc',Sc',ec',tc',ic',fc'⟩:=OwL.focusK k hk (OwL.mono st2.gg rl (λ_ _ _ z=>z) λ_ z=>z) ev;rw[ec]at ec';cases ec';cases tc' with
  |lst hc' mc' subc' rc'=>
   rename_i vs' S2';rw[hc]at hc';cases hc';refine Ow.dic (S1:=S1) (by rw[Aq (Ne.symm hca)];exact st2.hh _ _ hH) (by rw[al_2];exact hk) m sub ?_;refine fc' (λb o hb nb z=> ?_) ?_
   ·rw[Aq (show b≠c from λw=>nb (by rw[w];exact mc'))];exact st2.hh _ _ z
   ·refine Ow.lst (S1:=S2') Bj mc' subc' (OwL.append (S2:=λ_=>False) (rc'.mono (Same.refl _) (λb o hb z=> ?_) λ_ z=>z) (.cons (S1:=λ_=>False) (S2:=λ_=>False) (.sh r2) .nil (λ_ z=>z.elim) (λ_ z=>z) λ_ z=>z) (λ_ _ z=>z) (λ_ z=>z) λ_ z=>z.elim);rw[Aq (subc' b hb).2];exact st2.hh _ _ z
def cs_8{i:Nat}{x:Str}{e1 e2:Expr}{f1 f2:FE}{p1 lp a1 c1 zg zf:Pos}(h1:ED X EX e1 f1)(h2:ED X EX e2 f2)(hN:X.N[i]? =some x:=by rfl)(hv:Fg X.env.scope x:=by trivial)(hd:AG x:=by decide)
  (hcd:(x ==("__classdict__" :Str))=false:=by decide) (hm:M2 X (.Name x p1) "setdefault" a1 e1 (.List [] lp) c1:=by exact⟨rfl,rfl,rfl,rfl⟩)
  (hsw:swapsWith (.Call (.Attribute (.Call (.Attribute (.Name x p1) "setdefault" a1) [e1,.List [] lp] [] c1) "append" zg) [e2] [] zf) none pos.line X.env=pure false:=by rfl)
  (ae:attributeBase (.Call (.Attribute (.Name x p1) "setdefault" a1) [e1,.List [] lp] [] c1) "append" X.env (eval (.Call (.Attribute (.Name x p1) "setdefault" a1) [e1,.List [] lp] [] c1) X.env)=eval (.Call (.Attribute (.Name x p1) "setdefault" a1) [e1,.List [] lp] [] c1) X.env:=by rfl)
  (bb:((backTo zf (starEach [e2] X.env)).all (λx=> !x.1) && (backToKw zf (keywordEach [] X.env)).all (λx=>x.1.isSome)
   && decide ([e2].length + ([]:List Keyword).length + (if([]:List Keyword).isEmpty then 0 else 1) < 30))=true:=by rfl)
  (af:(zg.endLine ==zf.line)=true:=by rfl) (hs:starEach [e2] X.env=(false,eval e2 X.env)::starEach [] X.env:=by rfl) (ag:(backTo zf (starEach [] X.env)).any (·.1)=false:=by rfl):
  SD X EX (.Expr (.Call (.Attribute (.Call (.Attribute (.Name x p1) "setdefault" a1) [e1,.List [] lp] [] c1) "append" zg) [e2] [] zf) pos) (sSdb i f1 f2):=
 PS.imp (ac_1 (by_7 U3 Z2 Z3 aj_8 (de_0 (Fh hN hv hd hcd) h1 (bt_7 r_0) hm) (i_7 h2 r_0 hs) ae bb af hs ag) hsw) λD σ H ⟨H0,G0,G,Δ,O,E,q⟩=>by
  unfold sSdb at q
  split at q
  ·rename_i zm lk e0;obtain⟨s,e1,etr⟩:=J6.mp e0;obtain⟨v0,s1,t⟩:=E.ow i _ _ e1 (Sl.tree_own etr);obtain⟨a,kvs,S1,rfl,m,hH,hk,sub,rl⟩:=t.dic_of;refine⟨.ref a,s1,a,rfl,.inl ⟨kvs,.inl hH⟩,Cs G H O,Ba Δ,E.aH,E.gall, ?_⟩;cases e3:f1 (Ba Δ) with
   |ex x=>simp only[e3]at q;exact q.elim
   |no=>simp only[e3]at q;exact q.elim
   |ok z1=>
    simp only[e3]at q;refine WP.intro λv1 G1 H1 st1 r1=> ?_
    split at q
    ·rename_i k1 ek1
     split at q
     ·rename_i hl
      split at q
      ·rename_i ts ev
       split at q
       ·rename_i hz;cases e4:f2 (At Δ) with
        |ex x=>simp only[e4]at q;exact q.elim
        |no=>simp only[e4]at q;exact q.elim
        |ok z2=>
         simp only[e4]at q
         ·have hv1:=t_2 r1 ek1;subst hv1;refine⟨L0 _,λp hp=> ?_⟩;have E3:=E.keep st1.hh;have E5:=E3.keep (h_9 hp (.lst []));have hle:kvs.length=zm.length:=by
           have:=K4 List.length hk
           rwa[A3,A3]at this
          have hH5:upd H1 p (.lst []) a=some (.dK kvs):=h_9 hp _ _ _ (st1.hh _ _ hH);refine⟨kvs,k1,hH5,rfl,by rw[hle,D6];exact hl,λv hv=> ?_,λhn=> ?_⟩
          ·have hA:sdK zm k1=zm:=by
            unfold sdK;cases hA:Bh zm k1 with
            |some t=>rfl
            |none=>rw[bo_6 hk hA]at hv;cases hv
           rw[hA]at ev q;obtain⟨c,a',bp,s1',hH',ec,ty,td⟩:=cc_3 (D:=D) (EX:=EX) E5 e1 etr ev hz e4 q;rw[s1]at s1';cases s1';rw[hH5]at hH';cases hH';rw[hv]at ec;cases ec;exact⟨ty,td⟩
          ·have hA:Bh zm k1=none:=by
            cases hA:Bh zm k1 with
            |none=>rfl
            |some t=>
             obtain⟨v',_,ev',_⟩:=OwL.focusK k1 hk rl hA;rw[hn]at ev';cases ev'
           have hK:sdK zm k1=zm ++ [(k1,.lst [])]:=by unfold sdK;rw[hA]
           rw[hK]at ev q;have npO:∀j b,O j b->b≠p:=λj b hb z=>by
            have h0:=(E.out j b hb).2.2;cases e:H b with
            |none=>exact h0 e
            |some o=>rw[z]at e;rw[st1.hh _ _ e]at hp;cases hp
           have hap:a≠p:=npO i a m;have di:(kvs.any λkv=>decide (kv.1=k1))=false:=by
            rw[z_9,hn];rfl
           have cz:Ek kvs k1 (.ref p)=kvs ++ [(k1,.ref p)]:=by
            rw[ca_5];unfold By;rw[di];rfl
           rw[cz];have Gp:G p=none:=E3.st.gh.free hp;have old:∀b o,H1 b=some o->upd H1 p (.lst []) b=some o:=λb o z=>h_9 hp _ b o z;have hp1:upd H1 p (.lst []) p=some (.lst []):=Bj;have ms:MStep2 (O i) G H1 G (upd (upd H1 p (.lst [])) a (.dK (kvs ++ [(k1,.ref p)]))):=⟨λb o nb z=>by rw[Aq (λw=>nb (by rw[w];exact m))];exact old b o z,λb o z=>by
            have:b≠a:=λw=>by rw[w,(E.out i a m).1]at z;cases z
            rw[Aq this];exact old b o (E3.st.gh b o z),Same.refl _,λb _ z _=>z⟩
           have E6:Ev X.K H0 G0 G (upd (upd H1 p (.lst [])) a (.dK (kvs ++ [(k1,.ref p)]))) σ (Δ.set i (Sl.mk lk (.dic (zm ++ [(k1,.lst [])])))) (x_5 O i λb=>O i b\/b=p):=by
            refine E3.step2 (S:=λb=>O i b\/b=p) (Sl.mk_own lk _) (Sl.mk_lk lk _) (E3.mk_lt e1 etr _) ms s1 (λb hb=> ?_) ?_
            ·rcases hb with hb|hb
             ·refine⟨.inl hb,(E3.out i b hb).1, ?_⟩
              by_cases w:b=a
              ·rw[w,Bj];simp
              ·rw[Aq w];cases e:H1 b with
               |none=>exact absurd e (E3.out i b hb).2.2
               |some o=>rw[old b o e];simp
             ·subst hb;exact⟨.inr hp,Gp,by rw[Aq (Ne.symm hap),hp1];simp⟩
            ·refine Ow.dic (S1:=λb=>S1 b\/b=p) Bj (by rw[E8,E8,hk];rfl) (.inl m) (λb hb=> ?_) ?_
             ·rcases hb with hb|hb
              ·exact⟨.inl (sub b hb).1,(sub b hb).2⟩
              ·subst hb;exact⟨.inr rfl,Ne.symm hap⟩
             ·rw[E8,E8];refine OwL.append (S2:=λb=>b=p) (rl.mono (Same.refl _) (λb o hb z=> ?_) λ_ z=>z) (.cons (S1:=λb=>b=p) (S2:=λ_=>False) (.lst (S1:=λ_=>False) (by rw[Aq (Ne.symm hap)];exact hp1) rfl (λ_ z=>z.elim) .nil) .nil (λ_ _ z=>z) (λ_ z=>z) λ_ z=>z.elim) (λb z1 z2=>npO i b (sub b z1).1 z2) (λb z=> .inl z) λb z=> .inr z;rw[Aq (sub b hb).2];exact old _ _ (st1.hh _ _ z)
           have hlt:i < Δ.length:=(B6.mp e1).1;obtain⟨c,a',bp,s1',hH',ec,ty,td⟩:=cc_3 (D:=D) (EX:=EX) (lk:=lk) E6 (s:=Sl.mk lk (.dic (zm ++ [(k1,.lst [])]))) (by rw[F4 hlt]) (by cases lk <;> rfl) ev hz (by rw[df_4 e1 etr];exact e4) (λ σ' G' H' O' E' sg=>q σ' G' H' O' (by rw[List.set_set]at E';exact E') sg);rw[s1]at s1';cases s1';rw[Bj]at hH';cases hH';rw[<-cz,cn_7,if_pos rfl]at ec;cases ec;exact⟨ty,td⟩
       ·exact q.elim
      ·exact q.elim
     ·exact q.elim
    ·exact q.elim
  ·exact q.elim
end
def bp_8(a b:D):R W:=match a,b with
 | .dic ka,.dic []=> .ok (.sh (.bl (!ka.isEmpty)))
 |_,_=> .no
def cs_9(fk fv:FE):FE:=λ δ=>(fk δ).bind λk=>match Ee k.d with
 |some kk=>(fv δ).bind λv=> .ok (.ow (.dic [(kk,v.d)]))
 |none=> .no
def bp_9(i j:Nat)(f:FE):FS:=λ Δ=>match Δ[j]? with
 |some (.ow (.lst es))=>(match f (Ba Δ) with
  | .ok z=>(match z.d with
   | .int k=>if 0<=k/\k < (es.length:Int)/\es.length<=16777216 then(match es[k.toNat]? with
    |some d=> .nx ((Δ.set j (.ow (.lst (es.eraseIdx k.toNat)))).set i (.sh d))
    |none=> .no) else .no
   |_=> .no)
  |_=> .no)
 |_=> .no
def eKL(f:FE):FE:=λ δ=>(f δ).bind λw=>match w.d with
 | .dic kds=> .ok (.ow (.lst (kds.map λp=>kD p.1)))
 |_=> .no
section
variable{X:Cx}{EX:Au}{pos:Pos}
def ct_0(hu:X.A.units + 64 < cLine):Er X (compareOp .NotEq) bp_8:=by
 intro zd s σ H x y v u Q I rx ry h;obtain⟨EX,G,a,b,g,ha,hb,o⟩:=h;cases ha with
 |dic h1 hk1 r1=>
  rename_i a1 kvs1 kds1;cases hb with
  |dic h2 hk2 r2=>
   rename_i a2 kvs2 kds2;cases kds2 with
   |cons _ _=>exact False.elim o
   |nil=>
    cases rx;cases ry;obtain⟨z1,lo1,ws1,kv1,dd1⟩:=r_5 I.hok (Same.rdD g h1);obtain⟨z2,lo2,ws2,kv2,dd2⟩:=r_5 I.hok (Same.rdD g h2);have e2:kvs2= []:=List.map_eq_nil_iff.mp hk2;subst e2;cases kv2;have hl:ws1.length=kds1.length:=by
     rw[<-kv1.length];have:=K4 List.length hk1
     rwa[A3,A3]at this
    refine keq_ne (r:=true) lo1 lo2 dd1 dd2 () (λe=> ?_) ?_
    ·have:ws1= []:=W3 e;subst this;exact .nil
    ·have e3:(!(ws1.length ==([]:List (Ae×Value)).length && true))= !kds1.isEmpty:=by
      cases kds1 with
      |nil=>rw[J8]at hl;rw[hl];rfl
      |cons p r=>rw[B4]at hl;rw[hl];simp
     rw[e3];exact⟨.bl _,H,I,rfl,(show WP X.K G H (.sh (.bl (!kds1.isEmpty))) Q from o).use g (.bl _)⟩
  |_=>exact False.elim o
 |_=>exact False.elim o
def df_5{e1 e2:Expr}{fk fv:FE}(hk:ED X EX e1 fk)(hv:ED X EX e2 fv):ED X EX (.Dict [some e1] [e2] pos) (cs_9 fk fv):=
 PE.imp (da_4 (co_0 hk hv da_3) rfl rfl (by simp) (Nat.le_of_ble_eq_true rfl)) λ σ H Q ⟨G,δ,g0,s0,o⟩ p hp=>by
  have so:=Step.own g0 hp (.dK []);unfold cs_9 at o;refine⟨G,δ,so.gh,s0, ?_⟩;cases ek:fk δ with
  |ex x=>rw[ek]at o;exact(EX σ).mono _ _ _ _ _ so o
  |no=>rw[ek]at o;exact o
  |ok wk=>
   rw[ek]at o;simp only[R.bind_ok]at o;refine WP.intro λv1 G1 H1 st1 r1=>⟨G1,δ,st1.gh,s0.mono st1.gg, ?_⟩;cases ekk:Ee wk.d with
   |none=>rw[ekk]at o;exact False.elim o
   |some kk=>
    rw[ekk]at o;simp only at o;have hv1:=t_2 r1 ekk;subst hv1;cases ev:fv δ with
    |ex x=>rw[ev]at o;exact(EX σ).mono _ _ _ _ _ (so.trans st1) o
    |no=>rw[ev]at o;exact o
    |ok wv=>
     rw[ev]at o;simp only[R.bind_ok]at o;refine WP.intro λv2 G2 H2 st2 r2=> ?_;have st:=(so.trans st1).trans st2;have hp2:H2 p=some (.dK []):=st2.hh _ _ (st1.hh _ _ Bj);have gp:G p=none:=g0.free hp;have gp2:G2 p=none:=st2.nw p (st1.nw p gp (by rw[Bj];simp)) (by rw[st1.hh _ _ Bj];simp);refine⟨hp2,[(kk,v2)],rfl,Nat.le_of_ble_eq_true rfl, ?_⟩;refine(show WP X.K G H (.ow (.dic [(kk,wv.d)])) Q from o) (.ref p) (λb=>b=p) G2 _ ⟨λb o' z=> ?_,λb o' z=> ?_,st.gg,st.nw⟩ (λa ha=> ?_) ?_
     ·rw[Aq (Ej z hp)];exact st.hh b o' z
     ·rw[Aq (Ej z gp2)];exact st.gh b o' z
     ·subst ha;exact⟨hp,gp2,by rw[Bj];simp⟩
     ·exact Ow.dict Bj rfl rfl (.cons r2 .nil)
def df_6{i j:Nat}{x y:Str}{e:Expr}{f:FE}{p1 p2 zg zf:Pos}(he:ED X EX e f)(hN:X.N.Nodup)(hi:X.N[i]? =some x:=by rfl)(hx:Ep X.env.scope x:=by trivial)(hj:X.N[j]? =some y:=by rfl)(hv:Fg X.env.scope y:=by trivial)(hd:AG y:=by decide)
  (hcd:(y ==("__classdict__" :Str))=false:=by decide) (hs:swapsWith (.Call (.Attribute (.Name y p1) "pop" zg) [e] [] zf) (some (.Name x p2)) pos.line X.env=pure false:=by rfl)
  (hf:X.fn x=true\/X.env.scope.names.lookup x=some .local:=by trivial)
  (hb2:attributeBase (.Name y p1) "pop" X.env (eval (.Name y p1) X.env)=eval (.Name y p1) X.env:=by rfl)
  (hw2:((backTo zf (starEach [e] X.env)).all (λx=> !x.1) && (backToKw zf (keywordEach [] X.env)).all (λx=>x.1.isSome)
   && decide ([e].length + ([]:List Keyword).length + (if([]:List Keyword).isEmpty then 0 else 1) < 30))=true:=by rfl)
  (hl2:(zg.endLine ==zf.line)=true:=by rfl) (hs2:starEach [e] X.env=(false,eval e X.env)::starEach [] X.env:=by rfl) (hp2:(backTo zf (starEach [] X.env)).any (·.1)=false:=by rfl):
  SD X EX (.Assign [.Name x p2] (.Call (.Attribute (.Name y p1) "pop" zg) [e] [] zf) pos) (bp_9 i j f):=
 PS.imp (be_7 hN hi hx (by_7 U3 PySem.F.slot_list_pop PySem.F.type_list_pop cm_7 (Fh hj hv hd hcd) (i_7 he r_0 hs2) hb2 hw2 hl2 hs2 hp2) hs hf) λD σ H ⟨H0,G0,G,Δ,O,E,q⟩=>by
  unfold bp_9 at q
  split at q
  ·rename_i es e2;obtain⟨v1,s2,t2⟩:=E.ow j _ _ e2 rfl;obtain⟨b,us,rfl,m2,hB,rb⟩:=t2.list_of;refine⟨.ref b,s2,.inl ⟨rfl,_,SqL.of hB⟩,Cs G H O,Ba Δ,E.aH,E.gall, ?_⟩;cases e3:f (Ba Δ) with
   |ex x=>simp only[e3]at q;exact q.elim
   |no=>simp only[e3]at q;exact q.elim
   |ok z=>
    simp only[e3]at q;refine WP.intro λv2 G2 H2 st2 r2=> ?_;revert q r2;cases z.d with
    |int k=>
     intro q r2;cases r2;simp only at q
     split at q
     ·rename_i hk;cases e4:es[k.toNat]? with
      |none=>simp only[e4]at q;exact q.elim
      |some d=>
       simp only[e4]at q;obtain⟨v,e5,hv5⟩:=rb.get e4;have sz:seqIndex? k us.length=some k.toNat:=by
        rw[rb.length];unfold seqIndex?;simp only;have hn:¬k < 0:=by omega
        rw[if_neg hn,if_pos (by simp[hk.1,hk.2.1])]
       refine⟨b,us,k,k.toNat,v,rfl,rfl,st2.hh _ _ hB,by omega,by omega,sz,e5, ?_⟩;exact q _ G _ _ (((E.keep st2.hh).writeL s2 m2 (rb.eraseIdx k.toNat)).put hv5) (Same.refl _)
     ·exact q.elim
    |_=>intro q _;exact False.elim q
  ·exact q.elim
def di_6(to:TE):TE:=λ σ H Q=>to σ H λx H1=>∃a kvs,x=.ref a/\Rd H1 a (.dK kvs)/\∀p,H1 p=none->Q (.ref p) (upd H1 p (.ext λh=>KdlKeysView h p a))
def df_7{o:Expr}{to:TE}{zg zf:Pos}(ho:PE X o to)(ae:attributeBase o "keys" X.env (eval o X.env)=eval o X.env:=by rfl)(af:(zg.endLine ==zf.line)=true:=by rfl):PE X (.Call (.Attribute o "keys" zg) [] [] zf) (di_6 to):=by
 intro zd s σ H Q I h;refine ZA2 ae af (Ay (ho zd s σ H _ I h) λv s1 ⟨x,H1,I1,r1,a,kvs,ex,rd,q⟩=> ?_);subst ex;obtain rfl:v=Value.ref a:=r1;obtain⟨z,lo,ws,kv,dd⟩:=r_5 I1.hok rd;refine⟨"dict","dict.keys",O0,ZB2,PySem.F.type_dict_keys,dd.typeIs,dd.mapOf.noDict,M9 rfl (PySem.evalArgs_none ?_)⟩;refine U6 ZB2 dd.typeIs PySem.F.entry_dict_keys (PySem.F.args_dict_keys_1 _) (kdl_meets_keys (Dw X.prog X.w) a lo) ⟨⟨ws,dd⟩, ?_⟩;have hf:H1 s1.heap.objs.size=none:=I1.hok.fresh (B5 _);refine⟨.ref s1.heap.objs.size,_,I1.laid (t':=s1.toks) (λb u e=>A4 _ e) (B5 _) ?_,rfl,q _ hf⟩;have hv:KdlKeysView (s1.heap.push {cls:=.type "dict_keys",data:=.fields #[.ref a]}) s1.heap.objs.size a:=⟨_,B9 _ rfl,rfl,rfl⟩;exact⟨hv,⟨_,B9 _ rfl⟩,λh1 h2 ⟨o,e1,e2⟩ k=>⟨o,k o e1,e2⟩⟩
def ct_1{o:Expr}{f:FE}{p zg zf:Pos}(hc:X.calm=true)(hm:X.mg "list" =none)(he:ED X EX o f)(hg:Gl X "list" :=by rfl)(ae:attributeBase o "keys" X.env (eval o X.env)=eval o X.env:=by rfl)(af:(zg.endLine ==zf.line)=true:=by rfl)
  (hs:starEach [.Call (.Attribute o "keys" zg) [] [] zf] X.env= [(false,eval (.Call (.Attribute o "keys" zg) [] [] zf) X.env)]:=by rfl) (hs1:starEach [.Call (.Attribute o "keys" zg) [] [] zf] X.env=(false,eval (.Call (.Attribute o "keys" zg) [] [] zf) X.env)::starEach [] X.env:=by rfl):
  ED X EX (.Call (.Name "list" p) [.Call (.Attribute o "keys" zg) [] [] zf] [] pos) (eKL f):=by
 intro zd s σ H Q I h;obtain⟨G,δ,g0,s0,h⟩:=h;have ta:cm_4 (di_6 (tD X.K EX f)) tNil σ H λvs H2=>∃(G1 H1:Hp) (a:Addr) (kvs:List (Ae×V)) (kds:List (Ae×D)) (pv:Addr),vs= [.ref pv]/\H1 pv=none/\H2=upd H1 pv (.ext λh=>KdlKeysView h pv a)/\Same G1 H1/\Rd G1 a (.dK kvs)/\kvs.map (·.1)=kds.map (·.1)/\WP X.K G1 H1 (.ow (.lst (kds.map λp:Ae×D=>kD p.1))) Q:=by
  refine tD.seq g0 s0 h λw v G1 H1 _ st r o'=> ?_;revert o' r;cases w.d with
  |dic kds=>
   intro r o';cases r with
   |dic hr hk rr=>exact⟨_,_,rfl,Same.rdD st.gh hr,λpv hp=>⟨G1,H1,_,_,kds,pv,rfl,hp,rfl,st.gh,hr,hk,o'⟩⟩
  |_=>intro _ o';exact False.elim o'
 refine Call_ (ae_7 I hg hm ZB3 (O8 (Ay ((i_7 (df_7 he ae af) r_0 hs1) pos zd s σ H _ I ta) λus s1 ⟨vs,H2,I2,r1,G1,H1,a,kvs,kds,pv,ev,hp,eH,g1,rd,hk,q⟩=> ?_) hs rfl));subst ev;obtain⟨u,rfl,ru⟩:=r1.one;cases ru;have hv:H2 pv=some (.ext λh=>KdlKeysView h pv a):=by rw[eH,Bj]
 have g2:Same H1 H2:=by rw[eH];exact h_9 hp _
 obtain⟨vw,_,_⟩:=I2.hok pv _ hv;obtain⟨z,lo,ws,kv,dd⟩:=r_5 I2.hok (Same.rdD (g1.trans g2) rd);obtain⟨ep,da⟩:=dd.dictAt;refine kdl_call (kdl_keys (r:=pv) (d:=a)) (I2.ok.hd hc) ⟨vw,da⟩ (by rw[<-kv.length];exact z) λh' tk zn c kk hat it=> ?_;have rv':Vals ((kvs.map (·.1)).map kV) zn.toList:=al_3 kv (by rw[Q5];exact it.1) λj v e=>it.2 j v (by rw[<-V3];exact e);have fr:H2 s1.heap.objs.size=none:=I2.hok.fresh (B5 _);refine⟨.ref _,upd H2 _ (.lst _),I2.laid (t':=tk) kk (B5 _) ⟨?_,zn.toList,c,rv',by simpa using hat⟩,rfl, ?_⟩
 ·rw[A3,A3];exact z
 ·have e:(kds.map λp=>kD p.1)=(kvs.map (·.1)).map kD:=by rw[hk,F8];rfl
  rw[e]at q;have st:Step G1 H1 G1 H2:=⟨g2,g1.trans g2,Same.refl _,λ_ n _=>n⟩;exact ac_2 (EX:=EX0) (show Out X.K EX0 G1 H2 (.ok (.ow (.lst ((kvs.map (·.1)).map kD)))) Q from WP.mono st q) (g1.trans g2) (ca_7 _) _ fr
end
end L3
namespace PySem.W
open PySem PySem.Calls PyProof.Rows PySem.Spec
section
variable{prog:Program}{w:World}{A:Around}{E:AA}{s:Shared}{T:String}{r d:Addr}{n:Nat}{P:Nat->Value->Prop}{OK:Heap->Prop}
def collect_kdl{Q:List Value->Shared->Prop}(K:KdlSrc prog w T r d n P OK)(hh:A.handled=none)(hok:OK s.heap)(hn:n<=sizeLine)
  (hQ:∀h' tk zn,(∀b o,s.heap.get? b=some o->h'.get? b=some o)->s.heap.objs.size<=h'.objs.size->ItemsOf P zn n->Q zn.toList {s with heap:=h',toks:=tk}):wpAny (model prog w) A (collect (.ref r)) Q E s:=by
 have hlt:=K.there _ hok;unfold collect;refine A7 (wpAny_runValue (codeAny_builtin PySem.F.entry_proto_collect ?_));rw[Around.under_plainId PySem.F.plain_proto_collect _];show wpAny _ A.in1 (newList [] >>=λl=>again (.builtin "list.__iadd__" ⟨[l,.ref r],[]⟩)) _ _ s;refine A7 (Y8 ?_);refine E7 ⟨plainId_quiet ZA3 _,codeAny_builtin PySem.F.entry_list_iadd ?_⟩;rw[Around.under_plainId ZA3 _];have hS₁:(s.heap.push {cls:=.type "list",data:=.seq ([]:List Value).toArray}).get? s.heap.objs.size=some {cls:=.type "list",data:=.seq #[] 0}:=B9 _ rfl;show wpAny _ A.in1 (Builtin.List.listExtendWith (.ref s.heap.objs.size) (.ref r) (.ref s.heap.objs.size)) _ _ _;have fin:∀{rr:Result} {s':Shared},(∃h' tk ar c',rr=.ok (.ret (.ref s.heap.objs.size))/\s'={s with heap:=h',toks:=tk}/\(∀b o,b≠s.heap.objs.size->(s.heap.push {cls:=.type "list",data:=.seq ([]:List Value).toArray}).get? b=some o->h'.get? b=some o)/\h'.get? s.heap.objs.size=some {cls:=.type "list",dict:=none,data:=.seq ar c',slots:= #[]}/\ItemsOf P ar n)->
   rr=.ok (.ret (.ref s.heap.objs.size))/\wpAny (model prog w) A (load s.heap.objs.size >>=λo=>match o.data with| .seq xs _=>pure xs.toList|_=>unsupported "internal:collect") Q E s':=by
  rintro rr s' ⟨h',tk,ar,c',rfl,rfl,hk,hS',bx⟩
  refine⟨rfl,A7 (wpAny_load hS' ?_)⟩;exact E7 (hQ h' tk ar (λb o e=>hk b o (C9 (A5 e)) (A4 _ e)) (Q0 (A5 hS')) bx)
 refine E4 (kdl_extend (R:=λrr s'=>∃h' tk ar c',rr=.ok (.ret (.ref s.heap.objs.size))/\s'={s with heap:=h',toks:=tk}/\(∀b o,b≠s.heap.objs.size->(s.heap.push {cls:=.type "list",data:=.seq ([]:List Value).toArray}).get? b=some o->h'.get? b=some o)/\h'.get? s.heap.objs.size=some {cls:=.type "list",dict:=none,data:=.seq ar c',slots:= #[]}/\ItemsOf P ar n)
  (s:={s with heap:=s.heap.push {cls:=.type "list",data:=.seq ([]:List Value).toArray}}) K hh (K.keep _ _ hok λb _ o e=>A4 _ e) s.heap.objs.size (X6 hlt.1) (X6 hlt.2) (.ref s.heap.objs.size) 0 hS₁ (λh' tk ar c' hk hS' bx=>⟨h',tk,ar,c',rfl,rfl,hk,hS',bx⟩) hn) (λf s' hf=> ?_) λe s' hf=> ?_
 ·cases f with
  |done f=>
   obtain⟨e,q⟩:=fin hf;cases e;exact q
  |again c'=>
   refine⟨hf.1,R3 hf.2 λrr s'' h=> ?_⟩;obtain⟨e,q⟩:=fin h;cases e;exact q
 ·obtain⟨e,_⟩:=fin hf;cases e
end
section
variable{prog:Program}{w:World}{A:Around}{E:AA}{s:Shared}{a kS:Addr}{vs:List Value}{kz:List Int}{e1:Nat}{P:PySem.Fin->Shared->Prop}
def ksk_restJ{f:Value}(J:Nat->Array Value->Shared->Prop)(j0:J 0 #[] s)(zk:kz.length=vs.length)(h64:vs.length < 64)
  (turn:∀(i:Nat) (v:Value) (k:Int) (kA:Array Value) (s':Shared),vs[i]? =some v->kz[i]? =some k->J i kA s'->
   wpAny (model prog w) A (call f [v]) (λu s''=>∃t e,u=.int k t/\s''.heap.get? kS=some (seqObj "list" kA e)/\J (i + 1) (kA.push u) {s'' with heap:=s''.heap.update kS (Obj.mapSeq (·.push u))}) (λ_ _=>False) s')
  (at_:∀i kA s',J i kA s'->∃e,s'.heap.get? kS=some (seqObj "list" kA e))
  (h:∀kA s',J vs.length kA s'->IntsAre kA.toList kz->wpAny (model prog w) A (ksk_end a false vs.toArray e1 (.ref kS) kA) P E s'):
  wpAny (model prog w) A (ksk_rest a f false vs.toArray e1 (.ref kS)) P E s:=by
 unfold ksk_rest;refine A7 (wpAny_rule ?_)
 first
  |rw[List.forIn_toArray]
  |(rw[<-Array.forIn_toList];simp only[List.toList_toArray])
  |rw[<-Array.forIn_toList]
 refine A7 (ksk_fold (λi s'=>∃kA,J i kA s'/\IntsAre kA.toList (kz.take i)) vs 0 s ⟨#[],j0,by simpa using IntsAre.nil⟩ ?step ?done)
 case step=>
  rintro j x s' hx ⟨kA,hJ,hk⟩
  simp only[Q3]at hk hJ⊢;have hj:j < vs.length:=(B6.mp hx).1;obtain⟨k,hkj⟩:∃k,kz[j]? =some k:=⟨_,B3 ()⟩;have hz:kA.size<=vs.length:=by
   have h1:=hk.length;rw[Q5,V7]at h1;omega
  refine A7 (wpAny_attempt (E4 (turn j x k kA s' hx hkj hJ) (λv s'' he=> ?_) λ_ _ hF=>hF.elim));obtain⟨t2,e2,rfl,hat,hJ2⟩:=he
  try dsimp only
  have ek:kz.take (j + 1)=kz.take j ++ [k]:=by rw[V1,hkj];simp
  have ea:(kA.push (Value.int k t2)).toList=kA.toList ++ [Value.int k t2]:=by simp
  refine A7 (listUpdate_at hat rfl ?_ (by rw[D6];omega) (C5 (S8 (Array.size_push ..)) (by rw[D6];omega)));exact E7 ⟨rfl,kA.push (.int k t2),hJ2,by rw[ea,ek];exact ksk_snoc hk⟩
 case done=>
  rintro s' ⟨kA,hJ,hk⟩
  rw[Q3]at hJ;have hk':IntsAre kA.toList kz:=by
   have e3:kz.take (0 + vs.length)=kz:=List.take_of_length_le ();rw[e3]at hk;exact hk
  obtain⟨e,hat⟩:=at_ _ _ _ hJ
  try dsimp only
  refine A7 (listItems_at hat rfl ?_);exact h kA s' hJ hk'
end
end PySem.W
namespace L3
open PySem PySem.Spec PyProof.Rows L2
variable{K:Frag}{fd:FuncData}{mg:AB}{us:List Value}{base:Heap}{H:Hp}{X:Cx}{pos:Pos}{v:V}
def y_1(F:AF):List D->R (List (Int×D))
 | []=> .ok []
 |d::ds=>(F [d]).bind λw=>match w.d with
  | .int n=>(y_1 F ds).bind λr=> .ok ((n,d)::r)
  |_=> .no
def insK(p:Int×D):List (Int×D)->List (Int×D)
 | []=> [p]
 |q::r=>if p.1<=q.1 then p::q::r else q::insK p r
def au_9:List (Int×D)->List (Int×D)
 | []=> []
 |p::r=>insK p (au_9 r)
def av_0(F:AF)(ds:List D):R W:=match y_1 F ds with
 | .ok ps=>if ps.length < 64/\(ps.map (·.1)).Nodup then .ok (.ow (.lst ((au_9 ps).map (·.2)))) else .no
 |_=> .no
def av_1(F:AF)(f:FE):FE:=λ δ=>(f δ).bind λw=>match w.d with
 | .dic kds=>av_0 F (kds.map λp=>kD p.1)
 |_=> .no
section
variable{X:Cx}{zd:AE}{σ:Sg}{H:Hp}{s:Shared}
def df_8{A:Around}{F:AF}{k:Nat}{f:Addr}{ps:List Str}{u:Value}{d:D}{n:Int}{w:W}(ok:FnX X.prog X.w X.K X.mg X.base true k f fd ps (Ca X.K 1 F))(hb:Binds X.K fd ps [])(I:Inv X zd σ H s)(hA:A.frames=X.A.frames)(hr:RoomC true k A)
  (rv:RelV v u) (hv:∀G,Has X.K G v d) (e:F [d]=.ok w) (ew:w.d=.int n):wpAny (model X.prog X.w) A (call (.ref f) [u]) (λz s'=>∃t H',z=.int n t/\Same H H'/\Inv X zd σ H' s') (λ_ _=>False) s:=by
 have e0:Env0 X.prog X.w X.K X.mg X.base A X.stack s H:=⟨hA.trans I.ok.frames,I.ok.mod,I.bs,C5 I.ok.bsz I.sz,I.stack,I.stkFree,I.hok,I.bare⟩;have sp:Ca X.K 1 F [v] H (λv' H'=>v'=.int n/\Same H H') λ_ _ _=>False:=⟨rfl,λ_=>none,[d],(λ_ _ z=>nomatch z),.cons (hv _) .nil,by
  rw[e];refine WP.intro λv' G' H' st r=> ?_;rw[ew]at r;cases r;exact⟨rfl,st.hh⟩⟩
 have hl:([u]:List Value).length=ps.length:=by
  have:=ok.len _ _ _ _ sp;simpa using this
 have hb':=hb s [u] I.kIn (by rw[D4];exact hl);rw[D4]at hb';refine V8 (R3 (ok.run A X.stack s H ⟨[u],[]⟩ [u] [v] _ _ hr e0 hb' (.cons rv .nil) sp) λr s' hq=> ?_);cases r with
 |error e=>
  obtain⟨_,_,_,_,_,_,_,_,_,_,_,_,_,_,_,z⟩:=hq;exact z
 |ok fl=>
  cases fl with
  |ret z=>
   obtain⟨v',H',I',rv',rfl,sm⟩:=I.after hq;obtain⟨t,rfl⟩:=rv';exact⟨t,H',rfl,sm,I'⟩
  |next=>exact False.elim hq
  |brk=>exact False.elim hq
  |cont=>exact False.elim hq
end
def dp_8{h:Heap}{a:Addr}{m m':AB}(x:h.Ns a m)(y:h.Ns a m'):m=m':=by
 obtain⟨o,es,ep,ho,hd,_,e⟩:=x;obtain⟨o',es',ep',ho',hd',_,e'⟩:=y;rw[ho]at ho';cases ho';rw[hd]at hd';cases hd'
 funext z
 rw[<-e z,<-e' z]
section
variable{X:Cx}{zd:AE}{σ:Sg}{H:Hp}{s:Shared}
def av_2(h:Heap)(L b c:Addr):AE:=(List.range h.objs.size).filterMap λi=>if i=L\/i=b\/i=c then none else(h.get? i).map λo=>(i,o)
def ci_9{h:Heap}{L b c i:Addr}{o:Obj}(e:h.get? i=some o)(n:¬(i=L\/i=b\/i=c)):(i,o)∈av_2 h L b c:=by
 unfold av_2;refine T9.mpr ⟨i,K9.mpr (A5 e), ?_⟩;rw[if_neg n,e];rfl
def ad_1{h:Heap}{L b c:Addr}{p:Addr×Obj}(e:p∈av_2 h L b c):h.get? p.1=some p.2/\p.1≠L/\p.1≠b/\p.1≠c:=by
 unfold av_2 at e;obtain⟨i,_,q⟩:=T9.mp e
 split at q
 ·cases q
 ·rename_i n;obtain⟨o,eo,rfl⟩:=F9.mp q;exact⟨eo,λz=>n (.inl z),λz=>n (.inr (.inl z)),λz=>n (.inr (.inr z))⟩
def ct_2{A:Around}{E:AA}{P:PySem.Fin->Shared->Prop}{a kS:Addr}{keys:Array Value}{e e1:Nat}{vs:List Value}{xs:List V}{kz:List Int}(I:Inv X ((kS,seqObj "list" keys e)::(a,seqObj "list" #[] e1)::zd) σ H s)(hka:kS≠a)(z1:X.s₀.heap.objs.size<=kS)(z2:X.s₀.heap.objs.size<=a)(np:∀p∈X.pn ++ zd,p.1≠kS/\p.1≠a)
  (hk:IntsAre keys.toList kz) (zk:kz.length=vs.length) (h64:vs.length < 64) (hv:Vals xs vs)
  (h:∀(s':Shared) (ps:List (Int×Value)) (us:List V),ps.Perm (kz.zip vs)->ps.Pairwise (λp q=>p.1<=q.1)->Vals us (ps.map Prod.snd)->us.length=vs.length->(∀H',H'=upd H a (.lst us)->Inv X zd σ H' s')->P (.done (.ret .none)) s'):
  wpAny (model X.prog X.w) A (PyProof.Rows.ksk_end a false vs.toArray e1 (.ref kS) keys) P E s:=by
 have pk:=I.pin (kS,seqObj "list" keys e) (B7 _ (.head _));have pa:=I.pin (a,seqObj "list" #[] e1) (B7 _ (.tail _ (.head _)));obtain⟨m,hm,_⟩:=id I.loc;have I0:Inv X zd σ H s:=I.pins_of λp hp=>I.pin p (B7 _ (.tail _ (.tail _ hp)));refine PyProof.Rows.ksk_end_ (e:=e) (h₀:={objs:= #[]}) (L:=X.env.locals) (m:=m) (news:=av_2 s.heap X.env.locals kS a) ⟨hm,λb o z=>by simp[Heap.get?]at z,L0 _⟩ (λp hp=> ?_) hka (λp hp=>(ad_1 hp).2.2.1) (λp hp=>(ad_1 hp).2.2.2) hk zk h64 λh' tk out c F' N' ko=> ?_
 ·rcases F5.mp hp with hp|hp
  ·exact⟨(ad_1 hp).1,(ad_1 hp).2.1,by simp[Heap.get?]⟩
  ·rcases C6.mp hp with rfl|hp
   ·exact⟨pk.1,pk.2.2.1,by simp[Heap.get?]⟩
   ·rw[D1.mp hp];exact⟨pa.1,pa.2.2.1,by simp[Heap.get?]⟩
 ·obtain⟨ps,pm,eo,srt⟩:=ko;have hat:h'.get? a=some (seqObj "list" out c):=(N' _ (.head _)).1;have kp:∀b o,b≠X.env.locals->b≠kS->b≠a->s.heap.get? b=some o->h'.get? b=some o:=λb o n1 n2 n3 e=>(N' (b,o) (.tail _ (ci_9 e (by rintro (z|z|z) <;> contradiction)))).1;have hlz:ps.length=vs.length:=by rw[pm.length_eq,W7,zk,ZB0]
  obtain⟨us,hu⟩:∃us,Vals us (ps.map Prod.snd):=by
   have all:∀(l:List (Int×Value)),(∀p∈l,∃x,RelV x p.2)->∃us,Vals us (l.map Prod.snd):=by
    intro l
    induction l with
    |nil=>intro _;exact⟨[],.nil⟩
    |cons p l ih=>
     intro hl;obtain⟨x,hx⟩:=hl p (.head _);obtain⟨us,hus⟩:=ih λq hq=>hl q (.tail _ hq);exact⟨x::us,.cons hx hus⟩
   refine all ps λp hp=> ?_;have hz:=W6 (pm.mem_iff.mp hp);obtain⟨i,hi,ei⟩:=List.getElem_of_mem hz.2;obtain⟨x,_,r⟩:∃x,xs[i]? =some x/\RelV x p.2:=by
    have hix:i < xs.length:=by rw[hv.length];exact hi
    obtain⟨u,e1,e2⟩:=hv.get (B3 hix);rw[B3 hi,ei]at e1;cases e1;exact⟨_,B3 hix,e2⟩
   exact⟨x,r⟩
  have hul:us.length=vs.length:=by rw[hu.length,A3];exact hlz
  refine h _ ps us pm (srt.imp λ{p q} z=>by simpa using z) hu hul λH' eH=> ?_;subst eH;have nH:∀b u,H b=some u->b≠kS/\b≠a/\b≠X.env.locals:=λb u e=>⟨(λz=>by rw[z,pk.2.1]at e;cases e),(λz=>by rw[z,pa.2.1]at e;cases e),(λz=>by rw[z,I.free]at e;cases e)⟩;have upH:∀b u,H b=some u->upd H a (.lst us) b=some u:=λb u e=>by rw[Aq (nH b u e).2.1];exact e
  refine I0.step (g':=s.gens) (d':=s.drawn) (ch:=[kS,a]) (λb hb=> ?_) (λb o n1 _ n3 e _=>kp b o n1 (λz=>n3 (by simp[z])) (λz=>n3 (by simp[z])) e) (λb o n1 _ n3 e _=>⟨o.slots,kp b o n1 (λz=>n3 (by simp[z])) (λz=>n3 (by simp[z])) e⟩) (λb o n3 _ n=>by rw[Aq λz=>n3 (by simp[z])];exact n)
   (λb o n3 e=> ?_) (λb xs e=>upH b _ e) (λb o u e=>upH b _ e) (λb ps e=>⟨#[],by rw[upH b _ e];simp⟩) (λm' hm'=>by rw[<-dp_8 hm hm'];exact F'.ns) (λb u e=> ?_) I.bare
  ·have hb':b=kS\/b=a:=by simpa using hb
   have cl:∀{q:Addr×Obj},q∈((kS,seqObj "list" keys e)::(a,seqObj "list" #[] e1)::zd)->∀x c,X.env.cells.lookup x=some c->c≠q.1:=λ{q} hq x c hc z=>by
    obtain⟨v,o,ho,hd⟩:=I.cell x c hc;have:=I.pin q (B7 _ hq);rw[z,this.1]at ho;cases ho;exact this.2.2.2.2 v hd
   rcases hb' with rfl|rfl
   ·exact⟨.inr z1,pk.2.2.1,cl (.head _),λp hp=>(np p hp).1⟩
   ·exact⟨.inr z2,pa.2.2.1,cl (.tail _ (.head _)),λp hp=>(np p hp).2⟩
  ·by_cases z:b=X.env.locals
   ·subst z;obtain⟨o',_,_,ho',_⟩:=F'.ns;exact⟨o',ho'⟩
   ·exact⟨o,kp b o z (λz=>n3 (by simp[z])) (λz=>n3 (by simp[z])) e⟩
  ·by_cases z:b=a
   ·subst z;rw[Bj]at e;cases e;exact⟨by rw[hul,D6];omega,ps.map Prod.snd,c,hu,by rw[<-eo];simpa using hat⟩
   ·rw[Aq z]at e;obtain⟨n1,n2,n3⟩:=nH b u e;refine(I.hok b u e).stay (λb' o' hc q=> ?_) (λb' q=>upH b' _ q) λb' xs q=>upH b' _ q;rcases hc with rfl|hc
    ·exact kp _ _ n3 n1 n2 q
    ·obtain⟨k1,k2,k3⟩:=nH b' _ hc;exact kp _ _ k3 k1 k2 q
end
section
variable{X:Cx}{zd:AE}{σ:Sg}{H:Hp}{s:Shared}
def cj_0{A:Around}{E:AA}{P:PySem.Fin->Shared->Prop}{a:Addr}{n k:Nat}{vs:List Value}{xs:List V}{ds:List D}{kz:List Int}{F:AF}{f:Addr}{ps:List Str}(I:Inv X zd σ H s)(ho:s.heap.get? a=some (seqObj "list" vs.toArray n))(ha0:H a=none)(haz:X.s₀.heap.objs.size<=a)(haL:a≠X.env.locals)
  (hac:∀x c,X.env.cells.lookup x=some c->c≠a) (hap:∀p∈X.pn ++ zd,p.1≠a) (haf:a∉X.fs) (hv:Vals xs vs) (hx:∀(i:Nat) v d,xs[i]? =some v->ds[i]? =some d->∀G,Has X.K G v d) (hdl:ds.length=vs.length)
  (hkz:∀(i:Nat) d k,ds[i]? =some d->kz[i]? =some k->∃w,F [d]=.ok w/\w.d=.int k) (zk:kz.length=vs.length) (h64:vs.length < 64)
  (ok:FnX X.prog X.w X.K X.mg X.base true k f fd ps (Ca X.K 1 F)) (hb:Binds X.K fd ps []) (hA:A.frames=X.A.frames) (hr:RoomC true k A)
  (h:∀(s':Shared) (H':Hp) (ps:List (Int×Value)) (us:List V),Same H H'->H' a=none->ps.Perm (kz.zip vs)->ps.Pairwise (λp q=>p.1<=q.1)->Vals us (ps.map Prod.snd)->us.length=vs.length->Inv X zd σ (upd H' a (.lst us)) s'->P (.done (.ret .none)) s'):
  wpAny (model X.prog X.w) A (PyProof.Rows.ksk_tree a (.ref f) false) P E s:=by
 have ha:a < s.heap.objs.size:=A5 ho;have s1:=Heap.SameBut.update s.heap a (Obj.mapSeq λ_=>(#[]:Array Value));obtain⟨e1,ho1⟩:∃e1,(s.heap.update a (Obj.mapSeq λ_=>(#[]:Array Value))).get? a=some (seqObj "list" #[] e1):=⟨_,get?_update_seq ho λ_=> #[]⟩;have hkS:((s.heap.update a (Obj.mapSeq λ_=>(#[]:Array Value))).push (seqObj "tuple" vs.toArray 0)).objs.size=s.heap.objs.size + 1:=by rw[size_push',Heap.size_update]
 generalize hq:((s.heap.update a (Obj.mapSeq λ_=>(#[]:Array Value))).push (seqObj "tuple" vs.toArray 0)).objs.size=kS at hkS;have hka:kS≠a:=by rw[hkS];exact X6 (S5 ha)
 have z1:X.s₀.heap.objs.size<=kS:=by rw[hkS];exact Nat.le_succ_of_le I.sz
 have npk:∀p∈X.pn ++ zd,p.1≠kS:=λp hp z=>by
  have:=A5 (I.pin p hp).1;rw[z,hkS]at this;exact absurd this (ZB1.mpr (L6 _))
 have I1:Inv X zd σ H {s with heap:=s.heap.update a (Obj.mapSeq λ_=>(#[]:Array Value))}:=I.turned (t':=s.toks) (λb o hb e=>(s1.2 b hb).trans e) ha0 haL (.inr haz) hac hap;have I2:Inv X zd σ H {s with heap:=((s.heap.update a (Obj.mapSeq λ_=>(#[]:Array Value))).push (seqObj "tuple" vs.toArray 0)).push (seqObj "list" #[] 0)}:=I1.kept (t':=s.toks) λb o e=>A4 _ (A4 _ e);have hk0:H kS=none:=I.hok.fresh (by rw[hkS];exact L6 _);have hkL:kS≠X.env.locals:=λz=>by have:=I.lt;rw[<-z,hkS]at this;exact absurd this (ZB1.mpr (L6 _))
 have hkf:kS∉X.fs:=I.nofs (by rw[hkS];exact L6 _);have nc:∀(l:Array Value) (e:Nat) v,(seqObj "list" l e).data≠ .cell v:=λl e v z=>by cases z
 let J:Nat->Array Value->Shared->Prop:=λ_ kA s'=>∃H' e,Same H H'/\Inv X ((kS,seqObj "list" kA e)::(a,seqObj "list" #[] e1)::zd) σ H' s'
 have aw:∀{kA:Array Value} {e:Nat} {H':Hp} {s':Shared},Inv X zd σ H' s'->s'.heap.get? kS=some (seqObj "list" kA e)->s'.heap.get? a=some (seqObj "list" #[] e1)->H' kS=none->H' a=none->Inv X ((kS,seqObj "list" kA e)::(a,seqObj "list" #[] e1)::zd) σ H' s':=λ{kA e H' s'} J0 g1 g2 n1 n2=>by
  refine J0.pins_of λp hp=> ?_;rcases C6.mp hp with rfl|hp
  ·exact⟨g1,n1,hkL,hkf,nc _ _⟩
  ·rcases C6.mp hp with rfl|hp
   ·exact⟨g2,n2,haL,haf,nc _ _⟩
   ·exact J0.pin p (B7 _ hp)
 unfold PyProof.Rows.ksk_tree;refine A7 (listItems_at ho rfl ?_);refine A7 (listUpdate_at ho rfl ?_ (by rw[D0,D6];omega) (L0 _));refine A7 (seqEpoch_at ho1 rfl ?_);refine A7 (wpAny_newTuple ?_ (by show vs.length<=_;rw[D6];omega));refine A7 (wpAny_newList ?_ (L0 _));refine W2 ?_;show wpAny _ A (PyProof.Rows.ksk_rest a (.ref f) false vs.toArray e1 (.ref ((s.heap.update a (Obj.mapSeq λ_=>(#[]:Array Value))).push (seqObj "tuple" vs.toArray 0)).objs.size)) P E _;rw[hq];refine PySem.W.ksk_restJ (kz:=kz) J ?_ zk h64 (λi v kk kA s' ev ek hJ=> ?_) (λi kA s' hJ=> ?_) λkA s' hJ hk=> ?_
 ·refine⟨H,0,Same.refl _,aw I2 ?_ (A4 _ (A4 _ ho1)) hk0 ha0⟩;rw[<-hq];exact B9 _ rfl
 ·obtain⟨H1,e,sm,J1⟩:=hJ;have hi:i < vs.length:=(B6.mp ev).1;have hix:i < xs.length:=by rw[hv.length];exact hi
  obtain⟨u,eu,ru⟩:=hv.get (B3 hix);rw[ev]at eu;cases eu;have hid:i < ds.length:=by rw[hdl];exact hi
  obtain⟨w,ew,en⟩:=hkz i _ kk (B3 hid) ek;refine E4 (df_8 ok hb J1 hA hr ru (hx i _ _ (B3 hix) (B3 hid)) ew en) (λz s2 hz=> ?_) λ_ _ z=>z;obtain⟨t,H2,rfl,sm2,J2⟩:=hz;have pk:=J2.pin (kS,seqObj "list" kA e) (B7 _ (.head _));have pa:=J2.pin (a,seqObj "list" #[] e1) (B7 _ (.tail _ (.head _)));refine⟨t,e,rfl,pk.1, ?_⟩;have J3:Inv X zd σ H2 s2:=J2.pins_of λp hp=>J2.pin p (B7 _ (.tail _ (.tail _ hp)));have sb:=Heap.SameBut.update s2.heap kS (Obj.mapSeq (·.push (.int kk t)));have cl:∀x c,X.env.cells.lookup x=some c->c≠kS:=λx c hc z=>by
   obtain⟨v,o,ho,hd⟩:=J2.cell x c hc;rw[z,pk.1]at ho;cases ho;exact pk.2.2.2.2 v hd
  have J4:Inv X zd σ H2 {s2 with heap:=s2.heap.update kS (Obj.mapSeq (·.push (.int kk t)))}:=J3.turned (t':=s2.toks) (λb o hb e=>(sb.2 b hb).trans e) pk.2.1 hkL (.inr z1) cl npk;exact⟨H2,_,sm.trans sm2,aw J4 (get?_update_seq pk.1 (·.push (.int kk t))) ((sb.2 a hka.symm).trans pa.1) pk.2.1 pa.2.1⟩
 ·obtain⟨H1,e,sm,J1⟩:=hJ;exact⟨e,(J1.pin (kS,seqObj "list" kA e) (B7 _ (.head _))).1⟩
 ·obtain⟨H1,e,sm,J1⟩:=hJ;have pa:=J1.pin (a,seqObj "list" #[] e1) (B7 _ (.tail _ (.head _)));exact ct_2 J1 hka z1 haz (λp hp=>⟨npk p hp,hap p hp⟩) hk zk h64 hv λs3 ps us pm srt hu hul J=>h s3 H1 ps us sm pa.2.1 pm srt hu hul (J _ rfl)
end
theorem al_8(p:Int×D):∀l:List (Int×D),(insK p l).Perm (p::l)
 | []=> .refl _
 |q::r=>by
  unfold insK
  split
  ·exact .refl _
  ·exact(List.Perm.cons q (al_8 p r)).trans (List.Perm.swap p q r)
theorem af_3:∀l:List (Int×D),(au_9 l).Perm l
 | []=> .refl _
 |p::r=>(al_8 p (au_9 r)).trans (.cons p (af_3 r))
theorem an_8(p:Int×D):∀{l:List (Int×D)},l.Pairwise (λa b=>a.1<=b.1)->(insK p l).Pairwise (λa b=>a.1<=b.1)
 | [],_=>by unfold insK;simp
 |q::r,h=>by
  rw[P3]at h;unfold insK
  split
  ·rename_i hl;refine P3.mpr ⟨λz hz=> ?_,P3.mpr h⟩;rcases C6.mp hz with rfl|hz
   ·exact hl
   ·exact ZD1 hl (h.1 z hz)
  ·rename_i hl;refine P3.mpr ⟨λz hz=> ?_,an_8 p h.2⟩;rcases C6.mp ((al_8 p r).mem_iff.mp hz) with rfl|hz
   ·omega
   ·exact h.1 z hz
theorem ah_9:∀l:List (Int×D),(au_9 l).Pairwise (λa b=>a.1<=b.1)
 | []=> .nil
 |p::r=>an_8 p (ah_9 r)
theorem av_3{α β:Type}{R:α->β->Prop}{a:α}:∀{A:List α} {B:List β},Paired R A B->a∈A->∃l1 l2 m1 m2 b,A=l1 ++ a::l2/\B=m1 ++ b::m2/\R a b/\Paired R (l1 ++ l2) (m1 ++ m2)
 |_,_,.cons (a:=x) (b:=y) (l₁:=A) (l₂:=B) r t,h=>by
  by_cases e:a=x
  ·subst e;exact⟨[],A,[],B,y,rfl,rfl,r,t⟩
  ·rcases C6.mp h with z|h
   ·exact absurd z e
   ·obtain⟨l1,l2,m1,m2,b,rfl,rfl,rb,pr⟩:=av_3 t h;exact⟨x::l1,l2,y::m1,m2,b,rfl,rfl,rb,.cons r pr⟩
theorem an_9{α β:Type}{R:Int×α->Int×β->Prop}(hR:∀p q,R p q->p.1=q.1):∀{A:List (Int×α)} {A0:List (Int×α)} {B0 B:List (Int×β)},Paired R A0 B0->A.Perm A0->B.Perm B0->(B0.map (·.1)).Nodup->A.Pairwise (λp q=>p.1<=q.1)->B.Pairwise (λp q=>p.1<=q.1)->Paired R A B
 | [],A0,B0,B,r,pa,pb,_,_,_=>by
  have:A0= []:=pa.symm.eq_nil;subst this;cases r;have:B= []:=pb.eq_nil;subst this;exact .nil
 |a::A,A0,B0,B,r,pa,pb,nd,sa,sb=>by
  obtain⟨l1,l2,m1,m2,b,rfl,rfl,rb,pr⟩:=av_3 r (pa.mem_iff.mp (.head _));have pa':A.Perm (l1 ++ l2):=(List.perm_cons a).mp (pa.trans W0);have bB:b∈B:=pb.mem_iff.mpr (by simp);rw[P3]at sa;cases B with
  |nil=>cases bB
  |cons c B=>
   rw[P3]at sb;have fb:∀z∈m1 ++ m2,a.1<=z.1:=λz hz=>by
    have:∀{A:List (Int×α)} {B:List (Int×β)},Paired R A B->∀z∈B,∃y∈A,y.1=z.1:=λ{A B} p=>by
     induction p with
     |nil=>intro z hz;cases hz
     |cons rr _ ih=>
      intro z hz;rcases C6.mp hz with rfl|hz
      ·exact⟨_,.head _,hR _ _ rr⟩
      ·obtain⟨y,hy,e⟩:=ih z hz;exact⟨y,.tail _ hy,e⟩
    obtain⟨y,hy,e⟩:=this pr z hz;rw[<-e];exact sa.1 y (pa'.mem_iff.mpr hy)
   have eb:a.1=b.1:=hR _ _ rb;have cb:c=b:=by
    have hc:c∈m1 ++ b::m2:=pb.mem_iff.mp (.head _);have hc':c=b\/c∈m1 ++ m2:=by
     rcases F5.mp hc with h|h
     ·exact .inr (J9 _ h)
     ·rcases C6.mp h with h|h
      ·exact .inl h
      ·exact .inr (B7 _ h)
    rcases hc' with h|h
    ·exact h
    ·exfalso;have h1:=fb c h;have h2:c.1<=b.1:=by
      rcases C6.mp bB with z|z
      ·rw[z];exact Int.le_refl _
      ·exact sb.1 b z
     have h3:c.1=b.1:=by omega
     have nd':((b::(m1 ++ m2)).map (·.1)).Nodup:=(List.Perm.map _ (W0 (a:=b) (l₁:=m1) (l₂:=m2))).nodup_iff.mp nd;rw[A8,N4]at nd';exact nd'.1 (by rw[<-h3];exact X5 h)
   subst cb;have pb':B.Perm (m1 ++ m2):=(List.perm_cons c).mp (pb.trans W0);have nd':((m1 ++ m2).map (·.1)).Nodup:=by
    have nd':((c::(m1 ++ m2)).map (·.1)).Nodup:=(List.Perm.map _ (W0 (a:=c) (l₁:=m1) (l₂:=m2))).nodup_iff.mp nd;rw[A8,N4]at nd';exact nd'.2
   exact .cons rb (an_9 hR pr pa' pb' nd' sa.2 sb.2)
theorem bc_4{F:AF}:∀{ds:List D} {ps:List (Int×D)},y_1 F ds=.ok ps->Paired (λd (p:Int×D)=>p.2=d/\∃w,F [d]=.ok w/\w.d=.int p.1) ds ps
 | [],_,e=>by cases e;exact .nil
 |d::ds,ps,e=>by
  unfold y_1 at e;cases ef:F [d] with
  |ok w=>
   rw[ef]at e;simp only[R.bind_ok]at e;cases ew:w.d with
   |int n=>
    rw[ew]at e;simp only at e;cases er:y_1 F ds with
    |ok r=>rw[er]at e;cases e;exact .cons ⟨rfl,w,ef,ew⟩ (bc_4 er)
    |ex x=>rw[er]at e;cases e
    |no=>rw[er]at e;cases e
   |_=>rw[ew]at e;cases e
  |ex x=>rw[ef]at e;cases e
  |no=>rw[ef]at e;cases e
def ct_3{k:Ae}{u:Value}(r:RelV v u)(q:RelV (kV k) u):v=kV k:=by
 cases k with
 |inl i=>
  obtain⟨t,rfl⟩:=q;cases v with
  |int j=>obtain⟨t',e⟩:=r;cases e;rfl
  |str x=>obtain⟨t',e⟩:=r;cases e
  |byt x=>obtain⟨t',e⟩:=r;cases e
  |flt x=>obtain⟨t',e⟩:=r;cases e
  |_=>cases r
 |inr x=>
  obtain⟨t,rfl⟩:=q;cases v with
  |str y=>obtain⟨t',e⟩:=r;cases e;rfl
  |int j=>obtain⟨t',e⟩:=r;cases e
  |byt x=>obtain⟨t',e⟩:=r;cases e
  |flt x=>obtain⟨t',e⟩:=r;cases e
  |_=>cases r
abbrev RelK(p:Int×Value)(q:Int×D):Prop:=p.1=q.1/\∃k0,q.2=kD k0/\RelV (kV k0) p.2
theorem zipR{F:AF}:∀{ks:List Ae} {vs:List Value} {ps:List (Int×D)},Vals (ks.map kV) vs->Paired (λd (p:Int×D)=>p.2=d/\∃w,F [d]=.ok w/\w.d=.int p.1) (ks.map kD) ps->Paired RelK ((ps.map (·.1)).zip vs) ps
 | [],_,_,r,q=>by cases r;cases q;exact .nil
 |k::ks,_,_,r,q=>by
  rw[A8]at r q;cases r with
  |cons h t=>
   cases q with
   |cons h2 t2=>exact .cons ⟨rfl,k,h2.1,h⟩ (zipR t t2)
theorem outR{G:Hp}:∀{ps:List (Int×Value)} {qs:List (Int×D)} {us:List V},Paired RelK ps qs->Vals us (ps.map Prod.snd)->HasL K G us (qs.map (·.2))
 | [],_,_,r,h=>by cases r;cases h;exact .nil
 |p::ps,_,_,r,h=>by
  rw[A8]at h;cases r with
  |cons r t=>
   cases h with
   |cons hv ht=>
    obtain⟨_,k0,e,rk⟩:=r;rw[A8,e];exact .cons (by rw[ct_3 hv rk];exact au_0 k0) (outR t ht)
theorem Paired.getL{α β:Type}{R:α->β->Prop}:∀{A:List α} {B:List β} {i:Nat} {a:α} {b:β},Paired R A B->A[i]? =some a->B[i]? =some b->R a b
 |_,_,_,_,_,.nil,e,_=>by simp at e
 |_,_,0,_,_,.cons r _,e,e'=>by
  simp at e e';subst e e';exact r
 |_,_,i + 1,_,_,.cons _ t,e,e'=>Paired.getL (i:=i) t (by simpa using e) (by simpa using e')
section
variable{X:Cx}{EX:Au}{pos:Pos}
def cj_1{zd:AE}{σ:Sg}{G H:Hp}{s:Shared}{Q:VK}{a f:Addr}{k k':Nat}{ps:List Str}{F:AF}{kvs:List (Ae×V)}{kds:List (Ae×D)}(hc:X.calm=true)(I:Inv X zd σ H s)(g:Same G H)(rd:Rd G a (.dK kvs))(hk:kvs.map (·.1)=kds.map (·.1))
  (ok:FnX X.prog X.w X.K X.mg X.base true k f fd ps (Ca X.K 1 F)) (hb:Binds X.K fd ps []) (hr:RoomC true k' X.A) (hkk:k + 1<=k') (o:Out X.K EX0 G H (av_0 F (kds.map λp=>kD p.1)) Q):
  wpAny (model X.prog X.w) X.A (call (.builtin "sorted") [.ref a] [(Str.ofString "key",.ref f)]) (EP X zd σ Q) X.xe s:=by
 unfold av_0 at o;cases eK:y_1 F (kds.map λp=>kD p.1) with
 |ex x=>rw[eK]at o;exact False.elim o
 |no=>rw[eK]at o;exact False.elim o
 |ok psD=>
  rw[eK]at o;simp only at o
  split at o
  ·rename_i hcond;obtain⟨h64,nd⟩:=hcond;have pK:=bc_4 eK;have hkl:kds.length=kvs.length:=by
    have:=K4 List.length hk;rw[A3,A3]at this;exact this.symm
   have hpl:psD.length=kvs.length:=by
    rw[<-W1 pK,A3];exact hkl
   have ekd:(kds.map λp=>kD p.1)=(kvs.map (·.1)).map kD:=by rw[hk,F8];rfl
   obtain⟨z,lo,ws,kv,dd⟩:=r_5 I.hok (Same.rdD g rd);obtain⟨ep,da⟩:=dd.dictAt;refine call_function_entry_kw kind_sorted plain_sorted entry_sorted (ksk_s1 _ _) ?_;unfold Builtin.«sorted»;refine A7 (m:=checkCount "sorted" 1 1 _) (E7 ?_);refine A7 (PySem.W.collect_kdl (A:=X.A.in1) (kdl_dict lo) (I.ok.hd hc) da (by rw[<-kv.length];exact z) λh1 tk1 zn kk le it=> ?_);have rv':Vals ((kvs.map (·.1)).map kV) zn.toList:=al_3 kv (by rw[Q5];exact it.1) λj v e=>it.2 j v (by rw[<-V3];exact e);have hal:zn.toList.length=kvs.length:=by rw[<-rv'.length,A3,A3]
   refine A7 (wpAny_newList ?_ (by rw[hal];exact z));have new:(h1.push (seqObj "list" zn.toList.toArray 0)).get? h1.objs.size=some (seqObj "list" zn.toList.toArray 0):=B9 _ rfl;have I0:Inv X zd σ H {s with heap:=h1,toks:=tk1}:=I.kept (t':=tk1) kk;have I1:Inv X zd σ H {s with heap:=h1.push (seqObj "list" zn.toList.toArray 0),toks:=tk1}:=I0.kept (t':=tk1) λb u e=>A4 _ e;have fr:H h1.objs.size=none:=I.hok.fresh le;refine A7 (W2 (wpAny_call_entry_kw slot_list_sort ⟨_,new,rfl⟩ entry_list_sort ?body (ksk_l1 _ _)))
   case body=>
    show wpAny (model X.prog X.w) X.A.in1.in1 (Builtin.«list.sort» ⟨[.ref h1.objs.size],[(Str.ofString "key",.ref f)]⟩) _ _ _;rw[ksk_t1];have hr':RoomC true k X.A.in1.in1:=⟨hr.hd,by have:=hr.dp;show X.A.depth + 3 * k + 5 < _;omega,by have:=hr.un;show X.A.units + 1 + 1 + 16 * k + 200 < _;omega⟩;refine cj_0 (kz:=psD.map (·.1)) (ds:=kds.map λp=>kD p.1) (F:=F) I1 new fr (C5 I.sz le) (λz=> ?_) (λx c e z=> ?_) (λp hp z=> ?_) (I0.nofs (B5 _)) rv' (λi v d e1 e2 G'=> ?_) (by rw[A3,hal];exact hkl) (λi d kx e1 e2=> ?_) (by rw[A3,hal];exact hpl) (by rw[hal,<-hpl];exact h64) ok hb rfl hr' λs' H' ps us sm na pm srt hu hul J=> ?_
    ·have:=I0.lt;rw[<-z]at this;exact absurd this (D7 _)
    ·obtain⟨v,hv⟩:=I0.cell x c e;have:=hv.lt;rw[z]at this;exact absurd this (D7 _)
    ·have:=A5 (I0.pin p hp).1;rw[z]at this;exact absurd this (D7 _)
    ·rw[ekd,A9]at e2;rw[A9]at e1;cases ek:(kvs.map (·.1))[i]? with
     |none=>rw[ek]at e1;cases e1
     |some k0=>rw[ek]at e1 e2;cases e1;cases e2;exact au_0 k0
    ·rw[A9]at e2;cases ep2:psD[i]? with
     |none=>rw[ep2]at e2;cases e2
     |some p=>
      rw[ep2]at e2;cases e2;exact(Paired.getL pK e1 ep2).2
    ·refine⟨_,rfl,E7 ⟨_,rfl,.ref h1.objs.size,_,J,rfl, ?_⟩⟩;rw[ekd]at pK;have pr:=an_9 (R:=RelK) (λp q r=>r.1) (zipR rv' pK) pm (af_3 psD) nd srt (ah_9 psD);refine(show WP X.K G H (.ow (.lst ((au_9 psD).map (·.2)))) Q from o) (.ref h1.objs.size) (λb=>b=h1.objs.size) G _ ⟨λb u e=> ?_,λb u e=> ?_,Same.refl _,λ_ n _=>n⟩ (λb e=> ?_) (Ow.list Bj rfl (outR pr hu))
     ·rw[Aq (Ej e fr)];exact sm b u e
     ·rw[Aq (Ej (g b u e) fr)];exact sm b u (g b u e)
     ·subst e;exact⟨fr,g.free fr,by rw[Bj];simp⟩
  ·exact False.elim o
def ct_4{o:Expr}{f:FE}{x:Str}{k k':Nat}{y:Str}{F:AF}{p p2 p3:Pos}(hc:X.calm=true)(hr:RoomC true k' X.A)(hm:X.mg "sorted" =none)(h:FnD X.prog X.w X.K X.mg X.base true x k [y] F)(he:ED X EX o f)(hk:k + 1<=k':=by decide)(hg:Gl X "sorted" :=by rfl)(hgx:Gl X x:=by rfl)(hdb:AG x:=by decide)
  (hs1:starEach [o] X.env=(false,eval o X.env)::starEach [] X.env:=by rfl) (hb1:backTo pos (starEach [o] X.env)=(false,eval o X.env)::backTo pos (starEach [] X.env):=by rfl) (hpl:(backTo pos (starEach [o] X.env)).any (·.1)=false:=by rfl)
  (bh:(backToKw pos (keywordEach [⟨some "key",.Name x p2,p3⟩] X.env)).all (·.1.isSome)=true:=by rfl) (hkw:(backToKw pos (keywordEach [⟨some "key",.Name x p2,p3⟩] X.env)).any (·.1.isNone)=false:=by rfl)
  (hnm:(backToKw pos (keywordEach [⟨some "key",.Name x p2,p3⟩] X.env)).filterMap (·.1)= [Str.ofString "key"]:=by rfl):
  ED X EX (.Call (.Name "sorted" p) [o] [⟨some "key",.Name x p2,p3⟩] pos) (av_1 F f):=by
 obtain⟨fa,fd,ok,hmx,kp,hb⟩:=h;intro zd s σ H Q I q;obtain⟨G,δ,g0,s0,q⟩:=q;have ta:cm_4 (tD X.K EX f) tNil σ H λvs H1=>∃(G1:Hp) (a:Addr) (kvs:List (Ae×V)) (kds:List (Ae×D)),vs= [.ref a]/\Same G1 H1/\Rd G1 a (.dK kvs)/\kvs.map (·.1)=kds.map (·.1)/\Out X.K (EX σ) G1 H1 (av_0 F (kds.map λp=>kD p.1)) Q:=by
  refine tD.seq g0 s0 q λw v G1 H1 _ st r o'=> ?_;revert o' r;cases w.d with
  |dic kds=>
   intro r o';cases r with
   |dic hr hk rr=>exact⟨G1,_,_,kds,rfl,st.gh,hr,hk,o'⟩
  |_=>intro _ o';exact False.elim o'
 refine M4 (ae_7 I hg hm PyProof.Rows.boot_sorted (callWith_kw (Ay ((i_7 he r_0 hs1) pos zd s σ H _ I ta) λus s1 ⟨vs,H1,I1,r1,G1,a,kvs,kds,ev,g1,rd,hkk,o'⟩=> ?_) hb1 hpl bh hkw));subst ev;obtain⟨u,rfl,ru⟩:=r1.one;cases ru;refine kws_cons (r_9 I1 hgx hmx (kws_nil ?_) hdb);rw[hnm];refine cj_1 hc I1 g1 rd hkk ok hb hr hk ?_;unfold av_0 at o'⊢;cases eK:y_1 F (kds.map λp=>kD p.1) with
 |ok psD=>
  rw[eK]at o';simp only at o'⊢
  split at o'
  ·rename_i hcond;rw[if_pos hcond];exact o'
  ·exact False.elim o'
 |ex x=>rw[eK]at o';exact False.elim o'
 |no=>rw[eK]at o';exact False.elim o'
end
def bw_2:Sl->Bool
 | .no=>true
 | .sh d=>Do d
 | .ow d=>Di (Tn.of d)
 | .tr t=>Di t
 | .lk d=>Di (Tn.of d)
 | .lt t=>Di t
def bw_3{s:Sl}{t:Tn}(h:bw_2 s=true)(e:s.own=some t):Di t=true:=by
 cases s with
 |no=>cases e
 |sh d=>cases e
 |_=>cases e;exact h
section
variable{X:Cx}{EX:Au}{e:Expr}{g:SE->FM}
end
def Iti(a:Addr)(ob:Obj)(kvs:List (Ae×V)):It:=⟨λi H=>H a=some (.frz ob (.dK kvs))/\i < kvs.length,λi H x H'=>∃p q,H p=none/\x=.ref p/\kvs[i]? =some q/\H'=upd H p (.tup [kV q.1,q.2]),λi H=>H a=some (.frz ob (.dK kvs))/\i=kvs.length⟩
theorem cc_4{α β:Type}{R:α->β->Prop}:∀{A:List α} {B:List β} {i:Nat} {a:α},Paired R A B->A[i]? =some a->∃b,B[i]? =some b/\R a b
 |_,_,0,_,.cons h _,e=>by cases e;exact⟨_,rfl,h⟩
 |_,_,i + 1,_,.cons _ r,e=>cc_4 (i:=i) r e
 |_,_,i,_,.nil,e=>by cases i <;> cases e
def av_4{P:Program}{w:World}{elts:List Expr}{x1:Nat}(a it:Addr)(ob:Obj)(kvs:List (Ae×V)){es:Array DictEntry}{ep:Nat}(hd:ob.data=.dict es ep):Turn P w K (.Tuple elts x1 pos) (Iti a ob kvs) [it] it (λi h=>∃ok ov,IsItemIter h it a i kvs.length ep ok ov) where
 mem:=by simp
 obj:=λi h st b hb=>by
  have e:b=it:=by simpa using hb
  subst e;obtain⟨_,_,q⟩:=st;exact⟨_,q,λv z=>by cases z⟩
 keep:=λi h h' st k=>by
  obtain⟨ok,ov,q⟩:=st;exact⟨ok,ov,k it (by simp) _ q⟩
 item:=by
  intro X hP hw hK hc i zd s σ H E I hf st hg;subst hP hw hK;obtain⟨hq,hlt⟩:=hg;obtain⟨ws,kv,da⟩:=ah_5 I.hok hq hd;have f:=hf it (by simp);obtain⟨p,hp⟩:∃p,kvs[i]? =some p:=⟨_,B3 hlt⟩;obtain⟨⟨k',x⟩,hx,e1,rx⟩:=cc_4 kv hp;simp only at e1 rx;subst e1;obtain⟨ok,ov,st⟩:=st;rw[kv.length]at st;refine wpAny_pyNext_items_item st da hx λkey h' hk ho ht hsz kk=> ?_;refine⟨_,rfl,wpAny_letOwnedTupleGo_items ho λh'' au sb=> ?_⟩;have ne:s.heap.objs.size≠it:=λz=>absurd (A5 st) (by rw[<-z];exact D7 _);refine⟨.ref s.heap.objs.size,upd H s.heap.objs.size (.tup [kV p.1,p.2]), ?_,rfl,⟨_,p,I.hok.fresh (B5 _),rfl,hp,rfl⟩,⟨key,x,by rw[kv.length];exact au⟩,λb hb=> ?_⟩
  ·exact Inv.pair (e:=it) (it:=it) (tk:=s.toks) (its:=[key,x]) I f f (λb o h1 _ q=>(sb.2 b h1).trans (kk b o h1 q)) ⟨_,au⟩ ⟨_,au⟩ ((sb.2 _ ne).trans ht) (.cons (cq_2 hk) (.cons rx .nil)) (by show 2<=sizeLine;decide)
  ·have e:b=it:=by simpa using hb
   subst e;rw[Aq (C9 (A5 st))];exact f.1
 done:=by
  intro X hP hw hK hc i zd s σ H E I hf st hg;subst hP hw hK;obtain⟨hq,hg⟩:=hg;subst hg;obtain⟨ws,kv,da⟩:=ah_5 I.hok hq hd;have f:=hf it (by simp);obtain⟨ok,ov,st⟩:=st;rw[kv.length]at st;exact wpAny_pyNext_items_end (I.ok.hd hc) st da (by simp) λh' eb=>⟨rfl,Inv.turned2 (tk:=s.toks) I f f λb o h1 _ q=>eb b o h1 q⟩
 self:=λA i s Q E st h=>by
  obtain⟨ok,ov,st⟩:=st;exact kcp_self st h
def iIm(H₀:Hp)(to:TE):TI:=λ σ H R=>to σ H λx H1=>∃a kvs,x=.ref a/\((H1 a=some (.dK kvs)/\∀ob,(∀o v,H₀ a≠some (.frz o v))->R (Iti a ob kvs) (upd H1 a (.frz ob (.dK kvs))))\/(∃ob,H1 a=some (.frz ob (.dK kvs))/\R (Iti a ob kvs) H1))
def ct_5{o:Expr}{to:TE}{elts:List Expr}{x1:Nat}{tp zg zf:Pos}(ho:PE X o to)(ae:attributeBase o "items" X.env (eval o X.env)=eval o X.env:=by rfl)(af:(zg.endLine ==zf.line)=true:=by rfl):PI X (.Tuple elts x1 tp) (.Call (.Attribute o "items" zg) [] [] zf) (iIm X.H₀ to):=by
 intro zd s σ H R I h;refine ZA2 ae af (Ay (ho zd s σ H _ I h) λv s1 ⟨x,H1,I1,r1,a,kvs,ex,q⟩=> ?_);subst ex;obtain rfl:v=Value.ref a:=r1;have rd:Rd H1 a (.dK kvs):=q.elim (λz=> .inl z.1) λ⟨ob,z,_⟩=> .inr ⟨ob,z⟩;obtain⟨z,lo,ws,kv,od,es,ep,g1,c1,c2,c3⟩:=r_5 I1.hok rd;have da:s1.heap.DictAt (Dw X.prog X.w) a ws ep:=⟨od,es,g1,c1,c2,c3⟩;have dd:s1.heap.DictOf (Dw X.prog X.w) a ws:=⟨od,es,ep,g1,c1,c2,c3⟩;refine⟨"dict","dict.items",O0,ZA4,PySem.F.type_dict_items,dd.typeIs,dd.mapOf.noDict,M9 rfl (PySem.evalArgs_none ?_)⟩;refine U6 ZA4 dd.typeIs PySem.F.entry_dict_items (PySem.F.args_dict_items_1 _) (meets_dict_items (Dw X.prog X.w) a lo) ⟨⟨ws,dd⟩, ?_⟩;refine wpAny_pyIter_items ⟨_,B9 _ rfl,rfl,rfl⟩ (da.push _) ?_;have gp:∀b o,s1.heap.get? b=some o->((s1.heap.push {cls:=.type "dict_items",data:=.fields #[.ref a]}).push {cls:=.type "dict_itemiterator",data:=.fields #[.none,.bool false,.ref a,.int 0 0,.int ws.length 0,.int ep 0,.none,.none]}).get? b=some o:=λb o e=>A4 _ (A4 _ e);have I2:=I1.kept (t':=s1.toks) gp;have tn0:IsItemIter ((s1.heap.push {cls:=.type "dict_items",data:=.fields #[.ref a]}).push {cls:=.type "dict_itemiterator",data:=.fields #[.none,.bool false,.ref a,.int 0 0,.int ws.length 0,.int ep 0,.none,.none]}) (s1.heap.push {cls:=.type "dict_items",data:=.fields #[.ref a]}).objs.size a 0 kvs.length ep .none .none:=by
  rw[kv.length];exact B9 _ rfl
 have le:s1.heap.objs.size<=(s1.heap.push {cls:=.type "dict_items",data:=.fields #[.ref a]}).objs.size:=by
  have:=A5 (B9 s1.heap (o:={cls:=.type "dict_items",data:=.fields #[.ref a]}) rfl);exact Q0 this
 have free:=I1.hok.fresh le;have fr:∀H2:Hp,H2 (s1.heap.push {cls:=.type "dict_items",data:=.fields #[.ref a]}).objs.size=none->∀b∈ [(s1.heap.push {cls:=.type "dict_items",data:=.fields #[.ref a]}).objs.size],Fc X zd H2 b:=λH2 hn b hb=>by
  have e:b=(s1.heap.push {cls:=.type "dict_items",data:=.fields #[.ref a]}).objs.size:=by simpa using hb
  subst e;exact I1.fpOk le hn
 rcases q with⟨hH,q⟩|⟨ob,hH,q⟩
 ·have nf:∀o v,X.H₀ a≠some (.frz o v):=λo v e=>by
   have:=I1.base.frzs a o v e;rw[hH]at this;cases this
  have ok:ObjOk X.prog X.w (upd H1 a (.frz od (.dK kvs))) ((s1.heap.push {cls:=.type "dict_items",data:=.fields #[.ref a]}).push {cls:=.type "dict_itemiterator",data:=.fields #[.none,.bool false,.ref a,.int 0 0,.int ws.length 0,.int ep 0,.none,.none]}) a (.frz od (.dK kvs)):=⟨gp _ _ g1,z,lo,ws,kv,od,es,ep,gp _ _ g1,c1,c2,c3⟩;have I3:=Inv.retag I2 hH (λ_ z=>by cases z) (λ_ z=>by cases z) (λ_ z=>by cases z) nf ok;refine⟨_,_,_,Iti a od kvs,_,rfl,I3,av_4 a _ od kvs c2,⟨_,_,tn0⟩,fr _ ?_,q od nf⟩;rw[Aq (λz=>by rw[z,hH]at free;cases free)];exact free
 ·obtain⟨g2,_⟩:=(show ObjOk X.prog X.w H1 s1.heap a (.frz ob (.dK kvs)) from I1.hok a _ hH);rw[g1]at g2;cases g2;exact⟨_,_,_,Iti a od kvs,H1,rfl,I2,av_4 a _ od kvs c2,⟨_,_,tn0⟩,fr _ free,q⟩
section
variable{K:Frag}{EX:Au}{a:Addr}{u u0:HO}{F F' G H:Hp}
variable{H0:HB}{G0:Hp}{σ:Sg}{Δ:SE}{O:OS}{kvs:List (Ae×V)}{ob:Obj}
end
def dq_0:D->R (List D)
 | .dic kds=> .ok (kds.map λp=> .tup [kD p.1,p.2])
 |_=> .no
def aa_8(f:FE):FI:=λ δ=>(f δ).bind λw=>dq_0 w.d
def bc_5{G:Hp}{a:Addr}{ob:Obj}{kvs:List (Ae×V)}{kds:List (Ae×D)}(ga:G a=some (.frz ob (.dK kvs)))(hk:kvs.map (·.1)=kds.map (·.1))(r:HasL K G (kvs.map (·.2)) (kds.map (·.2))):ItD K G (Iti a ob kvs) (kds.map λp=> .tup [kD p.1,p.2]):=λG' H' s1 s2 i=>by
 have gH:H' a=some (.frz ob (.dK kvs)):=s2 _ _ (s1 _ _ ga);have zk:kds.length=kvs.length:=by
  have:=K4 List.length hk;rw[A3,A3]at this;exact this.symm
 refine⟨λd e=>⟨⟨gH, ?_⟩,λx H'' y=> ?_⟩,λe=>⟨gH,by rw[A3]at e;omega⟩⟩
 ·have:=(B6.mp e).1;rw[A3]at this;omega
 ·obtain⟨p,q,hp,rfl,hq,rfl⟩:=y;rw[A9]at e;obtain⟨q',hq',rfl⟩:=F9.mp e;have e1:(kvs.map (·.1))[i]? =some q.1:=by rw[A9,hq];rfl
  have e2:(kds.map (·.1))[i]? =some q'.1:=by rw[A9,hq'];rfl
  rw[hk,e2]at e1;have e3:q'.1=q.1:=J7 e1;obtain⟨v,e4,hv⟩:=r.get (show(kds.map (·.2))[i]? =some q'.2 by rw[A9,hq'];rfl);rw[A9,hq]at e4;have e5:q.2=v:=J7 e4;subst e5;rw[e3];exact⟨_,Step.new s2 hp _,.tup (SqT.of Bj) (.cons (au_0 _) (.cons (hv.mono (s1.trans (h_9 (s2.free hp) _))) .nil))⟩
def ct_6{f:FE}{δ:DE}{ds:List D}(h:aa_8 f δ=.ok ds):∃w kds,f δ=.ok w/\w.d=.dic kds/\ds=kds.map λp=> .tup [kD p.1,p.2]:=by
 unfold aa_8 at h;cases e:f δ with
 |ok w=>
  rw[e]at h;simp only[R.bind_ok]at h;cases e2:w.d with
  |dic kds=>rw[e2]at h;cases h;exact⟨w,kds,rfl,e2,rfl⟩
  |_=>rw[e2]at h;cases h
 |ex x=>rw[e]at h;cases h
 |no=>rw[e]at h;cases h
section
variable{X:Cx}{EX:Au}{pos:Pos}{o:Expr}{elts:List Expr}{x1:Nat}{tp zg zf:Pos}
def bc_6{f0:FE}(ho:ED X Fy o f0)(ae:attributeBase o "items" X.env (eval o X.env)=eval o X.env:=by rfl)(af:(zg.endLine ==zf.line)=true:=by rfl):Fd X z_0 (.Tuple elts x1 tp) (.Call (.Attribute o "items" zg) [] [] zf) (aa_8 f0):=cr_7 λzd s σ G H δ ds I g0 h0 ek=>by
 obtain⟨w,kds,ew,ed,rfl⟩:=ct_6 ek;have tq:tD X.K Fy f0 σ H λx H1=>∃a kvs,x=.ref a/\((H1 a=some (.dK kvs)/\∀ob,(∀o v,X.H₀ a≠some (.frz o v))->∃G2,ZD X G H G2 (upd H1 a (.frz ob (.dK kvs)))/\ItD X.K G2 (Iti a ob kvs) (kds.map λp=> .tup [kD p.1,p.2]))\/(∃ob,H1 a=some (.frz ob (.dK kvs))/\∃G2,ZD X G H G2 H1/\ItD X.K G2 (Iti a ob kvs) (kds.map λp=> .tup [kD p.1,p.2]))):=by
  refine⟨G,δ,g0,h0, ?_⟩;rw[ew];refine WP.intro λv G1 H1 st r=> ?_;rw[ed]at r;cases r with
  |dic hr hk' rr=>
   rename_i a kvs;refine⟨a,kvs,rfl, ?_⟩;rcases hr with hr|⟨ob,hr⟩
   ·exact .inl ⟨st.gh _ _ hr,λob nf=>⟨upd G1 a (.frz ob (.dK kvs)),⟨a,ob,kvs,G1,H1,st,.inr ⟨hr,nf,rfl,rfl⟩⟩,bc_5 Bj hk' (HasL.tag hr (.inl rfl) (.inr ⟨ob,rfl⟩) rr)⟩⟩
   ·exact .inr ⟨ob,st.gh _ _ hr,G1,⟨a,ob,kvs,G1,H1,st,.inl ⟨rfl,rfl⟩⟩,bc_5 hr hk' rr⟩
 refine Ay (ct_5 (elts:=elts) (x1:=x1) (tp:=tp) ho ae af zd s σ H (λJ H2=>∃G2,ZD X G H G2 H2/\ItD X.K G2 J (kds.map λp:Ae×L3.D=> .tup [kD p.1,p.2])) I tq) λv s1 h1=>Ay h1 λitv s2 h2=> ?_;obtain⟨it,fp,tn,J,H2,e,I2,T,t0,fpk,G2,z,itd⟩:=h2;exact⟨it,fp,tn,J,H2,G2,e,I2,Turn.z T,t0,fpk,z,itd⟩
end
end L3
namespace L3
open PySem PySem.W PyProof.Rows
variable{K:Frag}{fd:FuncData}{mg:AB}{us:List Value}{base:Heap}{H:Hp}{X:Cx}{pos:Pos}{v:V}
section
variable{N:Nat}{key:Nat->Int}{cmp:Nat->Nat->(Bool->Shared->Prop)->Shared->Prop}{s:Shared}
structure GoodP(N:Nat)(p:Array Nat):Prop where
 size:p.size=N
 perm:p.toList.Perm (List.range N)
abbrev kp(key:Nat->Int)(p:Array Nat)(i:Nat):Int:=key (p.getD i 0)
def dv_6(N:Nat)(key:Nat->Int)(cmp:Nat->Nat->(Bool->Shared->Prop)->Shared->Prop)(s:Shared):Prop:=(∀i j,i < N->j < N->key i=key j->i=j)/\∀i j C,i < N->j < N->i≠j->C (decide (key i < key j)) s->cmp i j C s
variable(T:dv_6 N key cmp s)
include T
end
end L3
namespace L3
open PySem PySem.W PySem.Spec PyProof.Rows
variable{K:Frag}{fd:FuncData}{mg:AB}{us:List Value}{base:Heap}{H:Hp}{X:Cx}{pos:Pos}{v:V}
section
variable{prog:Program}{w:World}{A:Around}{E:AA}{s:Shared}{vs fs:List Value}{kz:List Int}
end
end L3
namespace L3
open PySem PySem.W PySem.Spec PyProof.Rows L2
variable{K:Frag}{fd:FuncData}{mg:AB}{us:List Value}{base:Heap}{H:Hp}{X:Cx}{pos:Pos}{v:V}
section
variable{X:Cx}{zd:AE}{σ:Sg}{H:Hp}{s:Shared}
end
end L3
namespace L3
open PySem PySem.Spec PyProof.Rows L2
variable{K:Frag}{fd:FuncData}{mg:AB}{us:List Value}{base:Heap}{H:Hp}{X:Cx}{pos:Pos}{v:V}
section
variable{K:Frag}{G:Hp}{S:AS}
end
section
variable{X:Cx}{EX:Au}{e e1 e2:Expr}{g g2:SE->FM}{pos:Pos}
end
def Sl.dct:Sl->Option (List (Ae×D)×Bool)
 | .ow (.dic kds)=>some (kds,false)
 | .lt (.dic zm)=>(unS zm).map λkds=>(kds,true)
 |_=>none
def Sl.mkD(b:Bool)(kds:List (Ae×D)):Sl:=if b then .lt (Tn.of (.dic kds)) else .ow (.dic kds)
def Sl.dct_own{s:Sl}{kds:List (Ae×D)}{b:Bool}(e:s.dct=some (kds,b)):s.own=some (Tn.of (.dic kds))/\(b=true->s=.lt (Tn.of (.dic kds))):=by
 cases s with
 |ow d=>
  cases d with
  |dic k=>cases e;exact⟨rfl,λz=>by cases z⟩
  |_=>cases e
 |lt t=>
  cases t with
  |dic zm=>
   obtain⟨k,e1,e2⟩:=F9.mp e;cases e2;rw[aa_3 e1];exact⟨rfl,λ_=>rfl⟩
  |_=>cases e
 |_=>cases e
def Sl.mkD_own(b:Bool)(kds:List (Ae×D)):(Sl.mkD b kds).own=some (Tn.of (.dic kds)):=by cases b <;> rfl
def Sl.mkD_lk(b:Bool)(kds:List (Ae×D)):∀d,Sl.mkD b kds≠ .lk d:=by intro d;cases b <;> (intro z;cases z)
def Ev.mkD_lt{H0:HB}{G0 G H:Hp}{σ:Sg}{Δ:SE}{O:OS}(E:Ev K H0 G0 G H σ Δ O){i:Nat}{s:Sl}{kds:List (Ae×D)}{b:Bool}(e:Δ[i]? =some s)(q:s.dct=some (kds,b))(aa:List (Ae×D)):∀d,Sl.mkD b aa=.lt d->σ[i]? =some (some (.ref (H0.b i))):=by
 intro d z;cases b with
 |false=>cases z
 |true=>
  have:=(Sl.dct_own q).2 rfl;subst this;exact E.lt i _ e
def Ev.two{H0:HB}{G0 G H G' H':Hp}{σ:Sg}{Δ:SE}{A:OS}(E:Ev K H0 G0 G H σ Δ A){i j:Nat}(hij:i≠j){v v2:V}{z z2:Sl}{t t2:Tn}{S S2:AS}(zo:z.own=some t)(zl:∀d,z≠ .lk d)(zt:∀d,z=.lt d->σ[i]? =some (some (.ref (H0.b i))))(zo2:z2.own=some t2)(zl2:∀d,z2≠ .lk d)(zt2:∀d,z2=.lt d->σ[j]? =some (some (.ref (H0.b j))))
  (ms:MStep2 (λa=>A i a\/A j a) G H G' H') (s:σ[i]? =some (some v)) (s2:σ[j]? =some (some v2)) (fr:∀a,S a->((A i a\/A j a)\/H a=none)/\G' a=none/\H' a≠none) (fr2:∀a,S2 a->((A i a\/A j a)\/H a=none)/\G' a=none/\H' a≠none) (dj:∀a,S a->S2 a->False) (w:Ow K G' H' v t S) (w2:Ow K G' H' v2 t2 S2):
  Ev K H0 G0 G' H' σ ((Δ.set i z).set j z2) (x_5 (x_5 A i S) j S2):=by
 have h0:∀a,(A i a\/A j a)->H0.h a=none:=λa h=>h.elim (λh=>(E.out i a h).2.1) λh=>(E.out j a h).2.1;have st:Step G0 H0.h G' H':=⟨λb o q=>ms.hh b o (λhb=>by rw[h0 b hb]at q;cases q) (E.st.hh b o q),ms.gh,E.st.gg.trans ms.gg,
  λb n z=>ms.nw b (λhb=>z (h0 b hb)) (E.st.nw b n z) λq=>z (E.st.hh.free q)⟩
 have cs:∀(k:Nat) (x:Sl),((Δ.set i z).set j z2)[k]? =some x->(k=j/\x=z2)\/(k=i/\k≠j/\x=z)\/(k≠i/\k≠j/\Δ[k]? =some x):=λk x e=>by
  rcases Eu e with⟨rfl,q⟩|⟨nn,q⟩
  ·exact .inl ⟨rfl,q⟩
  ·rcases Eu q with⟨e2,q2⟩|⟨nn2,q2⟩
   ·exact .inr (.inl ⟨e2.symm,Ne.symm nn,q2⟩)
   ·exact .inr (.inr ⟨Ne.symm nn2,Ne.symm nn,q2⟩)
 have sa:∀k,k≠i->k≠j->x_5 (x_5 A i S) j S2 k=A k:=λk h1 h2=>by rw[Ge h2,Ge h1]
 have si:x_5 (x_5 A i S) j S2 i=S:=by rw[Ge hij,f_5]
 have sj:x_5 (x_5 A i S) j S2 j=S2:=f_5;have keep:∀k a,k≠i->k≠j->A k a->¬(A i a\/A j a):=λk a h1 h2 hk h=>h.elim (λh=>h1 (E.dj k i a hk h)) λh=>h2 (E.dj k j a hk h);have nS:∀k a,k≠i->k≠j->A k a->¬S a/\¬S2 a:=λk a h1 h2 hk=>by
  refine⟨λhs=> ?_,λhs=> ?_⟩
  ·rcases(fr a hs).1 with q|q
   ·exact keep k a h1 h2 hk q
   ·exact(E.out k a hk).2.2 q
  ·rcases(fr2 a hs).1 with q|q
   ·exact keep k a h1 h2 hk q
   ·exact(E.out k a hk).2.2 q
 refine⟨st,by rw[F3,F3];exact E.len,λk d e=> ?_,λk z' d e zo'=> ?_,λk a ha=> ?_,λk k' a h1 h2=> ?_,λk d e=> ?_,λk d e=> ?_⟩
 ·rcases cs k _ e with⟨_,q⟩|⟨_,_,q⟩|⟨_,_,q⟩
  ·subst q;cases zo2
  ·subst q;cases zo
  ·obtain⟨v',e1,r'⟩:=E.sh k d q;exact⟨v',e1,r'.mono ms.gg⟩
 ·rcases cs k _ e with⟨rfl,q⟩|⟨rfl,_,q⟩|⟨h1,h2,q⟩
  ·subst q;rw[zo2]at zo';cases zo';rw[sj];exact⟨v2,s2,w2⟩
  ·subst q;rw[zo]at zo';cases zo';rw[si];exact⟨v,s,w⟩
  ·obtain⟨v',e1,x⟩:=E.ow k z' d q zo';rw[sa k h1 h2];exact⟨v',e1,x.mono ms.gg (λb o hb q=>ms.hh b o (keep k b h1 h2 hb) q) λ_ q=>q⟩
 ·by_cases e2:k=j
  ·subst e2;rw[sj]at ha;obtain⟨a1,a2,a3⟩:=fr2 a ha;exact⟨a2,a1.elim (h0 a) λq=>E.st.hh.free q,a3⟩
  ·by_cases e1:k=i
   ·subst e1;rw[si]at ha;obtain⟨a1,a2,a3⟩:=fr a ha;exact⟨a2,a1.elim (h0 a) λq=>E.st.hh.free q,a3⟩
   ·rw[sa k e1 e2]at ha;obtain⟨h1,h2,h3⟩:=E.out k a ha;have hn:=keep k a e1 e2 ha;refine⟨ms.nw a hn h1 h3,h2,λq=> ?_⟩;cases e:H a with
    |none=>exact h3 e
    |some o=>rw[ms.hh a o hn e]at q;cases q
 ·by_cases e2:k=j
  ·subst e2;rw[sj]at h1
   by_cases e3:k'=k
   ·exact e3.symm
   ·by_cases e4:k'=i
    ·subst e4;rw[si]at h2;exact(dj a h2 h1).elim
    ·rw[sa k' e4 e3]at h2;exact absurd h1 (nS k' a e4 e3 h2).2
  ·by_cases e1:k=i
   ·subst e1;rw[si]at h1
    by_cases e3:k'=j
    ·subst e3;rw[sj]at h2;exact(dj a h1 h2).elim
    ·by_cases e4:k'=k
     ·exact e4.symm
     ·rw[sa k' e4 e3]at h2;exact absurd h1 (nS k' a e4 e3 h2).1
   ·rw[sa k e1 e2]at h1
    by_cases e3:k'=j
    ·subst e3;rw[sj]at h2;exact absurd h2 (nS k a e1 e2 h1).2
    ·by_cases e4:k'=i
     ·subst e4;rw[si]at h2;exact absurd h2 (nS k a e1 e2 h1).1
     ·rw[sa k' e4 e3]at h2;exact E.dj k k' a h1 h2
 ·rcases cs k _ e with⟨_,q⟩|⟨_,_,q⟩|⟨_,_,q⟩
  ·exact absurd q.symm (zl2 d)
  ·exact absurd q.symm (zl d)
  ·exact E.lk k d q
 ·rcases cs k _ e with⟨rfl,q⟩|⟨rfl,_,q⟩|⟨_,_,q⟩
  ·exact zt2 d q.symm
  ·exact zt d q.symm
  ·exact E.lt k d q
inductive RR2 where
 |ok (d:D) (t:Tn) (kds:List (Ae×D))|ex (x:Xn) (t:Tn) (kds:List (Ae×D))|no
def aq_9(n:Nat)(t:Tn)(kds:List (Ae×D))(ds:List D):SE:=.lt t:: .lt (Tn.of (.dic kds))::(ds.map Sl.sh ++ List.replicate (n - (ds.length + 2)) .no)
def av_5:Fl->RR2
 | .nx (.lt t':: .lt (.dic zm)::_)=>(match unS zm with|some kds=> .ok .non t' kds|none=> .no)
 | .rv d (.lt t':: .lt (.dic zm)::_)=>(match unS zm with|some kds=> .ok d t' kds|none=> .no)
 | .ex x (.lt t':: .lt (.dic zm)::_)=>(match unS zm with|some kds=> .ex x t' kds|none=> .no)
 |_=> .no
def av_6(n:Nat)(g:FS)(t:Tn)(kds:List (Ae×D))(ds:List D):RR2:=av_5 (g (aq_9 n t kds ds))
def spR2(K:Frag)(n:Nat)(F:Tn->List (Ae×D)->List D->RR2):Sp:=λvs H Q E=>∃a0 a1 vs0,vs=.ref a0:: .ref a1::vs0/\vs0.length=n/\∃G ds t kds S0 S1,Same G H/\HasL K G vs0 ds/\Ow K G H (.ref a0) t S0/\Ow K G H (.ref a1) (Tn.of (.dic kds)) S1/\(∀a,S0 a\/S1 a->G a=none/\H a≠none)/\(∀a,S0 a->S1 a->False)/\
 match F t kds ds with
 | .ok d t' aa=>∀v G' H' T0 T1,MStep2 (λa=>S0 a\/S1 a) G H G' H'->(∀a,T0 a\/T1 a->((S0 a\/S1 a)\/H a=none)/\G' a=none/\H' a≠none)->(∀a,T0 a->T1 a->False)->Ow K G' H' (.ref a0) t' T0->Ow K G' H' (.ref a1) (Tn.of (.dic aa)) T1->Has K G' v d->Q v H'
 | .ex x t' aa=>∀cls dx G' H' T0 T1,MStep2 (λa=>S0 a\/S1 a) G H G' H'->(∀a,T0 a\/T1 a->((S0 a\/S1 a)\/H a=none)/\G' a=none/\H' a≠none)->(∀a,T0 a->T1 a->False)->Ow K G' H' (.ref a0) t' T0->Ow K G' H' (.ref a1) (Tn.of (.dic aa)) T1->ExcAt K G' cls dx x->E cls dx H'
 | .no=>False
open Classical in
def dv_7{c:Bool}{P:Program}{w:World}{x qual:Str}{st:Stmt}{f:Addr}{N ps:List Str}{k n:Nat}{g:FS}(F:Fun K x qual st f fd)(S:FnScope N ps (Cc st))(hn:ps.length=n + 2)(hle:ps.length<=N.length)
  (zj:∀(zp:Value) (A:Around) (outer:List Env) (s:Shared) (H:Hp) (E:XK),RoomC c k (A.deeper (envOfC qual (Cc st) s.heap.objs.size f zp))->
   BD (Gc c P w K mg base N qual (Cc st) f zp A outer s H E) (λ_=>EXof K E) (Ey st) g):FnX P w K mg base c (k + 1) f fd ps (spR2 K n (av_6 N.length g)):=by
 refine Fun.okX F S (λvs H Q E h=> ?_) λzp A outer s H vs Q E hr h=>⟨_,zj zp A outer s H E hr, ?_⟩
 ·obtain⟨a0,a1,vs0,rfl,hl,_⟩:=h;rw[B4,B4,hl,hn]
 obtain⟨a0,a1,vs0,rfl,hl,G,ds,t,kds,S0,S1,g0,r,tw,tw1,out,dj,q⟩:=h;have i0:Same (λb=>if S0 b\/S1 b then none else H b) H:=λb o e=>by
  simp only at e
  split at e
  ·cases e
  ·exact e
 have E0:=al_4 (N:=N) (b:=λi=>if i=0 then a0 else a1) (v0:=.ref a0) (vs:=.non::vs0) (ds:=.non::ds) g0 i0 (.cons .non r) (by rw[B4,hl];omega);have hs:(L2.start N (.ref a0:: .non::vs0))[0]? =some (some (.ref a0)):=rfl;have E1:=E0.putO (i:=0) (z:=.lt t) (v:=.ref a0) (S:=S0) (λa ha=>⟨by simp only;rw[if_pos (.inl ha)],(out a (.inl ha)).1,(out a (.inl ha)).2⟩) rfl (λ_ z=>by cases z) tw (λj a ha=>ha.elim) (λ_ _=>rfl);rw[t_0 hs]at E1;have E2:=E1.putO (i:=1) (z:=.lt (Tn.of (.dic kds))) (v:=.ref a1) (S:=S1) (λa ha=>⟨by simp only;rw[if_pos (.inr ha)],(out a (.inr ha)).1,(out a (.inr ha)).2⟩) rfl (λ_ z=>by cases z) tw1 (λj a ha h1=>by
  by_cases z:j=0
  ·subst z;rw[f_5]at ha;exact dj a ha h1
  ·rw[Ge z]at ha;exact ha) (λ_ _=>rfl)
 have es:(L2.start N (.ref a0:: .non::vs0)).set 1 (some (.ref a1))=L2.start N (.ref a0:: .ref a1::vs0):=rfl;rw[es]at E2;refine⟨⟨λb=>if S0 b\/S1 b then none else H b,λi=>if i=0 then a0 else a1⟩,G,G,_,_,E2, ?_⟩;have e2:((Sl.no::((D.non::ds).map Sl.sh ++ List.replicate (N.length - ((D.non::ds).length + 1)) .no)).set 0 (.lt t)).set 1 (.lt (Tn.of (.dic kds)))=aq_9 N.length t kds ds:=rfl;rw[e2];have fin:∀{Δ:SE} {t':Tn} {zm:List (Ae×Tn)} {aa:List (Ae×D)} {σ:Sg} {G' H':Hp} {O:OS},unS zm=some aa->Ev K ⟨λb=>if S0 b\/S1 b then none else H b,λi=>if i=0 then a0 else a1⟩ G G' H' σ (.lt t':: .lt (.dic zm)::Δ) O->MStep2 (λa=>S0 a\/S1 a) G H G' H'/\(∀a,O 0 a\/O 1 a->((S0 a\/S1 a)\/H a=none)/\G' a=none/\H' a≠none)/\(∀a,O 0 a->O 1 a->False)/\Ow K G' H' (.ref a0) t' (O 0)/\Ow K G' H' (.ref a1) (Tn.of (.dic aa)) (O 1):=λ{Δ t' zm aa σ G' H' O} eu E'=>by
  obtain⟨v,s1,t3⟩:=E'.ow 0 (.lt t') t' rfl rfl;have s2:=E'.lt 0 t' rfl;rw[s1]at s2;cases s2;obtain⟨v',s1',t3'⟩:=E'.ow 1 (.lt (.dic zm)) (.dic zm) rfl rfl;have s2':=E'.lt 1 (.dic zm) rfl;rw[s1']at s2';cases s2';rw[aa_3 eu]at t3';refine⟨⟨λb o nb z=>E'.st.hh b o (by simp only;rw[if_neg nb];exact z),E'.st.gh,E'.st.gg,λb nb z1 z2=>E'.st.nw b z1 (by simp only;rw[if_neg nb];exact z2)⟩,λa ha=> ?_,λa h1 h2=>(by cases E'.dj 0 1 a h1 h2),t3,t3'⟩;have:∃i,O i a:=ha.elim (λh=>⟨0,h⟩) λh=>⟨1,h⟩;obtain⟨i,hi⟩:=this;obtain⟨k1,k2,k3⟩:=E'.out i a hi;refine⟨?_,k1,k3⟩;simp only at k2
  split at k2
  ·rename_i z;exact .inl z
  ·exact .inr k2
 unfold av_6 at q;have sp:∀{Δ:SE},(∃t' zm Δ',Δ=.lt t':: .lt (.dic zm)::Δ')\/∀(d:D) (x:Xn),av_5 (.nx Δ)=.no/\av_5 (.rv d Δ)=.no/\av_5 (.ex x Δ)=.no:=λ{Δ}=>by
  cases Δ with
  |nil=>exact .inr λ_ _=>⟨rfl,rfl,rfl⟩
  |cons s Δ=>
   cases s with
   |lt t'=>
    cases Δ with
    |nil=>exact .inr λ_ _=>⟨rfl,rfl,rfl⟩
    |cons s2 Δ=>
     cases s2 with
     |lt u=>
      cases u with
      |dic zm=>exact .inl ⟨t',zm,Δ,rfl⟩
      |_=>exact .inr λ_ _=>⟨rfl,rfl,rfl⟩
     |_=>exact .inr λ_ _=>⟨rfl,rfl,rfl⟩
   |_=>exact .inr λ_ _=>⟨rfl,rfl,rfl⟩
 cases e:g (aq_9 N.length t kds ds) with
 |nx Δ=>
  rw[e]at q;rcases sp (Δ:=Δ) with⟨t',zm,Δ',rfl⟩|h
  ·simp only[av_5]at q;cases eu:unS zm with
   |none=>simp only[eu]at q
   |some aa=>
    simp only[eu]at q;intro σ G' H' O E' _;obtain⟨ms,fr,dd,tt,tt1⟩:=fin eu E';exact q .non G' H' _ _ ms fr dd tt tt1 .non
  ·rw[(h .non ⟨"",[],[]⟩).1]at q;exact q.elim
 |rv d Δ=>
  rw[e]at q;rcases sp (Δ:=Δ) with⟨t',zm,Δ',rfl⟩|h
  ·simp only[av_5]at q;cases eu:unS zm with
   |none=>simp only[eu]at q
   |some aa=>
    simp only[eu]at q;intro v σ G' H' O E' _ rv;obtain⟨ms,fr,dd,tt,tt1⟩:=fin eu E';exact q v G' H' _ _ ms fr dd tt tt1 rv
  ·rw[(h d ⟨"",[],[]⟩).2.1]at q;exact q.elim
 |ex x Δ=>
  rw[e]at q;rcases sp (Δ:=Δ) with⟨t',zm,Δ',rfl⟩|h
  ·simp only[av_5]at q;cases eu:unS zm with
   |none=>simp only[eu]at q
   |some aa=>
    simp only[eu]at q;intro σ G' H' O E' _ cls dx G2 H2 st2 ea;obtain⟨ms,fr,dd,tt,tt1⟩:=fin eu (E'.grow st2);exact q cls dx G2 H2 _ _ ms fr dd tt tt1 ea
  ·rw[(h .non x).2.2]at q;exact q.elim
 |rt w=>rw[e]at q;exact q.elim
 |bk Δ=>rw[e]at q;exact q.elim
 |ct Δ=>rw[e]at q;exact q.elim
 |no=>rw[e]at q;exact q.elim
def cc_5(P:Program)(w:World)(K:Frag)(mg:AB)(base:Heap)(c:Bool)(x:Str)(k n:Nat)(ps:List Str)(F:Tn->List (Ae×D)->List D->RR2):Prop:=
 ∃f fd,FnX P w K mg base c k f fd ps (spR2 K n F)/\mg x=some (.ref f)/\keepIn K (.ref f)=true/\Binds K fd ps []
def dq_1{c:Bool}{P:Program}{w:World}{x qual:Str}{st:Stmt}{f:Addr}{N ps:List Str}{k n:Nat}{g:FS}(F:Fun K x qual st f fd)(hn:ps.length=n + 2)(hle:ps.length<=N.length)
  (zj:HBd c P w K mg base N qual st f k g) (S:FnScope N ps (Cc st):=by exact⟨rfl,rfl,rfl,by decide +kernel,rfl,by decide +kernel,by decide +kernel⟩):FnX P w K mg base c (k + 1) f fd ps (spR2 K n (av_6 N.length g)):=
 dv_7 F S hn hle λzp A outer s H E hr=>zj rfl hr (RoomC.units hr) S.nd bf_8
def ct_8{P:Program}{w:World}{cc:Bool}{k n:Nat}{ps:List Str}{st:Stmt}{Fn:Tn->List (Ae×D)->List D->RR2}{x:Str}{h:Heap}(X:K.In h)(G:h.Ns mainGlobals mg)(W:FnTop K x st)(ok:∀{f:Addr} {fd:FuncData},Fun K x x st f fd->FnX P w K mg base cc k f fd ps (spR2 K n Fn)/\Binds K fd ps []):cc_5 P w K mg base cc x k n ps Fn:=by
 obtain⟨f,a,fd,F⟩:=W;exact⟨f,fd,(ok F).1,mg_of X G a,F.kp,(ok F).2⟩
def goR2(i j:Nat)(lk lk2:Bool)(Δ:SE):RR2->FM
 | .ok d t' aa=> .ok d ((Δ.set i (Sl.mk lk t')).set j (Sl.mkD lk2 aa))
 | .ex x t' aa=> .ex x ((Δ.set i (Sl.mk lk t')).set j (Sl.mkD lk2 aa))
 | .no=> .no
def ai_0(i j n:Nat)(F:Tn->List (Ae×D)->List D->RR2)(ga:SE->R (List D)):SE->FM:=λ Δ=>match(Δ[i]?).bind Sl.tree with
 |some (.obj c ns ts,lk)=>(match(Δ[j]?).bind Sl.dct with
  |some (kds,lk2)=>if i=j then .no else(match ga Δ with
   | .ok ds=>if ds.length=n then goR2 i j lk lk2 Δ (F (.obj c ns ts) kds ds) else .no
   | .ex x=> .ex x Δ
   | .no=> .no)
  |none=> .no)
 |_=> .no
def cc_6(i:Nat)(fk fe:FE):FS:=λ Δ=>match(Δ[i]?).bind Sl.dct with
 |some (kds,lk)=>(match fe (At Δ) with
  | .ok w=>(match fk (At Δ) with
   | .ok z=>(match Ee z.d with
    |some k=>if kds.length < 16777216 then .nx (Δ.set i (Sl.mkD lk (By kds k w.d))) else .no
    |none=> .no)
   |_=> .no)
  |_=> .no)
 |none=> .no
section
variable{X:Cx}{EX:Au}{e:Expr}{es:List Expr}{f:FE}{ga:SE->R (List D)}{x:Str}{pp pos:Pos}{c:Bool}{k k' n:Nat}{ps:List Str}
def Ev.writeD2{H0:HB}{G0 G H:Hp}{σ:Sg}{Δ:SE}{O:OS}(E:Ev K H0 G0 G H σ Δ O){i:Nat}{s:Sl}{kds aa:List (Ae×D)}{b:Bool}{a:Addr}{kvs:List (Ae×V)}(e:Δ[i]? =some s)(q:s.dct=some (kds,b))(s1:σ[i]? =some (some (.ref a)))(m:O i a)(hk:kvs.map (·.1)=aa.map (·.1))(r:HasL K G (kvs.map (·.2)) (aa.map (·.2))):
  Ev K H0 G0 G (upd H a (.dK kvs)) σ (Δ.set i (Sl.mkD b aa)) (x_5 O i (O i)):=
 have ms:=MStep.write E.st.gh m (E.out i a m).1 (.dK kvs)
 E.step2 (Sl.mkD_own b aa) (Sl.mkD_lk b aa) (E.mkD_lt e q aa) ms.weak s1 (λb hb=>⟨.inl hb,(E.out i b hb).1,ms.al b (E.out i b hb).2.2⟩) (Ow.dict Bj hk m r)
def cj_2{i j:Nat}{y y2:Str}{F:Tn->List (Ae×D)->List D->RR2}{p3 p4:Pos}(hr:RoomC c k' X.A)(lk:Lk X EX)(h:cc_5 X.prog X.w X.K X.mg X.base c x k n ps F)(ha:AM X EX es ga)(hk:k<=k':=by decide)
  (hN:X.N[i]? =some y:=by rfl) (hv:Fg X.env.scope y:=by trivial) (hd:AG y:=by decide) (hcd:(y ==("__classdict__" :Str))=false:=by decide)
  (hN2:X.N[j]? =some y2:=by rfl) (hv2:Fg X.env.scope y2:=by trivial) (hd2:AG y2:=by decide) (du:(y2 ==("__classdict__" :Str))=false:=by decide)
  (hg:Gl X x:=by rfl) (hdb:AG x:=by decide) (hs1:starEach (.Name y p3:: .Name y2 p4::es) X.env=(false,eval (.Name y p3) X.env)::starEach (.Name y2 p4::es) X.env:=by rfl) (hs2:starEach (.Name y2 p4::es) X.env=(false,eval (.Name y2 p4) X.env)::starEach es X.env:=by rfl) (hpl:(backTo pos (starEach (.Name y2 p4::es) X.env)).any (·.1)=false:=by rfl):
  EM X EX (.Call (.Name x pp) (.Name y p3:: .Name y2 p4::es) [] pos) (ai_0 i j n F ga):=by
 obtain⟨f,fd,ok,hm,kp,hb⟩:=h;refine PE.imp (bm_7 hr lk ok hm kp hb (i_7 (Fh hN hv hd hcd) (i_7 (Fh hN2 hv2 hd2 du) ha hs2) hs1) hk hg hdb hs1 hpl) λ σ H Q ⟨H0,G0,G,Δ,O,E,q⟩=> ?_;unfold ai_0 at q
 split at q
 ·rename_i c0 ns ts lk0 e0;obtain⟨s,e1,etr⟩:=J6.mp e0;obtain⟨v0,s1,t0⟩:=E.ow i _ _ e1 (Sl.tree_own etr)
  split at q
  ·rename_i kds lk2 e0';obtain⟨s',e1',ed⟩:=J6.mp e0';obtain⟨v1,s1',t0'⟩:=E.ow j _ _ e1' (Sl.dct_own ed).1
   split at q
   ·exact q.elim
   ·rename_i hij;cases t0 with
    |obj hc hh hl hA sub rl=>
     rename_i a0 C0 dx0 us0 S0;obtain⟨a1,kv1,rfl,m1,hH1,hk1,rl1⟩:=Ow.dict_of t0';refine⟨_,s1,_,s1',H0,G0,G,Δ,O,E, ?_⟩;cases ea:ga Δ with
     |ok ds=>
      simp only[ea]at q
      split at q
      ·rename_i zk;intro vs G1 H1 E1 sg r;obtain⟨w0,x1,u0⟩:=E1.ow i _ _ e1 (Sl.tree_own etr);rw[s1]at x1;cases x1;obtain⟨w1,x2,u1⟩:=E1.ow j _ _ e1' (Sl.dct_own ed).1;rw[s1']at x2;cases x2;refine⟨_,_,vs,rfl,by rw[r.length];exact zk,G1,ds,_,kds,O i,O j,E1.st.gh,r,u0,u1,λa ha=>ha.elim (λh=>⟨(E1.out i a h).1,(E1.out i a h).2.2⟩) λh=>⟨(E1.out j a h).1,(E1.out j a h).2.2⟩,λa h1 h2=>hij (E1.dj i j a h1 h2), ?_⟩;cases ef:F (.obj c0 ns ts) kds ds with
       |ok d t' aa=>
        rw[ef]at q;exact λv G' H' T0 T1 ms fr dd o0 o1 rv=>q v G' H' _ (E1.two hij (Sl.mk_own lk0 t') (Sl.mk_lk lk0 t') (E1.mk_lt e1 etr t') (Sl.mkD_own lk2 aa) (Sl.mkD_lk lk2 aa) (E1.mkD_lt e1' ed aa) ms s1 s1' (λa ha=>fr a (.inl ha)) (λa ha=>fr a (.inr ha)) dd o0 o1) (sg.trans ms.gg) rv
       |ex x t' aa=>
        rw[ef]at q;exact λcls dx G' H' T0 T1 ms fr dd o0 o1 ea=>⟨x,G',ms.gh,ea,q G' H' _ (E1.two hij (Sl.mk_own lk0 t') (Sl.mk_lk lk0 t') (E1.mk_lt e1 etr t') (Sl.mkD_own lk2 aa) (Sl.mkD_lk lk2 aa) (E1.mkD_lt e1' ed aa) ms s1 s1' (λa ha=>fr a (.inl ha)) (λa ha=>fr a (.inr ha)) dd o0 o1) (sg.trans ms.gg)⟩
       |no=>rw[ef]at q;exact q
      ·exact q.elim
     |ex x=>simp only[ea]at q;exact λG1 H1 E1 sg=>q G1 H1 O E1 sg
     |no=>simp only[ea]at q;exact q.elim
  ·exact q.elim
 ·exact q.elim
def df_9{i:Nat}{y:Str}{e e2:Expr}{fe fk:FE}{p1 zh:Pos}(hu:X.A.units + 64 < cLine)(he:ED X EX e fe)(h2:ED X EX e2 fk)(hN:X.N[i]? =some y:=by rfl)(hv:Fg X.env.scope y:=by trivial)(hd:AG y:=by decide)
  (hcd:(y ==("__classdict__" :Str))=false:=by decide) (hs:swapsWith e (some (.Subscript (.Name y p1) e2 zh)) pos.line X.env=pure false:=by rfl):
  SD X EX (.Assign [.Subscript (.Name y p1) e2 zh] e pos) (cc_6 i fk fe):=
 PS.imp (bf_5 () (Fh hN hv hd hcd) h2 he hs) λD σ H ⟨H0,G0,G,Δ,O,E,q⟩=>by
  unfold cc_6 at q
  split at q
  ·rename_i kds lk e0;obtain⟨s,e1,ed⟩:=J6.mp e0;refine⟨G,At Δ,E.st.gh,E.gsh, ?_⟩;cases e2:fe (At Δ) with
   |ex x=>simp only[e2]at q;exact q.elim
   |no=>simp only[e2]at q;exact q.elim
   |ok w=>
    simp only[e2]at q;refine WP.intro λv G1 H1 st r=> ?_;have E1:=E.grow st;obtain⟨v0,s1,t⟩:=E1.ow i _ _ e1 (Sl.dct_own ed).1;obtain⟨a,kvc,rfl,mc,hHc,hkc,rlc⟩:=Ow.dict_of t;refine⟨_,s1, ?_⟩;refine⟨G1,At Δ,E1.st.gh,E1.gsh, ?_⟩;cases e3:fk (At Δ) with
    |ex x=>simp only[e3]at q;exact q.elim
    |no=>simp only[e3]at q;exact q.elim
    |ok z=>
     simp only[e3]at q;refine WP.intro λv2 G2 H2 st2 r2=> ?_
     split at q
     ·rename_i k0 ek
      split at q
      ·rename_i zk;have hv2:=t_2 r2 ek;subst hv2;have E2:=E1.grow st2;have hle:kvc.length=kds.length:=by
        have:=K4 List.length hkc
        rwa[A3,A3]at this
       obtain⟨p1,p2⟩:=bg_1 k0 hkc rlc r;exact⟨a,_,rfl,DPut.k (st2.hh _ _ hHc) (by rw[hle,D6];exact zk),q σ G2 _ _ (E2.writeD2 e1 ed s1 mc p1 (p2.mono st2.gg)) (st.gg.trans st2.gg)⟩
      ·exact q.elim
     ·exact q.elim
  ·exact q.elim
end
section
variable{K:Frag}{G H:Hp}{a:Addr}{ob:Obj}{kvs:List (Ae×V)}
def ar_0(ga:G a=some (.frz ob (.dK kvs))){b:Addr}{o:HO}(e:G b=some o)(n:∀ob kvs,o≠ .frz ob (.dK kvs)):offQ G (λb=>b=a) b=some o:=
 (t_3 (S:=λb=>b=a) λz=>by subst z;rw[ga]at e;cases e;exact n _ _ rfl).trans e
def ct_9(ga:G a=some (.frz ob (.dK kvs))){b:Addr}{xs:List V}(h:Rd G b (.lst xs)):Rd (offQ G λb=>b=a) b (.lst xs):=by
 rcases h with h|⟨o,h⟩
 ·exact .inl (ar_0 ga h λ_ _ z=>by cases z)
 ·exact .inr ⟨o,ar_0 ga h λ_ _ z=>by cases z⟩
def cu_0(ga:G a=some (.frz ob (.dK kvs))){b:Addr}{xs:List V}(h:Rd G b (.tup xs)):Rd (offQ G λb=>b=a) b (.tup xs):=by
 rcases h with h|⟨o,h⟩
 ·exact .inl (ar_0 ga h λ_ _ z=>by cases z)
 ·exact .inr ⟨o,ar_0 ga h λ_ _ z=>by cases z⟩
mutual
theorem Has.offF(ga:G a=some (.frz ob (.dK kvs))):∀{v:V} {d:D},Has K G v d->Do d=true->Has K (offQ G λb=>b=a) v d
 |_,_,.non,_=> .non
 |_,_,.bl b,_=> .bl b
 |_,_,.int i,_=> .int i
 |_,_,.str x,_=> .str x
 |_,_,.lst h r,e=>by
  simp only[Do]at e;exact .lst (h.elim (λz=> .inl (ct_9 ga z)) .inr) (HasL.offF ga r e)
 |_,_,.tup h r,e=>by
  simp only[Do]at e;exact .tup (h.elim (λz=> .inl (cu_0 ga z)) .inr) (HasL.offF ga r e)
 |_,_,.exn0 _ _,e=>by simp only[Do]at e;cases e
 |_,_,.exn1 _ _ _ _ _,e=>by simp only[Do]at e;cases e
 |_,_,.dic _ _ _,e=>by simp only[Do]at e;cases e
 |_,_,.obj _ _ _ _,e=>by simp only[Do]at e;cases e
theorem HasL.offF(ga:G a=some (.frz ob (.dK kvs))):∀{vs:List V} {ds:List D},HasL K G vs ds->Dz ds=true->HasL K (offQ G λb=>b=a) vs ds
 |_,_,.nil,_=> .nil
 |_,_,.cons h r,e=>by
  simp only[Dz,C8]at e;exact .cons (Has.offF ga h e.1) (HasL.offF ga r e.2)
end
mutual
theorem Ow.offF{H':Hp}(ga:G a=some (.frz ob (.dK kvs)))(k:∀b o,b≠a->H b=some o->H' b=some o):∀{v:V} {t:Tn} {S':AS},Ow K G H v t S'->Di t=true->(∀b,S' b->b≠a)->Ow K (offQ G λb=>b=a) H' v t S'
 |_,_,_,.sh h,e,_=>by simp only[Di]at e;exact .sh (h.offF ga e)
 |_,_,_,.lst h ha sub r,e,n=>by simp only[Di]at e;exact .lst (k _ _ (n _ ha) h) ha sub (OwL.offF ga k r e λb hb=>n b (sub b hb).1)
 |_,_,_,.tup h ha sub r,e,n=>by simp only[Di]at e;exact .tup (k _ _ (n _ ha) h) ha sub (OwL.offF ga k r e λb hb=>n b (sub b hb).1)
 |_,_,_,.dic h hk ha sub r,e,n=>by simp only[Di]at e;exact .dic (k _ _ (n _ ha) h) hk ha sub (OwL.offF ga k r (by rw[af_1];exact e) λb hb=>n b (sub b hb).1)
 |_,_,_,.obj hc h hl ha sub r,e,n=>by simp only[Di]at e;exact .obj hc (k _ _ (n _ ha) h) hl ha sub (OwL.offF ga k r e λb hb=>n b (sub b hb).1)
theorem OwL.offF{H':Hp}(ga:G a=some (.frz ob (.dK kvs)))(k:∀b o,b≠a->H b=some o->H' b=some o):∀{vs:List V} {ts:List Tn} {S':AS},OwL K G H vs ts S'->k_2 ts=true->(∀b,S' b->b≠a)->OwL K (offQ G λb=>b=a) H' vs ts S'
 |_,_,_,.nil,_,_=> .nil
 |_,_,_,.cons h r dj s1 s2,e,n=>by
  simp only[k_2,C8]at e;exact .cons (Ow.offF ga k h e.1 λb hb=>n b (s1 b hb)) (OwL.offF ga k r e.2 λb hb=>n b (s2 b hb)) dj s1 s2
end
end
def di_7(j:Nat)(kds:List (Ae×D))(Δ1:SE):Option SE:=match Δ1[j]? with
 |some (.lt (.sh (.dic _)))=>if(Δ1.set j .no).all bw_2=true then some (Δ1.set j (.lt (Tn.of (.dic kds)))) else none
 |_=>none
def Ev.back{H0:HB}{G0 G G2 H2:Hp}{σ:Sg}{Δ1 Δ2:SE}{O:OS}{j:Nat}{a:Addr}{ob:Obj}{kvs:List (Ae×V)}{kds:List (Ae×D)}(E:Ev K H0 G0 G2 H2 σ Δ1 O)(hb:H0.b j=a)(h0:H0.h a=none)(g0:G0 a=none)(sg:Same (upd G a (.frz ob (.dK kvs))) G2)(hGa:G a=none)(hk:kvs.map (·.1)=kds.map (·.1))(rl:HasL K G (kvs.map (·.2)) (kds.map (·.2)))(e:di_7 j kds Δ1=some Δ2):
  Ev K H0 G0 (offQ G2 λb=>b=a) (upd H2 a (.dK kvs)) σ Δ2 (λi b=>(i=j/\b=a)\/(i≠j/\O i b))/\Same G (offQ G2 λb=>b=a):=by
 have ga:G2 a=some (.frz ob (.dK kvs)):=sg _ _ Bj;have sG:Same G (offQ G2 λb=>b=a):=λb o q=>by
  have ne:b≠a:=λz=>by subst z;rw[hGa]at q;cases q
  rw[t_3 (S:=λb=>b=a) ne];exact sg b o (by rw[Aq ne];exact q)
 refine⟨?_,sG⟩;unfold di_7 at e
 split at e
 ·rename_i kk ej
  split at e
  ·rename_i pa;cases e;have s1:=E.lt j _ ej;rw[hb]at s1;have hl1:j < Δ1.length:=by
    rcases Nat.lt_or_ge j Δ1.length with h|h
    ·exact h
    ·rw[K7 h]at ej;cases ej
   have gi:∀(i:Nat) (s:Sl),i≠j->(Δ1.set j (.lt (Tn.of (.dic kds))))[i]? =some s->Δ1[i]? =some s/\bw_2 s=true:=λi s h q=>by
    rw[C1 λz=>h z.symm]at q;refine⟨q,F0.mp pa s ?_⟩;have:(Δ1.set j .no)[i]? =some s:=by rw[C1 λz=>h z.symm];exact q
    exact K0 this
   have gj:(Δ1.set j (.lt (Tn.of (.dic kds))))[j]? =some (.lt (Tn.of (.dic kds))):=by rw[F4 hl1]
   have na:∀i b,O i b->b≠a:=λi b h z=>by
    have:=(E.out i b h).1;rw[z,ga]at this;cases this
   refine⟨⟨λb o q=> ?_,λb o q=> ?_,λb o q=> ?_,λb n z=> ?_⟩,by rw[F3];exact E.len,λi d q=> ?_,λi s t q o=> ?_,λi b h=> ?_,λi k b g1 g2=> ?_,λi d q=> ?_,λi t q=> ?_⟩
   ·have ne:b≠a:=λz=>by subst z;rw[h0]at q;cases q
    rw[Aq ne];exact E.st.hh b o q
   ·have ne:b≠a:=λz=>by rw[ah_6 (S:=λb=>b=a) z]at q;cases q
    rw[Aq ne];exact E.st.gh b o (offQ_sub b o q)
   ·have ne:b≠a:=λz=>by subst z;rw[g0]at q;cases q
    rw[t_3 (S:=λb=>b=a) ne];exact E.st.gg b o q
   ·exact offQ_sub.free (E.st.nw b n z)
   ·by_cases h:i=j
    ·subst h;rw[gj]at q;cases q
    ·obtain⟨q,pl⟩:=gi i _ h q;obtain⟨v,e1,r⟩:=E.sh i d q;exact⟨v,e1,r.offF ga pl⟩
   ·by_cases h:i=j
    ·subst h;rw[gj]at q;cases q;cases o;exact⟨.ref a,s1,Ow.dict Bj hk (.inl ⟨rfl,rfl⟩) (rl.mono sG)⟩
    ·obtain⟨q,pl⟩:=gi i _ h q;obtain⟨v,e1,r⟩:=E.ow i s t q o;refine⟨v,e1,Ow.mono (Same.refl _) (Ow.offF (H':=upd H2 a (.dK kvs)) ga (λb o ne q=>by rw[Aq ne];exact q) r (bw_3 pl o) λb hb=>na i b hb) (λ_ _ _ q=>q) λb hb=> .inr ⟨h,hb⟩⟩
   ·rcases h with⟨_,rfl⟩|⟨_,h⟩
    ·exact⟨ah_6 (S:=λx=>x=b) rfl,h0,by rw[Bj];exact λz=>by cases z⟩
    ·have:=E.out i b h;exact⟨offQ_sub.free this.1,this.2.1,by rw[Aq (na i b h)];exact this.2.2⟩
   ·rcases g1 with⟨rfl,g1⟩|⟨_,g1⟩ <;> rcases g2 with⟨rfl,g2⟩|⟨_,g2⟩
    ·rfl
    ·exact absurd g1 (na _ _ g2)
    ·exact absurd g2 (na _ _ g1)
    ·exact E.dj i k b g1 g2
   ·by_cases h:i=j
    ·subst h;rw[gj]at q;cases q
    ·exact E.lk i d (gi i _ h q).1
   ·by_cases h:i=j
    ·subst h;rw[hb];exact s1
    ·exact E.lt i t (gi i _ h q).1
  ·cases e
 ·cases e
section
variable{X:Cx}{EX:Au}{pos:Pos}{elts:List Expr}{x1:Nat}{tp zg zf:Pos}
end
def flsD:D->Bool
 | .lst ds=>ds.all Bf
 |_=>false
def inQp(d:D):D->R W
 | .lst ds=>if(ds.all λy=>flsD y && Fj y d)=true then .ok (.sh (.bl (ds.any λy=>Fq y d))) else .no
 |_=> .no
def cu_2{zd:AE}{σ:Sg}{s:Shared}(I:Inv X zd σ H s){G:Hp}(g:Same G H){v v':V}{d d':D}{u:Value}(h:Has X.K G v d)(h':Has X.K G v' d')(r:RelV v u)(r':RelV v' u)(f:flsD d=true)(f':flsD d'=true):d'=d:=by
 cases h with
 |lst q l=>
  cases h' with
  |lst q' l'=>
   cases r;cases r';have:=I.list_inj (g.seq q) (g.seq q');subst this;rw[HasL.flat_same l l' f]
  |_=>cases f'
 |_=>cases f
open Classical in
def dw_5(hu:X.A.units + 64 < cLine):Er X (compareOp .In) inQp:=by
 intro zd s σ H x y v u Q I rx ry q;obtain⟨EX,G,a,b,g,ra,rb,o⟩:=q;cases rb with
 |lst h r=>
  rename_i ds;have o':Out X.K EX G H (if(ds.all λy=>flsD y && Fj y a)=true then .ok (.sh (.bl (ds.any λy=>Fq y a))) else .no) Q:=o
  split at o'
  ·rename_i hc;have hc:=F0.mp hc;cases ry;obtain⟨its,rv,pl,hz⟩:=I.list (g.seq h);have el:∀(i:Nat) (w:Value),its[i]? =some w->∃d v0,ds[i]? =some d/\Has X.K G v0 d/\RelV v0 w/\flsD d=true/\Fj d a=true:=λi w e=>by
    have hi:=(B6.mp e).1;have l1:=rv.length;have l2:=r.length;obtain⟨d,hd⟩:∃d,ds[i]? =some d:=⟨_,B3 ()⟩;obtain⟨v0,e1,h0⟩:=r.get hd;obtain⟨w0,e2,r0⟩:=rv.get e1;rw[e]at e2;cases e2;have:=hc d (K0 hd);rw[C8]at this;exact⟨d,v0,hd,h0,r0,this.1,this.2⟩
   have same:∀(i j:Nat) (w:Value) (d d':D),its[i]? =some w->its[j]? =some w->ds[i]? =some d->ds[j]? =some d'->d'=d:=λi j w d d' e e' q q'=>by
    obtain⟨d1,v1,a1,a2,a3,a4,_⟩:=el i w e;obtain⟨d2,v2,b1,b2,b3,b4,_⟩:=el j w e';rw[q]at a1;cases a1;rw[q']at b1;cases b1;exact cu_2 I g a2 b2 a3 b3 a4 b4
   let e:Value->Bool:=λw=>decide (∃(i:Nat) (d:D),its[i]? =some w/\ds[i]? =some d/\Fq d a=true)
   have ee:∀(j:Nat) (w:Value) (d:D),its[j]? =some w->ds[j]? =some d->e w=Fq d a:=λj w d q1 q2=>by
    rw[P6,Y4];exact⟨λ⟨i,d',z1,z2,z3⟩=>by rw[same i j w d' d z1 q1 z2 q2];exact z3,λz=>⟨j,d,q1,q2,z⟩⟩
   refine SeqAt.in_listAt e pl.isList (λw hw=> ?_) ⟨.bl _,H,I,rfl, ?_⟩
   ·obtain⟨j,hj,rfl⟩:=S7.mp (show w∈its by simpa using hw);obtain⟨d,v0,q1,q2,q3,_,q5⟩:=el j _ (B3 hj);rw[ee j _ d (B3 hj) q1];unfold Fj at q5;rw[C8,C8]at q5;obtain⟨⟨h1,h2⟩,h3⟩:=q5;have h3:=K8 h3;obtain⟨as,za⟩:=Has.reads rfl I g h1 q2 q3;obtain⟨bs,zb⟩:=Has.reads rfl I g h2 ra rx;refine SeqAt.eqAt_reads _ _ _ _ _ _ as bs za zb h1 h2 ?_;show X.A.units + 1 + min (Db d).depth (Db a).depth < cLine;have:=ZB5 (Db d).depth (Db a).depth;omega
   ·have ea:its.toArray.any e=ds.any λy=>Fq y a:=by
     rw[P6,List.any_eq_true,Array.any_eq_true'];constructor
     ·rintro ⟨w,hw,hew⟩
      obtain⟨j,hj,rfl⟩:=S7.mp (show w∈its by simpa using hw);obtain⟨d,v0,q1,_⟩:=el j _ (B3 hj);exact⟨d,K0 q1,by rw[<-ee j _ d (B3 hj) q1];exact hew⟩
     ·rintro ⟨d,hd,hev⟩
      obtain⟨j,hj,rfl⟩:=S7.mp hd;have l1:=rv.length;have l2:=r.length;have hj':j < its.length:=by omega
      refine⟨its[j],by simp, ?_⟩;rw[ee j _ _ (B3 hj') (B3 hj)];exact hev
    rw[ea];exact Cv o' g (.bl _)
  ·exact o'.elim
 |_=>exact False.elim o
section
variable{X:Cx}{EX:Au}{pos:Pos}
def cu_3:List D->R W
 | [.dic kds]=> .ok (.ow (.dic kds))
 |_=> .no
def bw_4:y_9 X (.type "dict") cu_3:=by
 intro zd s σ H vs us Q I rv q;obtain⟨EX,G,ds,g,r,o⟩:=q;cases r with
 |nil=>exact False.elim o
 |cons h t=>
  cases t with
  |cons _ _=>cases h <;> exact False.elim o
  |nil=>
   cases h with
   |dic h hk r=>
    obtain⟨u,rfl,ru⟩:=rv.one;cases ru;obtain⟨z,lo,ws,kv,dd⟩:=r_5 I.hok (Same.rdD g h);have fr:=I.hok.fresh (B5 s.heap.objs.size);have lo':(s.heap.objs.size ==sysModules)=false:=(as_9 (P:=X.prog) (w:=X.w) (H:=H) s.heap I.big).2.1;refine kt_call_dict lo dd (by rw[<-kv.length];exact z) λh' hd sb=>⟨.ref _,upd H _ (.dK _),I.laid (t':=s.toks) (λb u e=> ?_) (B5 _) ⟨z,lo',ws,kv,hd⟩,rfl,o (.ref _) (λb=>b=_) G _ (Step.own g fr _) (λa e=>by subst e;exact⟨fr,g.free fr,by rw[Bj];simp⟩) (.dict Bj hk rfl r)⟩;have hb:b≠s.heap.objs.size:=λq=>by
     subst q;exact absurd (A5 e) (D7 _)
    exact(sb.2 b hb).trans (A4 _ e)
   |_=>exact False.elim o
end
def bq_0(i:Nat)(js:List Nat)(f:FE):FS:=λ Δ=>if j_0 js Δ=true then(match f (x_9 js Δ) with
 | .ok w=>if o_1 w=true then .nx (Δ.set i (.sh w.d)) else .no
 |_=> .no) else .no
def cc_7(i:Nat)(js:List Nat)(f:FE):FS:=λ Δ=>if j_0 js Δ=true then(match f (x_9 js Δ) with
 | .ok (.ow d)=>if o_1 (.ow d)=true then .nx (Δ.set i (.ow d)) else .no
 |_=> .no) else .no
section
variable{X:Cx}{EX EX':Au}{e:Expr}{f:FE}{pos:Pos}{i:Nat}
def cj_3{D:Ends}{σ:Sg}{js:List Nat}(q:tS K EX (bq_0 i js f) D σ H):tAsg (tD K EX' f) (ba_1 i) D σ H:=by
 obtain⟨H0,G0,G,Δ,O,E,q⟩:=q;unfold bq_0 at q
 split at q
 ·rename_i hl;cases e1:f (x_9 js Δ) with
  |ok w=>
   simp only[e1]at q
   split at q
   ·rename_i pw;exact aq_8 E hl e1 pw (WP.intro λv G' H' st r=>q _ G' H' O ((E.grow st).put r) st.gg)
   ·exact q.elim
  |ex x=>simp only[e1]at q;exact q.elim
  |no=>simp only[e1]at q;exact q.elim
 ·exact q.elim
def dg_0(js:List Nat){x:Str}{pos':Pos}(he:ED X Fy e f)(hN:X.N.Nodup)(hi:X.N[i]? =some x:=by rfl)(hx:Ep X.env.scope x:=by trivial)(hs:swapsWith e (some (.Name x pos')) pos.line X.env=pure false:=by rfl)
  (hf:X.fn x=true\/X.env.scope.names.lookup x=some .local:=by trivial):SD X EX (.Assign [.Name x pos'] e pos) (cc_7 i js f):=
 PS.imp (be_7 hN hi hx he hs hf) λD σ H ⟨H0,G0,G,Δ,O,E,q⟩=>by
  unfold cc_7 at q
  split at q
  ·rename_i hl;cases e1:f (x_9 js Δ) with
   |ok w=>
    cases w with
    |ow d=>
     simp only[e1]at q
     split at q
     ·rename_i pw;exact aq_8 E hl e1 pw λv S G' H' st fr t=>q _ G' H' _ ((E.grow st).putO (λa ha=>⟨E.st.hh.free (fr a ha).1,(fr a ha).2⟩) rfl (λ_ z=>by cases z) t λj a hj hs=>(E.out j a hj).2.2 (fr a hs).1) st.gg
     ·exact q.elim
    |sh d=>simp only[e1]at q;exact q.elim
    |tr t=>simp only[e1]at q;exact q.elim
   |ex x=>simp only[e1]at q;exact q.elim
   |no=>simp only[e1]at q;exact q.elim
  ·exact q.elim
def cu_4(js:List Nat){elt iter tg:Expr}{ifs:List Expr}{scope:Scope}{N':List Str}{fi:FI}{fg:FGc}{p:FT}{f:FE}{m:Nat}{y:Str}{py az:Pos}(hc:X.calm=true)(src:Fd X.nox z_0 tg iter fi)(ho:CompOk X scope N' m tg ifs elt fg p f)
  (hN:X.N.Nodup) (hy:X.N[i]? =some y:=by rfl) (hx:Ep X.env.scope y:=by trivial) (hf:X.fn y=true\/X.env.scope.names.lookup y=some .local:=by trivial)
  (hsw:swapsWith (.ListComp elt [⟨tg,iter,ifs,0⟩] scope pos) (some (.Name y py)) az.line X.env=pure true:=by rfl)
  (hs:∀x,foldedSetIterable iter X.env x=pure x:=by intro _;rfl):SD X EX (.Assign [.Name y py] (.ListComp elt [⟨tg,iter,ifs,0⟩] scope pos) az) (bq_0 i js (Ch m fi fg p f)):=
 PS.imp (PS.nox (bm_1 (X:=X.nox) (λ_ _ z=>z) hc src ⟨ho.hk,ho.hb,ho.hm,ho.hin⟩ hN hy hx hf hsw hs)) λD σ H q=>cj_3 q
end
end L3
local macro_rules|`(#v[])=>`(L3.Ac)|`(#v[$n:num])=>`(L3.Ab (L3.Aa $n) L3.Ac)|`(#v[$x])=>`(L3.Ab $x L3.Ac)|`(#v[$n:num,$xs,*])=>`(L3.Ab (L3.Aa $n) #v[$xs,*])|`(#v[$x,$xs,*])=>`(L3.Ab $x #v[$xs,*])
namespace My
open PySem L2 L3
def bc_7:FS:=
  (Ag (Al 2 [0,1] (Af Bz (Af Dg (Af Br (Aa 0) (eC (.int 1))) (Af Br (eC (.int 48271)) (Af Dg (eC (.int 118)) (Aa 1)))) (eC (.int 2147483629))))
  (Az [1,2] (Af Bz (Af Br (Af Br (Af Dg (Af Gb (Aa 2) (eC (.int 977))) (eC (.int 16807))) (Af Dg (Aa 2) (Af Br (Af Dg (Aa 1) (Aa 1)) (eC (.int 7))))) (Aa 1)) (eC (.int 2147483587)))))
def g_9:List D->R W:=Ar 3 bc_7
def av_7:FS:=
  (Ag (Al 2 [] (eC (.int 0)))
  (Ag (Bx [0,1] (Ak (Af ltD (Aa 1) (An Dr #v[0])))
   (Al 2 [0,1] (Af Bz (Af Bk (Aa 0) (Aa 1)) (eC (.int 2147483647))))
   Bc)
  (Az [1,2] (Bl 2 g_9 #v[2,Af Br (Aa 1) (eC (.int 101))]))))
def h_2:List D->R W:=Ar 3 av_7
def ao_0:FS:=
  (Ag (Al 2 [0] (Bl 2 h_2 #v[0,eC (.int 1)]))
  (Ag (Al 3 [1,2] (Af Br (eC (.int 1)) (Af Bz (Aa 2) (Aa 1))))
  (Ag (Al 4 [2] (Af Bk (Cd #v[eC (.int 0),eC (.int 1),Af Bz (Af Gb (Aa 2) (eC (.int 64))) (eC (.int 1000)),Af Br (Af powD (eC (.int 10)) (eC (.int 12))) (Aa 2)]) (Af Bz (Af Gb (Aa 2) (eC (.int 32))) (eC (.int 4)))))
  (Ag (Al 5 [2] (Bl 2 g_9 #v[2,eC (.int 5)]))
  (Ag (Al 6 [5] (Af Bk (Cd #v[eC (.int 2),eC (.int 3),Af Br (eC (.int 2)) (Af Bz (Af Gb (Aa 5) (eC (.int 8))) (eC (.int 9))),eC (.int 10),eC (.int 1000),eC (.int 1000000000),Af Br (eC (.int 2)) (Af Bz (Af Gb (Aa 5) (eC (.int 8))) (eC (.int 999999999))),eC (.int 7)]) (Af Bz (Aa 5) (eC (.int 8)))))
  (Az [3,4,6] (Bq #v[3,4,6])))))))
def q_6:List D->R W:=Ar 7 ao_0
def e_2:FE:=
  (Af Br (Aa 5) (Cd #v[6]))
def d_1:FS:=
  (Al 4 [1,4,5] (Af Br (Aa 4) (Ch 1 (Bv Cr #v[1]) (gC 6) (λ_=> .ok true) e_2)))
def h_3:FS:=
  (Ag (Al 4 [] (Cd Ac))
  (Ag (Fu [2] (El (Aa 2)) (gV 5) d_1)
  (Al 2 [4] (Aa 4))))
def p_4:FS:=
  (Ag (Al 2 [] (Cd #v[Cd Ac]))
  (Ag (Fu [0] (Bv Cr #v[0]) (gV 3) h_3)
  (Cl 2)))
def j_1:List D->R W:=Ar 6 p_4
def av_8:FS:=
  (Ag (Al 3 [0,1] (An maxD #v[eC (.int 0),Af Fe (An Dr #v[0]) (Aa 1)]))
  (Az [0,1,2,3] (An minD #v[2,An maxD #v[3,Af Bz (Bl 2 h_2 #v[0,Af Fe (Aa 1) (eC (.int 1))]) (Af Br (Aa 2) (eC (.int 1)))]])))
def p_5:List D->R W:=Ar 4 av_8
def al_9:FS:=
  (Ag (Al 2 [] (eC (.int 0)))
  (Ag (Bx [0,1] (Ak (Af ltD (Aa 1) (An Dr #v[0])))
   (Al 2 [0,1] (Af Bk (Aa 0) (Aa 1)))
   Bc)
  (Ag (Bx [0] (Ak (Af Dd (Af Bz (Bl 2 h_2 #v[0,eC (.int 0)]) (eC (.int 2))) (eC (.int 0))))
   (Cl 2)
   Bc)
  (Az [1,2] (Bl 2 g_9 #v[Bl 2 g_9 #v[Af Bz (Aa 2) (eC (.int 2147483647)),Af Br (Aa 1) (eC (.int 7))],1])))))
def p_6:List D->R W:=Ar 3 al_9
def y_2:FS:=
  (Ag (Al 1 [1,2] (Af Br (Aa 1) (Af Bk (eC (.str "abcdefghijklmnopqrstuvwxyz0123456789-_ ")) (Af Bz (Aa 2) (eC (.int 39))))))
  (Al 2 [2] (Af Gb (Aa 2) (eC (.int 39)))))
def av_9:FS:=
  (Ag (Al 1 [] (eC (.str "")))
  (Ag (Al 2 [0] (Af Gb (Aa 0) (eC (.int 12))))
  (Ag (Fu [0] (Bv Cr #v[Af Bz (Aa 0) (eC (.int 12))]) (gV 3) y_2)
  (Cl 1))))
def t_7:List D->R W:=Ar 4 av_9
def w_7:FS:=
  (Ag (Al 1 [0] (Af Gb (Aa 0) (eC (.int 4))))
  (Ag (Bx [0] (Ak (Af Dd (Af Bz (Aa 0) (eC (.int 4))) (eC (.int 0))))
   (Az [1] (Af Bz (Aa 1) (Af powD (eC (.int 10)) (eC (.int 18)))))
   Bc)
  (Ag (Bx [0] (Ak (Af Dd (Af Bz (Aa 0) (eC (.int 4))) (eC (.int 1))))
   (Az [1] (Bl 1 t_7 #v[1]))
   Bc)
  (Az [0,1] (Af Bz (Aa 1) (Af Bk (Cd #v[eC (.int 50),eC (.int 12)]) (Af Fe (Af Bz (Aa 0) (eC (.int 4))) (eC (.int 2)))))))))
def l_3:List D->R W:=Ar 2 w_7
def aw_0:FS:=
  (Ag (Al 5 [0,1,2] (Bl 2 p_6 #v[0,Af Br (Aa 1) (Af Bz (Aa 2) (An maxD #v[eC (.int 1),Af Fe (An Dr #v[0]) (Aa 1)]))]))
  (Ag (Bx [0] (Ak (Af Dd (Af Bz (Bl 2 h_2 #v[0,eC (.int 0)]) (eC (.int 2))) (eC (.int 1))))
   (Al 5 [2,5] (Bl 2 g_9 #v[Af Bz (Aa 5) (eC (.int 2147483647)),2]))
   Bc)
  (Ag (Al 6 [5] (Af Bz (Aa 5) (eC (.int 8))))
  (Ag (Al 7 [5] (Af Gb (Aa 5) (eC (.int 8))))
  (Ag (Al 8 [4,7] (Af Bz (Aa 7) (Af Bk (Aa 4) (eC (.int 2)))))
  (Ag (Al 9 [4,7] (Bl 1 l_3 #v[Af Gb (Aa 7) (Af Bk (Aa 4) (eC (.int 2)))]))
  (Ag (Bx [3,6] (Eb (Ak (Af gtD (Aa 6) (eC (.int 4)))) (Ak (Af bp_8 (Aa 3) ah_0)))
   (Al 9 [3,4,7] (Af Bk (eKL (Aa 3)) (Af Bz (Af Gb (Aa 7) (Af Bk (Aa 4) (eC (.int 2)))) (An Fo #v[3]))))
   Bc)
  (Az [6,8,9] (Bq #v[Af Bk (Cd #v[eC (.int 0),eC (.int 0),eC (.int 0),eC (.int 0),eC (.int 0),eC (.int 0),eC (.int 1),eC (.int 1)]) (Aa 6),9,8])))))))))
def l_0:List D->R W:=Ar 10 aw_0
def v_9:FS:=
  (Al 1 [1,2] (Af Br (Af Br (Af Dg (eC (.int 40)) (Aa 1)) (eC (.int 1))) (eMeth "str" al_0 (eC (.str "abcdefghijklmnopqrstuvwxyz0123456789-_ ")) #v[2])))
def aa_9:FS:=
  (Ag (Bx [0] (Bn (eIs "int" (Aa 0)))
   (Az [0] (Af Dg (eC (.int 2)) (Aa 0)))
   Bc)
  (Ag (Al 1 [] (eC (.int 0)))
  (Ag (Fu [0] (El (Aa 0)) (gV 2) v_9)
  (Az [1] (Af Br (Af Dg (eC (.int 2)) (Aa 1)) (eC (.int 1)))))))
def n_3:List D->R W:=Ar 3 aa_9
def ao_1:FS:=
  (Ag (Al 3 [] (eC (.int 2305843009213693951)))
  (Ag (Al 4 [1,3] (Af Br (eC (.int 1)) (Af Bz (Af Br (Af Dg (eC (.int 1103515245)) (Aa 1)) (eC (.int 12345))) (Af Fe (Aa 3) (eC (.int 1))))))
  (Ag (Al 5 [0,1,3,4] (Af Bz (Af Br (Af Dg (Aa 4) (Aa 0)) (Af Bz (Af Br (Af Dg (Af Dg (eC (.int 69069)) (Aa 1)) (Aa 1)) (Af Dg (eC (.int 7)) (Aa 1))) (Aa 3))) (Aa 3)))
  (Az [2,5] (Af Bz (Af Br (Aa 5) (Af Gb (Aa 5) (eC (.int 2147483648)))) (Aa 2))))))
def n_4:List D->R W:=Ar 6 ao_1
def ai_1:FS:=
  (Ag (sUnp (bc_0 [3,4,5]) [1] (Aa 1))
  (Ag (Al 2 [0] (Bl 1 n_3 #v[0]))
  (Az [2,3,4] (Bq #v[Bl 3 n_4 #v[2,Af Dg (eC (.int 4)) (Aa 4),3],Af Br (Aa 3) (Bl 3 n_4 #v[2,Af Br (Af Dg (eC (.int 4)) (Aa 4)) (eC (.int 1)),3])]))))
def k_4:List D->R W:=Ar 6 ai_1
def b_6:FS:=
  (Bx [0,2,3,4,5] (Ak (Af Fa (Af Bz (Af Br (Af Bk (Aa 0) (Aa 3)) (Af Bk (Aa 0) (Aa 4))) (Aa 2)) (Aa 5)))
   (Az [] (eC (.bl false)))
   Bc)
def r_4:FS:=
  (Ag (Fu [1] (El (Aa 1)) (gV3 3 4 5) b_6)
  (Az [] (eC (.bl true))))
def h_8:List D->R W:=Ar 6 r_4
def q_1:FT:=
  (Ak (Af Fa (Aa 3) (Af Bk (Aa 1) (Aa 2))))
def ao_2:FS:=
  (Az [0,1] (An Dr #v[Ch 2 (ca_1 (Aa 0)) (gC2 2 3) q_1 (Aa 2)]))
def n_5:List D->R W:=Ar 2 ao_2
def t_8:FE:=
  (Af addT (Bl 2 k_4 #v[6,3]) (Bq #v[7]))
def j_2:FE:=
  (Bl 2 n_5 #v[1,6])
def j_3:FT:=
  (Bn (Bl 3 h_8 #v[6,4,Af Bk (Aa 3) (eC (.int 2))]))
def ai_2:FS:=
  (Ag (Al 4 [2,3] (Ch 2 (aa_8 (Aa 2)) (gC2 6 7) (λ_=> .ok true) t_8))
  (Ag (Al 5 [0,1,3,4] (Ch 1 (El (Aa 0)) (gC 6) j_3 j_2))
  (Ag (Bx [5] (Ak (Af Dd (Aa 5) (Cd Ac)))
   (Az [] (eC (.str "stuck")))
   Bc)
  (Az [5] (An minL #v[5])))))
def l_4:List D->R W:=Ar 6 ai_2
def y_3:FS:=
  (Az [0,1] (eAnd (eNot (eIs "bool" (Aa 0))) (z_8 leD ltD (eC (.int 0)) (Aa 0) (Aa 1))))
def i_6:List D->R W:=Ar 2 y_3
def d_8:FS:=
  (Bx [2,6] (Ak (Af (Dm true) (Aa 6) (Aa 2)))
   (Ag (bb_7 2 [4,5] (Aa 6) (Bq #v[5,4]))
  (sApp 3 (Aa 6)))
   Bc)
def s_2:FT:=
  (Ak (Af gtD (An Dr #v[3]) (eC (.int 0))))
def s_3:FS:=
  (Ag (bp_9 4 3 (eC (.int 0)))
  (Fu [1,4] (El (bm_6 (Aa 1) (Aa 4) (Cd Ac))) (gV2 5 6) d_8))
def af_4:FS:=
  (Ag (Al 2 [0] (cs_9 (Aa 0) (eC .non)))
  (Ag (Al 3 [0] (Cd #v[0]))
  (Ag (v_8 [3] s_2 s_3 3000)
  (Cl 2))))
def k_5:List D->R W:=Ar 7 af_4
def ao_3:FS:=
  (Az [0,1] (eIf (Ak (Af Dd (Aa 1) (eC (.int 0)))) (eC (.int 0)) (Af Bz (Aa 0) (Aa 1))))
def n_6:List D->R W:=Ar 2 ao_3
def j_4:FS:=
  (Ag (Ei 7 (Et [0] (eIf (Ak (Af ltD (Aa 5) (Cp ["Living"] "part" (Aa 0)))) (Aa 2) (Aa 3))))
  (sApp 4 (eIf (Ak (Af (Dm false) (Aa 5) (Aa 1))) (Bl 2 n_6 #v[Af Br (Aa 6) (Aa 7),Cp ["Living"] "modulus" (Aa 0)]) (Aa 6))))
def ab_0:FS:=
  (Ag (Al 4 [] (Cd Ac))
  (Ag (bp_6 (Et [0] (Cp ["Living"] "listed" (Aa 0))) (gV2 5 6) j_4)
  (bp_3 0 ["Living"] "listed" [4] (Aa 4))))
def d_2:Tn->List D->RR:=w_6 8 ab_0
def ae_1:FS:=
  (Ag (Al 4 [1,3] (Bl 2 k_5 #v[Af Bk (Aa 1) (eC (.int 0)),3]))
  (Ag (Al 5 [1,3] (Bl 2 k_5 #v[Af Bk (Aa 1) (eC (.int 1)),3]))
  (Ag (Bx [1,4] (Ak (Af (Dm false) (Af Bk (Aa 1) (eC (.int 1))) (Aa 4)))
   (ac_9 "Stuck")
   Bc)
  (Ag (Bx [4,5] (Ak (Af leD (An Fo #v[4]) (An Fo #v[5])))
   (Ag (t_4 (k_3 [2,4] (r_7 0 3 "shift" "Living" d_2 (Bw (Aa 4) (Bw (Aa 2) (Bw (eNeg (Aa 2)) Ff))))))
  (r_6 (z_1 [4] (An Fo #v[4]))))
   Bc)
  (Ag (t_4 (k_3 [2,5] (r_7 0 3 "shift" "Living" d_2 (Bw (Aa 5) (Bw (eNeg (Aa 2)) (Bw (Aa 2) Ff))))))
  (r_6 (z_1 [5] (An Fo #v[5]))))))))
def g_8:Tn->List D->RR:=w_6 6 ae_1
def m_3:FE:=
  (Af (inD false) (Aa 1) (eC (.str "abcdefghijklmnopqrstuvwxyz0123456789-_ ")))
def ae_2:FS:=
  (Az [0] (eAnd (Af leD (An Dr #v[0]) (eC (.int 11))) (An allD #v[(Ch 1 (El (Aa 0)) (gC 1) (λ_=> .ok true) m_3)])))
def m_0:List D->R W:=Ar 1 ae_2
def aw_1:FS:=
  (Ag (Bx [0] (Bn (eIs "bool" (Aa 0)))
   (Az [] (eC (.bl false)))
   Bc)
  (Ag (Bx [0] (Bn (eIs "int" (Aa 0)))
   (Az [0] (z_8 leD leD (eC (.int 0)) (Aa 0) (eC (.int 999999999999999999))))
   Bc)
  (Az [0] (eAnd (eIs "str" (Aa 0)) (Bl 1 m_0 #v[0])))))
def w_8:List D->R W:=Ar 1 aw_1
def am_0:FS:=
  (Al 1 [1,2] (Af Br (Af Br (Af Dg (eC (.int 40)) (Aa 1)) (eMeth "str" bm_2 (eC (.str "abcdefghijklmnopqrstuvwxyz0123456789-_ ")) #v[2])) (eC (.int 1))))
def cc_8:FS:=
  (Ag (Al 1 [] (eC (.int 0)))
  (Ag (Fu [0] (El (Aa 0)) (gV 2) am_0)
  (Cl 1)))
def ai_3:List D->R W:=Ar 3 cc_8
def bh_7:FS:=
  (Ag (Bx [0] (Fw (Bn (Bl 1 w_8 #v[0])))
   (af_0 "NoKey" "at" [] (eC (.int 0)))
   Bc)
  (Ag (Bx [0] (Bn (eIs "str" (Aa 0)))
   (Az [0] (Af Br (Af Dg (eC (.int 2)) (Bl 1 ai_3 #v[0])) (eC (.int 1))))
   Bc)
  (Az [0] (Af Dg (eC (.int 2)) (Aa 0)))))
def l_5:List D->R W:=Ar 1 bh_7
def cc_9:FS:=
  (Ag (Bx [2] (Ak (Af Dd (Aa 2) (eC (.int 0))))
   (Az [] (eC (.int 0)))
   Bc)
  (Ag (Al 3 [1] (Af Br (eC (.int 1)) (Af Bz (Af Br (Af Dg (eC (.int 1103515245)) (Aa 1)) (eC (.int 12345))) (Af Fe (eC (.int 2305843009213693951)) (eC (.int 1))))))
  (Ag (Al 4 [1] (Af Bz (Af Br (Af Dg (Af Dg (eC (.int 69069)) (Aa 1)) (Aa 1)) (Af Dg (eC (.int 7)) (Aa 1))) (eC (.int 2305843009213693951))))
  (Ag (Al 5 [0,3,4] (Af Bz (Af Br (Af Dg (Aa 3) (Aa 0)) (Aa 4)) (eC (.int 2305843009213693951))))
  (Az [2,5] (Af Bz (Af Br (Aa 5) (Af Gb (Aa 5) (eC (.int 2147483648)))) (Aa 2)))))))
def ai_4:List D->R W:=Ar 6 cc_9
def q_2:FE:=
  (Af Br (Af Dg (Aa 5) (Aa 3)) (Bl 3 ai_4 #v[4,Af Br (Af Dg (eC (.int 4)) (Aa 1)) (Aa 5),3]))
def ao_4:FS:=
  (Ag (Al 4 [0] (Bl 1 l_5 #v[0]))
  (Az [1,2,3,4] (An co_3 #v[(Ch 1 (Bv Cr #v[2]) (gC 5) (λ_=> .ok true) q_2)])))
def q_7:List D->R W:=Ar 5 ao_4
def z_2:FS:=
  (Az [0,1] (Bl 4 q_7 #v[1,Cp ["Living"] "by_salt" (Aa 0),eC (.int 2),Cp ["Living"] "part" (Aa 0)]))
def c_2:List D->R W:=Ar 2 z_2
def t_9:FE:=
  (Af Bk (Aa 0) (Aa 4))
def u_0:FT:=
  (Bn (Bl 2 i_6 #v[4,An Dr #v[0]]))
def bq_1:FS:=
  (Ag (Al 3 [0,1] (Ch 1 (El (Aa 1)) (gC 4) u_0 t_9))
  (Az [2,3] (Bl 2 n_6 #v[An sumD #v[3],2])))
def ab_1:List D->R W:=Ar 4 bq_1
def ab_2:FS:=
  (Az [0,1] (Bl 3 ab_1 #v[Cp ["Living"] "listed" (Aa 0),Cg "places" 1 [("Living",c_2)] (Aa 0) #v[1],Cp ["Living"] "modulus" (Aa 0)]))
def e_8:List D->R W:=Ar 2 ab_2
def ao_5:FS:=
  (Ag (sSdb 1 (Af Bk (Aa 3) (eC (.int 0))) (Bq #v[2,Af Bk (Aa 3) (eC (.int 1))]))
  (sSdb 1 (Af Bk (Aa 3) (eC (.int 1))) (Bq #v[2,Af Bk (Aa 3) (eC (.int 0))])))
def am_1:FS:=
  (Ag (Al 1 [] ah_0)
  (Ag (Fu [0] (El (Aa 0)) (gV2 2 3) ao_5)
  (Cl 1)))
def ad_2:List D->R W:=Ar 4 am_1
def f_7:FE:=
  (Bq #v[2,Cg "places" 1 [("Living",c_2)] (Aa 0) #v[2]])
def f_8:FT:=
  (Ak (Af Fa (Aa 2) (Aa 1)))
def o_9:FS:=
  (Az [0,1] (Bl 1 ad_2 #v[Ch 1 (bo_4 (Cp ["Living"] "by_key" (Aa 0))) (gC 2) f_8 f_7]))
def b_2:List D->R W:=Ar 2 o_9
def ai_5:FS:=
  (Ag (Ei 3 (Et [0] (Cg "places" 1 [("Living",c_2)] (Aa 0) #v[1])))
  (Ag (Bx [0,2] (Fw (Bn (Bl 2 i_6 #v[2,Cp ["Living"] "modulus" (Aa 0)])))
   (af_0 "NoValue" "at" [] (eC (.int 0)))
   Bc)
  (Ag (Ei 4 (Et [0] (Af Fe (Aa 2) (Cg "value" 1 [("Living",e_8)] (Aa 0) #v[1]))))
  (Ag (Al 5 [] (eC (.int 0)))
  (Ag (Bx [4] (Ak (Af Fa (Aa 4) (eC (.int 0))))
   (Ei 5 (k_3 [1,3,4] (r_7 0 3 "mend" "Living" g_8 (Bw (Aa 3) (Bw (Aa 4) (an_7 [0] (Cg "ways_without" 1 [("Living",b_2)] (Aa 0) #v[1]) Ff))))))
   Bc)
  (Ag (bc_3 0 ["Living"] "by_key" (Aa 1) (Aa 2))
  (r_6 (z_1 [5] (Aa 5)))))))))
def i_2:Tn->List D->RR:=w_6 6 ai_5
def q_8:FS:=
  (Ei 3 (k_3 [1,2] (r_7 0 2 "put" "Living" i_2 (Bw (Aa 1) (Bw (Aa 2) Ff)))))
def ab_3:FS:=
  (Al 3 [] (eC (.str "stuck")))
abbrev L49:List (Str×Bool):=[("NoKey",false),("NoSuch",false),("NoValue",false),("Stuck",true)]
def bc_8:FS:=
  (Ag (au_5 q_8 [⟨none, L49,ab_3⟩])
  (r_6 (z_1 [3] (Aa 3))))
def n_7:Tn->List D->RR:=w_6 4 bc_8
def ab_4:FS:=
  (Az [0] (An bu_4 #v[Cp ["Living"] "listed" (Aa 0)]))
def b_3:List D->R W:=Ar 1 ab_4
def m_4:FE:=
  (Bq #v[1,Af getK (Cp ["Living"] "by_key" (Aa 0)) (Aa 1)])
def ae_3:FS:=
  (Az [0] (Ch 1 (El (av_1 l_5 (Cp ["Living"] "by_key" (Aa 0)))) (gC 1) (λ_=> .ok true) m_4))
def d_3:List D->R W:=Ar 1 ae_3
def v_2:FE:=
  (Af addT (Bl 2 k_4 #v[12,2]) (Bq #v[13]))
def v_3:FS:=
  (Ei 6 (Et [0] (Cg "table" 0 [("Living",b_3)] (Aa 0) Ac)))
def o_2:FS:=
  (Ei 7 (Et [0] (Cg "kept" 0 [("Living",d_3)] (Aa 0) Ac)))
def o_3:FS:=
  (cc_7 8 [1] (An cu_3 #v[1]))
def v_4:FS:=
  (bb_7 8 [5] (Aa 4) (Aa 5))
def o_4:FS:=
  (Al 9 [2,3,6,8] (Bl 4 l_4 #v[3,6,8,2]))
def o_5:FS:=
  (Ei 10 (k_3 [4,5] (au_8 0 2 n_7 (Bw (Aa 4) (Bw (Aa 5) Ff)))))
def i_3:FS:=
  (Bx [9,10] (tOrF (Ak (Af Fa (Aa 10) (Aa 9))) (Bn (eIs "bool" (Aa 10))))
   (r_6 (z_1 [] (eC (.bl false))))
   Bc)
def i_4:FS:=
  (Bx [10] (Ak (Af Dd (Aa 10) (eC (.str "stuck"))))
   (r_6 (Et [0] (eAnd (Af Dd (Cg "table" 0 [("Living",b_3)] (Aa 0) Ac) (Aa 6)) (Af Dd (Cg "kept" 0 [("Living",d_3)] (Aa 0) Ac) (Aa 7)))))
   Bc)
def o_6:FS:=
  (cc_6 1 (Aa 4) (Aa 5))
def m_7:FS:=
  (bq_0 11 [1] (Ch 2 (aa_8 (Aa 1)) (gC2 12 13) (λ_=> .ok true) v_2))
def m_8:FS:=
  (r_6 (Et [0] (eAnd (Af Dd (Bl 2 n_5 #v[6,Cg "table" 0 [("Living",b_3)] (Aa 0) Ac]) (Aa 10)) (Bl 3 h_8 #v[Cg "table" 0 [("Living",b_3)] (Aa 0) Ac,11,Af Bk (Aa 2) (eC (.int 2))]))))
def z_3:FS:=
  (Ag v_3
  (Ag o_2
  (Ag o_3
  (Ag v_4
  (Ag o_4
  (Ag o_5
  (Ag i_3
  (Ag i_4
  (Ag o_6
  (Ag m_7
  m_8))))))))))
def g_0:Tn->List (Ae×D)->List D->RR2:=av_6 12 z_3
def ae_4:FS:=
  (Ag (sExpr [1] (Bl 1 l_5 #v[1]))
  (Ag (Bx [0,1] (Ak (Af (Dm true) (Aa 1) (Cp ["Living"] "by_key" (Aa 0))))
   (ac_9 "NoSuch")
   Bc)
  (bp_2 0 ["Living"] "by_key" (Aa 1))))
def f_1:Tn->List D->RR:=w_6 2 ae_4
def v_5:FS:=
  (Ag (an_6 0 ["Living"] "part" [1] (Aa 1))
  (Ag (an_6 0 ["Living"] "by_salt" [2] (Aa 2))
  (Ag (an_6 0 ["Living"] "modulus" [3] (Aa 3))
  (Ag (an_6 0 ["Living"] "listed" [1] (eRep #v[eC (.int 0)] (Af Dg (eC (.int 2)) (Aa 1))))
  (bp_4 0 ["Living"] "by_key" ah_0)))))
def w_9:List D->R (List Str×List Tn):=Ew 4 "Living" v_5
def ar_1:FS:=
  (Ag (bp_5 (bc_0 [10,11,12]) (Et [5] (Bl 5 l_0 #v[0,eC (.int 3),6,5,2])))
  (Ag (Ei 9 (Et [4] (Cg "table" 0 [("Living",b_3)] (Aa 4) Ac)))
  (Bx [5,10,11] (Eb (Ak (Af (Dm false) (Aa 11) (Aa 5))) (tOrF (Ak (Af Dd (Aa 10) (eC (.int 1)))) (Ak (Af gtD (An Fo #v[5]) (eC (.int 8))))))
   (Ag (t_4 (k_3 [11] (r_7 4 1 "drop" "Living" f_1 (Bw (Aa 11) Ff))))
  (Ag (cc_1 5 (Aa 11))
  (Bx [4,9] (Ak (Af Fa (Cg "table" 0 [("Living",b_3)] (Aa 4) Ac) (Aa 9)))
   (Az [] (eC (.bl false)))
   Bc)))
   (Bx [5,11] (tOrF (Ak (Af ltD (An Fo #v[5]) (eC (.int 8)))) (Ak (Af (Dm false) (Aa 11) (Aa 5))))
   (sIfM (mNot (cc_0 (k_3 [2,3,11,12] (ai_0 4 5 4 g_0 (Bw (Aa 2) (Bw (Aa 3) (Bw (Aa 11) (Bw (Aa 12) Ff))))))))
   (Az [] (eC (.bl false)))
   Bc)
   Bc))))
def bh_8:FS:=
  (Al 1 [0] (Bl 2 g_9 #v[Bl 2 h_2 #v[0,eC (.int 1)],eC (.int 9)]))
def bh_9:FS:=
  (sUnp (gP 7 8) [1] (Af Bk (Cd #v[Bq #v[eC (.int 1),eC (.int 2)],Bq #v[eC (.int 1),eC (.int 9)],Bq #v[eC (.int 2),eC (.int 2)],Bq #v[eC (.int 2),eC (.int 3)],Bq #v[eC (.int 2),eC (.int 4)],Bq #v[eC (.int 3),eC (.int 2)],Bq #v[eC (.int 3),eC (.int 2)],Bq #v[eC (.int 2),eC (.int 3)]]) (Af Bz (Aa 1) (eC (.int 8)))))
def bi_0:FS:=
  (Al 2 [0,7,8] (Bq #v[7,Af Bk (Bl 2 q_6 #v[0,eC (.int 3)]) (eC (.int 1)),8]))
def ar_2:FS:=
  (Al 3 [7,8] (Bl 2 j_1 #v[Af Dg (eC (.int 2)) (Aa 7),8]))
def bi_1:FS:=
  (Al 4 [2] (cs_7 "Living" 3 w_9 #v[Af Bk (Aa 2) (eC (.int 0)),Af Bk (Aa 2) (eC (.int 1)),Af Bk (Aa 2) (eC (.int 2))]))
def cd_0:FS:=
  (Al 5 [] ah_0)
def bi_2:FS:=
  (Fu [0] (Bv Cr #v[Bl 3 p_5 #v[0,eC (.int 3),eC (.int 24)]]) (gV 6) ar_1)
def bi_3:FS:=
  (Az [4,5] (Af Dd (An Dr #v[Cg "kept" 0 [("Living",d_3)] (Aa 4) Ac]) (An Fo #v[5])))
def di_8:FS:=
  (Ag bh_8
  (Ag bh_9
  (Ag bi_0
  (Ag ar_2
  (Ag bi_1
  (Ag cd_0
  (Ag bi_2
  bi_3)))))))
def di_9:List D->R W:=Ar 13 di_8
end My
namespace L3
open PySem L2
def okD:Nat->D->Bool
 |_,.non=>true
 |_,.bl _=>true
 |_,.int _=>true
 |_,.str x=>x.cps.all (· < 0x110000)
 |n + 1,.lst ds=>ds.all (okD n)
 |n + 1,.tup ds=>ds.all (okD n)
 |_,_=>false
def aw_2:∀(n:Nat) (d:D),okD n d=true->(Db d).canLay0=true/\(Db d).depth<=n/\(Db d).eqv (Db d)=true:=by
 intro n
 induction n with
 |zero=>
  intro d h;cases d with
  |non=>exact⟨rfl,B5 _,rfl⟩
  |bl b=>exact⟨rfl,B5 _,by cases b <;> rfl⟩
  |int i=>exact⟨rfl,B5 _,by show(i ==i)=true;simp⟩
  |str x=>exact⟨h,B5 _,by show(x ==x)=true;simp⟩
  |_=>cases h
 |succ n ih=>
  have all:∀ds:List D,ds.all (okD n)=true->PyData.canLayAll0 (u_9 ds)=true/\PyData.depthAll (u_9 ds)<=n/\PyData.eqvAll (u_9 ds) (u_9 ds)=true:=by
   intro ds
   induction ds with
   |nil=>intro _;exact⟨rfl,L0 _,rfl⟩
   |cons d ds ih2=>
    intro h;rw[N7,C8]at h;obtain⟨a1,a2,a3⟩:=ih d h.1;obtain⟨b1,b2,b3⟩:=ih2 h.2;refine⟨?_, ?_, ?_⟩
    ·show(PyData.canLay0 (Db d) && PyData.canLayAll0 (u_9 ds))=true;rw[a1,b1];rfl
    ·show max (PyData.depth (Db d)) (PyData.depthAll (u_9 ds))<=n;exact Nat.max_le.mpr ⟨a2,b2⟩
    ·show(PyData.eqv (Db d) (Db d) && PyData.eqvAll (u_9 ds) (u_9 ds))=true;rw[a3,b3];rfl
  intro d h;cases d with
  |non=>exact⟨rfl,L0 _,rfl⟩
  |bl b=>exact⟨rfl,L0 _,by cases b <;> rfl⟩
  |int i=>exact⟨rfl,L0 _,by show(i ==i)=true;simp⟩
  |str x=>exact⟨h,L0 _,by show(x ==x)=true;simp⟩
  |lst ds=>
   obtain⟨b1,b2,b3⟩:=all ds h;exact⟨b1,Z6 b2,b3⟩
  |tup ds=>
   obtain⟨b1,b2,b3⟩:=all ds h;exact⟨b1,Z6 b2,b3⟩
  |_=>cases h
def bq_2{n:Nat}{d:D}(h:okD n d=true)(hn:n<=60):Fj d d=true/\Fq d d=true:=by
 obtain⟨a1,a2,a3⟩:=aw_2 n d h;refine⟨?_,a3⟩;unfold Fj;rw[a1,D9 (C5 a2 hn)];rfl
def aw_3{d:D}(n:Nat)(h:okD n d=true)(hn:n<=60:=by decide):Dd d d=.ok (.sh (.bl true)):=by
 obtain⟨h1,h2⟩:=bq_2 h hn;unfold Dd
 split
 ·simp
 ·rw[if_pos h1,h2]
def cu_5{d:D}(n:Nat)(h:okD n d=true)(hn:n<=60:=by decide):Fa d d=.ok (.sh (.bl false)):=by
 obtain⟨h1,h2⟩:=bq_2 h hn;unfold Fa
 split
 ·simp
 ·rw[if_pos h1,h2];rfl
theorem am_2{α:Type}(f:α->Int):∀l:List α,ag_9 (l.map λa=>D.int (f a))=some (l.map f)
 | []=>rfl
 |a::l=>by
  show(ag_9 (l.map λa=>D.int (f a))).map (f a:: ·)=_;rw[am_2 f l];rfl
def dq_2{α:Type}(f:α->Int)(l:List α):sumD [.lst (l.map λa=>D.int (f a))]=.ok (.sh (.int (l.map f).sum)):=by
 unfold sumD;simp only[am_2]
def dv_9{n i:Nat}(h:i < n):ixN n (i:Int)=some i:=by
 unfold ixN;rw[if_pos (),if_pos ()];simp
def dw_0{α:Type}{xs:List α}{i:Nat}{x:α}(h:xs[i]? =some x):atI xs (i:Int)=some x:=by
 unfold atI;rw[dv_9 (B6.mp h).1];exact h
end L3
namespace My
open PySem L2 L3
def mixZ(c k:Int):Int:=((c + 1) * (48271 + 118 * k) % 2147483629 / 977 * 16807 + (c + 1) * (48271 + 118 * k) % 2147483629 * (k * k + 7) + k) % 2147483587
def af_5(c k:Int)(h1: -1000<=k)(h2:k<=1000):g_9 [.int c,.int k]=.ok (.sh (.int (mixZ c k))):=by
 have hk: -18446744073709551616 < k * k + 7/\k * k + 7 < 18446744073709551616:=by
  have:k * k<=1000 * 1000:=by
   rcases Int.le_total 0 k with h|h
   ·exact Int.mul_le_mul h2 h2 h ⋯
   ·have:(-k) * (-k)<=1000 * 1000:=Int.mul_le_mul () () () ⋯
    rwa[Int.neg_mul_neg]at this
  have:0<=k * k:=by
   rcases Int.le_total 0 k with h|h
   ·exact Int.mul_nonneg h h
   ·have:=Int.mul_nonneg (a:= -k) (b:= -k) () ()
    rwa[Int.neg_mul_neg]at this
  omega
 have m1:Em 118 k=true:=m_6 ⋯ ⋯;have m2:Em (c + 1) (48271 + 118 * k)=true:=bg_3 () ();have m3:∀z:Int,Em z 16807=true:=λz=>bg_3 ⋯ ⋯;have m4:Em k k=true:=m_6 () ();have m5:∀z:Int,Em z (k * k + 7)=true:=λz=>bg_3 hk.1 hk.2
 simp![g_9,bc_7,Ao,k_1 m1,k_1 m2,k_1 (m3 _),k_1 m4,k_1 (m5 _),k_7,aa_4 (show(0:Int) < 977 by decide) ⋯,Cy (show(0:Int) < 2147483629 by decide),Cy (show(0:Int) < 2147483587 by decide)]
 rfl
def dj_0(ns:List Int)(k:Int)(h:0<=k)(hk:k < (ns.length:Int)):atI (ns.map D.int) k=some (.int (ns.getD k.toNat 0)):=by
 apply bv_5 h;rw[A9];have:k.toNat < ns.length:=by omega
 simp[List.getD,this]
def Fs(ns:List Int)(k:Int):Int:=mixZ (if k < (ns.length:Int) then ns.getD k.toNat 0 % 2147483647 else 0) (k + 101)
def ai_6(ns:List Int)(k:Int)(h:0<=k)(h2:k<=500):h_2 [.lst (ns.map .int),.int k]=.ok (.sh (.int (Fs ns k))):=by
 simp![h_2,av_7,Ao,s_0,Ez,A3]
 unfold Fs
 by_cases hk:k < (ns.length:Int)
 ·simp![hk,W5,if_true,r_3 (dj_0 ns k h hk),Ao,Cy (show(0:Int) < 2147483647 by decide),k_7,af_5 _ (k + 101) () ()]
 ·simp![hk,X7,T6,Ao,k_7,af_5 _ (k + 101) () ()]
def cd_1(c k:Int):0<=mixZ c k:=K2 _ ⋯
def cd_2(c k:Int):mixZ c k < 2147483587:=F6 _ ⋯
def cu_6(ns:List Int)(k:Int):0<=Fs ns k:=cd_1 _ _
def cu_7(ns:List Int)(k:Int):Fs ns k < 2147483587:=cd_2 _ _
def dq_3(ns:List Int)(k:Int)(h:0<=k)(h2:k<=400):∃z,p_6 [.lst (ns.map .int),.int k]=.ok (.sh (.int z)):=by
 have fin:∀c:Int,∃z,Ag (Bx [0] (Ak (Af Dd (Af Bz (Bl 2 h_2 #v[0,eC (.int 0)]) (eC (.int 2))) (eC (.int 0)))) (Cl 2) Bc) (Az [1,2] (Bl 2 g_9 #v[Bl 2 g_9 #v[Af Bz (Aa 2) (eC (.int 2147483647)),Af Br (Aa 1) (eC (.int 7))],1])) [.sh (.lst (ns.map .int)),.sh (.int k),.sh (.int c)]=.rt (.sh (.int z)):=λc=>by
  have ec:=ai_6 ns 0 ⋯ ⋯
  by_cases hz:Fs ns 0 % 2=0
  ·exact⟨c,by simp![Ao,ec,Cy (show(0:Int) < 2 by decide),k_0,hz,W5]⟩
  ·exact⟨mixZ (mixZ (c % 2147483647) (k + 7)) k,by simp![Ao,ec,Cy (show(0:Int) < 2 by decide),k_0,hz,X7,Cy (show(0:Int) < 2147483647 by decide),k_7,af_5 _ (k + 7) () (),af_5 _ k () ()]⟩
 by_cases hk:k < (ns.length:Int)
 ·obtain⟨z,ez⟩:=fin (ns.getD k.toNat 0);refine⟨z, ?_⟩;unfold p_6 al_9 Ar;rw[Bg (Δ':=[.sh (.lst (ns.map .int)),.sh (.int k),.sh (.int 0)]) (by simp![Ao]),Bg (Δ':=[.sh (.lst (ns.map .int)),.sh (.int k),.sh (.int (ns.getD k.toNat 0))]) (by simp![Ao,s_0,Ez,A3,hk,W5,r_3 (dj_0 ns k h hk)]),ez]
 ·obtain⟨z,ez⟩:=fin 0;refine⟨z, ?_⟩;unfold p_6 al_9 Ar;rw[Bg (Δ':=[.sh (.lst (ns.map .int)),.sh (.int k),.sh (.int 0)]) (by simp![Ao]),Bg (Δ':=[.sh (.lst (ns.map .int)),.sh (.int k),.sh (.int 0)]) (by simp![Ao,s_0,Ez,A3,hk,X7]),ez]
def cd_3{ds:List D}{i:Int}(h0:0<=i)(h1:i < (ds.length:Int)):∃d,d∈ds/\atI ds i=some d:=by
 have hl:i.toNat < ds.length:=by omega
 exact⟨ds[i.toNat],V9 hl,bv_5 h0 (B3 hl)⟩
def cu_8:powD (.int 10) (.int 12)=.ok (.sh (.int 1000000000000)):=rfl
def cu_9(ns:List Int):∃p s m:Int,q_6 [.lst (ns.map .int),.int 3]=.ok (.sh (.tup [.int p,.int s,.int m]))/\1<=p/\p<=3/\0<=s/\s < 1003000000000/\2<=m/\m<=1000000001:=by
 have ec:=ai_6 ns 1 ⋯ ⋯;have c0:=cu_6 ns 1;have c1:=cu_7 ns 1;generalize Fs ns 1=c at ec c0 c1;have em:=af_5 c 5 ⋯ ⋯;have o0:=cd_1 c 5;have o1:=cd_2 c 5;generalize mixZ c 5=o at em o0 o1;have i0:=K2 (c / 32) (show(4:Int)≠0 by decide);have i1:=F6 (c / 32) (show(0:Int) < 4 by decide);have j0:=K2 o (show(8:Int)≠0 by decide);have j1:=F6 o (show(0:Int) < 8 by decide);obtain⟨d1,m1,e1⟩:=cd_3 (ds:=[.int 0,.int 1,.int (c / 64 % 1000),.int (1000000000000 + c)]) i0 i1;obtain⟨d2,m2,e2⟩:=cd_3 (ds:=[.int 2,.int 3,.int (2 + o / 8 % 9),.int 10,.int 1000,.int 1000000000,.int (2 + o / 8 % 999999999),.int 7]) j0 j1;have q1:∃s,d1=.int s/\0<=s/\s < 1003000000000:=by
  simp only[C6,T3,or_false]at m1;rcases m1 with rfl|rfl|rfl|rfl
  ·exact⟨_,rfl,by decide,by decide⟩
  ·exact⟨_,rfl,by decide,by decide⟩
  ·exact⟨_,rfl,by omega,by omega⟩
  ·exact⟨_,rfl,by omega,by omega⟩
 have q2:∃s,d2=.int s/\2<=s/\s<=1000000001:=by
  simp only[C6,T3,or_false]at m2;rcases m2 with rfl|rfl|rfl|rfl|rfl|rfl|rfl|rfl <;> exact⟨_,rfl,by omega,by omega⟩
 obtain⟨s,rfl,s0,s1⟩:=q1;obtain⟨m,rfl,m0,m1'⟩:=q2;refine⟨1 + c % 3,s,m, ?_,by omega,by omega,s0,s1,m0,m1'⟩;have dv:∀x y:Int,0 < y->y < 18446744073709551616->Gb (.int x) (.int y)=.ok (.sh (.int (x / y))):=λx y h h'=>aa_4 h ()
 simp![q_6,ao_0,Ao,ec,em,k_7,Cy (show(0:Int) < 8 by decide),Cy (show(0:Int) < 4 by decide),Cy (show(0:Int) < 3 by decide),Cy (show(0:Int) < 9 by decide),Cy (show(0:Int) < 1000 by decide),Cy (show(0:Int) < 999999999 by decide),dv _ 64 ⋯ ⋯,dv _ 32 ⋯ ⋯,dv _ 8 ⋯ ⋯,cu_8,r_3 e1,r_3 e2]
def wr:Nat->Int->List Nat->List Nat
 |0,_,zn=>zn
 |j + 1,r,zn=>wr j (r / 2) ((48 + (r % 2).toNat)::zn)
def Bt(l:List Nat):Str:=⟨l.toArray⟩
def m_1(l:List Nat):(Bt l).cps.toList=l:=by simp[Bt]
def ar_3(l:List Nat):(Bt l).length=l.length:=by rw[dc_5,m_1]
def dg_1(a b:List Nat):Bt a ++ Bt b=Bt (a ++ b):=dc_4 (by rw[dc_6,m_1,m_1,m_1])
def sgL:List Nat:=[97,98,99,100,101,102,103,104,105,106,107,108,109,110,111,112,113,114,115,116,117,118,119,120,121,122,48,49,50,51,52,53,54,55,56,57,45,95,32]
def dg_2:(Str.ofString "abcdefghijklmnopqrstuvwxyz0123456789-_ ").cps.toList=sgL:=by decide +kernel
def Bo(d:D):Prop:=(∃n:Int,d=.int n/\0<=n/\n<=999999999999999999)\/(∃l:List Nat,d=.str (Bt l)/\l.length<=11/\∀c∈l,c∈sgL)
def dw_1(r:Int):∃c∈sgL,Bk (.str "abcdefghijklmnopqrstuvwxyz0123456789-_ ") (.int (r % 39))=.ok (.sh (.str (Bt [c]))):=by
 have h0:=K2 r (show(39:Int)≠0 by decide);have h1:=F6 r (show(0:Int) < 39 by decide);have hl:(r % 39).toNat < sgL.length:=by show(r % 39).toNat < 39;omega
 refine⟨sgL[(r % 39).toNat],V9 hl,dc_8 nofun ?_⟩;rw[dg_2];exact bv_5 h0 (B3 hl)
def dg_3(z:Int):∃l:List Nat,t_7 [.int z]=.ok (.sh (.str (Bt l)))/\(l.length:Int)=z % 12/\l.length<=11/\∀c∈l,c∈sgL:=by
 have b0:=K2 z (show(12:Int)≠0 by decide);have b1:=F6 z (show(0:Int) < 12 by decide);obtain⟨Δ',e,l,r,a5,rfl,hl,hc⟩:=ci_0 (gV 3) y_2 (λk Δ=>∃(l:List Nat) (r:Int) (a5:Sl),Δ= [.sh (.int z),.sh (.str (Bt l)),.sh (.int r),a5]/\l.length=k/\∀c∈l,c∈sgL)
  (n:=(z % 12).toNat) (lo:=0) (Δ:=[.sh (.int z),.sh (.str ""),.sh (.int (z / 12)),.no]) ⟨[],z / 12,.no,rfl,rfl,λc hc=>absurd hc (by simp)⟩ (λk Δ hk hI=>by
  obtain⟨l,r,a5,rfl,hl,hc⟩:=hI;obtain⟨c,hcs,ec⟩:=dw_1 r;have zk:(Bt l).length + (Bt [c]).length<=16777216:=by rw[ar_3,ar_3];simp;omega
  refine⟨_,rfl,[.sh (.int z),.sh (.str (Bt (l ++ [c]))),.sh (.int (r / 39)),.sh (.int (0 + (k:Int)))],.inl ?_,_,_,_,rfl,by simp[hl], ?_⟩
  ·simp![y_2,gV,List.set_cons_succ,Y3,Ao,Cy (show(0:Int) < 39 by decide),ec,do_3 zk,dg_1,aa_4 (show(0:Int) < 39 by decide) ⋯]
  ·intro d hd;rcases F5.mp hd with hd|hd
   ·exact hc d hd
   ·have:d=c:=by simpa using hd
    rw[this];exact hcs)
 refine⟨l, ?_,by omega,by omega,hc⟩
 simp![t_7,av_9,Ao,aa_4 (show(0:Int) < 12 by decide) ⋯,Cy (show(0:Int) < 12 by decide),Fu,ah_3 (show -4611686018427387903<=z % 12 by omega) (),e]
def dq_4(z:Int):∃d,Bo d/\l_3 [.int z]=.ok (.sh d):=by
 have d4:=aa_4 (i:=z) (show(0:Int) < 4 by decide) ⋯;have m4:=Cy (i:=z) (show(0:Int) < 4 by decide);have p18:=do_4 (cq_5 (i:=10) (j:=18) ⋯ ⋯ ⋯ ⋯);have e18:(10:Int) ^ (18:Int).toNat=1000000000000000000:=by decide
 rw[e18]at p18;have:z % 4=0\/z % 4=1\/z % 4=2\/z % 4=3:=by omega
 rcases this with h|h|h|h
 ·refine⟨.int (z / 4 % 1000000000000000000),.inl ⟨_,rfl,by omega,by omega⟩, ?_⟩
  simp![l_3,w_7,Ao,d4,m4,k_0,h,p18,Cy (show(0:Int) < 1000000000000000000 by decide)]
 ·obtain⟨l,e,_,h1,h2⟩:=dg_3 (z / 4);refine⟨.str (Bt l),.inr ⟨l,rfl,h1,h2⟩, ?_⟩;have n0:¬(1:Int)=0:=by decide
  simp![l_3,w_7,Ao,d4,m4,k_0,h,n0,e]
 ·refine⟨.int (z / 4 % 50),.inl ⟨_,rfl,by omega,by omega⟩, ?_⟩;have n0:¬(2:Int)=0:=by decide
  have n1:¬(2:Int)=1:=by decide
  have e:atI [D.int 50,D.int 12] ((2:Int) - 2)=some (.int 50):=rfl
  simp![l_3,w_7,Ao,d4,m4,k_0,h,n0,n1,ae_9,r_3 e,Cy (show(0:Int) < 50 by decide)]
 ·refine⟨.int (z / 4 % 12),.inl ⟨_,rfl,by omega,by omega⟩, ?_⟩;have n0:¬(3:Int)=0:=by decide
  have n1:¬(3:Int)=1:=by decide
  have e:atI [D.int 50,D.int 12] ((3:Int) - 2)=some (.int 12):=rfl
  simp![l_3,w_7,Ao,d4,m4,k_0,h,n0,n1,ae_9,r_3 e,Cy (show(0:Int) < 12 by decide)]
def cd_4{a b:D}(ha:Bo a)(hb:Bo b):eqF a b=true↔a=b:=by
 rcases ha with⟨n,rfl,_⟩|⟨l,rfl,_⟩ <;> rcases hb with⟨m,rfl,_⟩|⟨k,rfl,_⟩
 ·show(n ==m)=true↔_;rw[M8];exact⟨λh=>by rw[h],λh=>by injection h⟩
 ·show false=true↔_;exact⟨λh=>(by cases h),λh=>(by cases h)⟩
 ·show false=true↔_;exact⟨λh=>(by cases h),λh=>(by cases h)⟩
 ·show(Bt l ==Bt k)=true↔_;rw[M8];exact⟨λh=>by rw[h],λh=>by injection h⟩
def mem_iff{d:D}{ks:List D}(hd:Bo d)(hk:∀k∈ks,Bo k):En d ks=true↔d∈ks:=by
 unfold En;rw[List.any_eq_true];constructor
 ·rintro ⟨y,hy,h⟩
  rw[<-(cd_4 (hk y hy) hd).mp h];exact hy
 ·intro h;exact⟨d,h,(cd_4 hd hd).mpr rfl⟩
def bi_5{d:D}(h:Bo d):PyData.canLay0 (Db d)=true/\PyData.depth (Db d)=0:=by
 rcases h with⟨n,rfl,_⟩|⟨l,rfl,_,hc⟩
 ·exact⟨rfl,rfl⟩
 ·refine⟨?_,rfl⟩;show(Bt l).cps.all (· < 0x110000)=true;rw[<-Array.all_toList,m_1,F0];intro c h;have:c∈sgL:=hc c h;have:∀c∈sgL,c < 0x110000:=by decide
  exact D9 (this c (hc c h))
def dg_4{a b:D}(ha:Bo a)(hb:Bo b):PyData.eqv (Db a) (Db b)=true↔a=b:=by
 rcases ha with⟨n,rfl,_⟩|⟨l,rfl,_⟩ <;> rcases hb with⟨m,rfl,_⟩|⟨k,rfl,_⟩
 ·show(n ==m)=true↔_;rw[M8];exact⟨λh=>by rw[h],λh=>by injection h⟩
 ·show false=true↔_;exact⟨λh=>(by cases h),λh=>(by cases h)⟩
 ·show false=true↔_;exact⟨λh=>(by cases h),λh=>(by cases h)⟩
 ·show(Bt l ==Bt k)=true↔_;rw[M8];exact⟨λh=>by rw[h],λh=>by injection h⟩
def sgI(c:Nat):Nat:=sgL.idxOf c
def cv_0:∀c∈sgL,Builtin.Str.occurrences "abcdefghijklmnopqrstuvwxyz0123456789-_ " ⟨#[c]⟩ 0 (Str.length "abcdefghijklmnopqrstuvwxyz0123456789-_ ") 1= [sgI c]:=by decide +kernel
def bw_5:∀c∈sgL,sgI c < 39:=by decide +kernel
def Eo(l:List Nat):Int:=l.foldl (λa c=>40 * a + (sgI c:Int) + 1) 0
def ao_6(l:List Nat)(k c:Nat)(h:l[k]? =some c):Eo (l.take (k + 1))=40 * Eo (l.take k) + (sgI c:Int) + 1:=by
 unfold Eo;rw[V1,h,List.foldl_append];rfl
def Cw:D->Int
 | .int n=>2 * n
 | .str x=>2 * Eo x.cps.toList + 1
 |_=>0
def cv_1:∀c∈sgL,Txt.find "abcdefghijklmnopqrstuvwxyz0123456789-_ " ⟨#[c]⟩=((sgI c:Nat):Int):=by decide +kernel
def dg_5{c:Nat}(h:c∈sgL):bm_2 (.str "abcdefghijklmnopqrstuvwxyz0123456789-_ ") [.str ⟨#[c]⟩]=.ok (.sh (.int (sgI c:Int))):=by
 show R.ok (W.sh (D.int (Txt.find "abcdefghijklmnopqrstuvwxyz0123456789-_ " ⟨#[c]⟩)))=_;rw[cv_1 c h]
def cv_2{c:Nat}(h:c∈sgL):al_0 (.str "abcdefghijklmnopqrstuvwxyz0123456789-_ ") [.str ⟨#[c]⟩]=.ok (.sh (.int (sgI c:Int))):=by
 show(match Builtin.Str.occurrences "abcdefghijklmnopqrstuvwxyz0123456789-_ " ⟨#[c]⟩ 0 (Str.length "abcdefghijklmnopqrstuvwxyz0123456789-_ ") 1 with
  |i::_=>R.ok (W.sh (D.int (i:Nat)))
  | []=>R.no)=_
 rw[cv_0 c h]
def dw_2{c:Nat}(h:c∈sgL):inD false (.str ⟨#[c]⟩) (.str "abcdefghijklmnopqrstuvwxyz0123456789-_ ")=.ok (.sh (.bl true)):=by
 show R.ok (W.sh (D.bl (!(Builtin.Str.occurrences "abcdefghijklmnopqrstuvwxyz0123456789-_ " ⟨#[c]⟩ 0 (Str.length "abcdefghijklmnopqrstuvwxyz0123456789-_ ") 1).isEmpty)))=_;rw[cv_0 c h];rfl
def q_9(l:List Nat):v_0 (Bt l)=l.map λc=> .str ⟨#[c]⟩:=by unfold v_0;rw[m_1]
def cv_3(l:List Nat)(hl:l.length<=11)(hc:∀c∈l,c∈sgL):ai_3 [.str (Bt l)]=.ok (.sh (.int (Eo l))):=by
 obtain⟨Δ',e,a2,rfl⟩:=s_6 (gV 2) am_0 (λk Δ=>∃a2,Δ= [.sh (.str (Bt l)),.sh (.int (Eo (l.take k))),a2]) (ds:=v_0 (Bt l)) (Δ:=[.sh (.str (Bt l)),.sh (.int 0),.no]) ⟨.no,rfl⟩ (λk d Δ hk hI=>by
  obtain⟨a2,rfl⟩:=hI;rw[q_9,A9]at hk;cases q:l[k]? with
  |none=>rw[q]at hk;cases hk
  |some c=>
   rw[q]at hk;cases hk;refine⟨_,rfl,[.sh (.str (Bt l)),.sh (.int (Eo (l.take (k + 1)))),.sh (.str ⟨#[c]⟩)],.inl ?_,_,rfl⟩;rw[ao_6 l k c q]
   simp![am_0,Ao,k_1 (m_6 (show(-18446744073709551616:Int) < 40 by decide) ⋯),N5,dg_5 (hc c (K0 q)),k_7])
 rw[q_9,A3,S9]at e
 simp![ai_3,cc_8,Ao,Fu,q_9,e]
def cj_4{d:D}(h:Bo d):w_8 [d]=.ok (.sh (.bl true)):=by
 rcases h with⟨n,rfl,h0,h1⟩|⟨l,rfl,hl,hc⟩
 ·simp![w_8,aw_1,Ao,z_8,au_3,h0,h1]
 ·have hx:(Bt l).length<=16777216:=by rw[ar_3];omega
  have ec:=cq_8 (fg:=gC 1) (f:=m_3) (δ:=[some (.str (Bt l)),none]) (λ_=> .bl true) (v_0 (Bt l)) (λd hd=>by
   rw[q_9]at hd;obtain⟨c,hcl,rfl⟩:=D3.mp hd;exact⟨_,.sh (.bl true),rfl,by simp![m_3,Ao,dw_2 (hc c hcl)],rfl⟩)
  have ec':=o_0 (m:=1) (fi:=El (Aa 0)) (fg:=gC 1) (p:=λ_=> .ok true) (f:=m_3) (δ:=[some (.str (Bt l))]) (by simp![Ao]) (by rw[q_9,A3];omega) ec;have ha:allD [.lst ((v_0 (Bt l)).map λ_=>D.bl true)]=.ok (.sh (.bl true)):=by
   have hb:∀l:List D,ak_9 (l.map λ_=>D.bl true)=some (l.map λ_=>true):=by
    intro l
    induction l with
    |nil=>rfl
    |cons a l ih=>show(ak_9 (l.map λ_=>D.bl true)).map (true:: ·)=_;rw[ih];rfl
   unfold allD;simp only[hb]
   congr 3
   rw[F0];intro b hb';obtain⟨_,_,rfl⟩:=D3.mp hb';rfl
  have fm:((Bt l).length:Int)<=11:=by rw[ar_3];omega
  have et:m_0 [.str (Bt l)]=.ok (.sh (.bl true)):=by
   simp![m_0,ae_2,Ao,cq_6 hx,au_3,fm,ec',ha]
  simp![w_8,aw_1,Ao,et]
def aw_4{d:D}(h:Bo d):l_5 [d]=.ok (.sh (.int (Cw d))):=by
 have hk:=cj_4 h;have m2:=λj:Int=>k_1 (m_6 (j:=j) (show(-18446744073709551616:Int) < 2 by decide) ⋯);rcases h with⟨n,rfl,h0,h1⟩|⟨l,rfl,hl,hc⟩
 ·simp![l_5,bh_7,Ao,hk,m2,Cw]
 ·simp![l_5,bh_7,Ao,hk,cv_3 l hl hc,m2,k_7,Cw,m_1]
def u_1(n s z:Int):Int:=
 (((1 + (1103515245 * s + 12345) % (2305843009213693951 - 1)) * n + (69069 * s * s + 7 * s) % 2305843009213693951) % 2305843009213693951 + ((1 + (1103515245 * s + 12345) % (2305843009213693951 - 1)) * n + (69069 * s * s + 7 * s) % 2305843009213693951) % 2305843009213693951 / 2147483648) % z
def aw_5(n s z:Int)(h1: -18446744073709551616 < s)(h2:s < 18446744073709551616)(hz:0 < z):ai_4 [.int n,.int s,.int z]=.ok (.sh (.int (u_1 n s z)))/\n_4 [.int n,.int s,.int z]=.ok (.sh (.int (u_1 n s z))):=by
 have n0:¬z=0:=by omega
 have f0:=K2 (1103515245 * s + 12345) (show(2305843009213693951 - 1:Int)≠0 by decide);have f1:=F6 (1103515245 * s + 12345) (show(0:Int) < 2305843009213693951 - 1 by decide);have a1:=k_1 (m_6 (i:=1103515245) (j:=s) ⋯ ⋯);have a2:=k_1 (m_6 (i:=69069) (j:=s) ⋯ ⋯);have a3:=k_1 (bg_3 (i:=69069 * s) (j:=s) h1 h2);have a4:=k_1 (m_6 (i:=7) (j:=s) ⋯ ⋯);have a5:=k_1 (m_6 (i:=1 + (1103515245 * s + 12345) % (2305843009213693951 - 1)) (j:=n) () ());have c1:=λi:Int=>Cy (i:=i) (show(0:Int) < 2305843009213693951 - 1 by decide);have c2:=λi:Int=>Cy (i:=i) (show(0:Int) < 2305843009213693951 by decide);have c3:=λi:Int=>Cy (i:=i) hz;have c4:=λi:Int=>aa_4 (i:=i) (show(0:Int) < 2147483648 by decide) ⋯;refine⟨?_, ?_⟩
 ·simp![ai_4,cc_9,Ao,k_0,n0,ae_9,k_7,a1,a2,a3,a4,c1,c2,a5,c4,c3]
  rfl
 ·simp![n_4,ao_1,Ao,ae_9,k_7,a1,a2,a3,a4,c1,c2,a5,c4,c3]
  rfl
end My
namespace L3
open PySem L2
theorem bq_3:∀{ds:List D} {k i:Nat} {d:D},ds[i]? =some d->(o_8 k ds)[i]? =some (.tup [.int ((k + i:Nat):Int),d])
 | [],_,_,_,h=>by simp at h
 |x::ds,k,0,d,h=>by simp at h;subst h;rfl
 |x::ds,k,i + 1,d,h=>by
  have:=bq_3 (ds:=ds) (k:=k + 1) (i:=i) (d:=d) (by simpa using h);show(o_8 (k + 1) ds)[i]? =_;rw[this,show k + 1 + i=k + (i + 1) by omega]
end L3
namespace My
open PySem L2 L3
def Aw:D->Ae
 | .int i=> .inl i
 | .str x=> .inr x
 |_=> .inl 0
def u_2{d:D}(h:Bo d):Ee d=some (Aw d):=by
 rcases h with⟨n,rfl,_⟩|⟨l,rfl,_⟩ <;> rfl
def ad_3{a b:D}(ha:Bo a)(hb:Bo b)(e:Aw a=Aw b):a=b:=by
 rcases ha with⟨n,rfl,_⟩|⟨l,rfl,_⟩ <;> rcases hb with⟨m,rfl,_⟩|⟨k,rfl,_⟩
 ·injection e with e;rw[e]
 ·cases e
 ·cases e
 ·injection e with e;rw[e]
def w_0(d:D)(salt ii:Int)(j:Int):Int:=j * ii + u_1 (Cw d) (4 * salt + j) ii
def bi_6(d:D)(salt ig ii:Int):List D:=(List.range ig.toNat).map λ(k:Nat)=>D.int (w_0 d salt ii (0 + (k:Int)))
def cj_5{d:D}(h:Bo d)(salt ig ii:Int)(s0:0<=salt)(s1:salt<=1003000000000)(hk:ig=2\/ig=3)(p0:0 < ii)(p1:ii<=2000):
  q_7 [d,.int salt,.int ig,.int ii]=.ok (.sh (.tup (bi_6 d salt ig ii)))/\True:=by
 have hr:=ah_3 (j:=ig) () ();have hl:(Ga 0 ig.toNat).length<=16777216:=by rw[ac_4];omega
 have cq:∀k:Nat,k < ig.toNat->Em (0 + (k:Int)) ii=true/\Em 4 salt=true:=λk hk=>⟨m_6 () (),m_6 ⋯ ⋯⟩;refine⟨?_,trivial⟩
 ·have ec:=ci_1 (fg:=gC 5) (p:=λ_=> .ok true) (f:=q_2) (δ:=[some d,some (.int salt),some (.int ig),some (.int ii),some (.int (Cw d)),none]) (F:=λi=> .int (w_0 d salt ii i)) ig.toNat 0 (λk hk'=>by
   obtain⟨m1,m2⟩:=cq k hk';refine⟨[some d,some (.int salt),some (.int ig),some (.int ii),some (.int (Cw d)),some (.int (0 + (k:Int)))],.sh (.int (w_0 d salt ii (0 + (k:Int)))),rfl,rfl, ?_,rfl⟩
   simp![q_2,Ao,k_1 m1,k_1 m2,k_7,(aw_5 (Cw d) (4 * salt + (0 + (k:Int))) ii () () p0).1,w_0])
  have ec':=o_0 (m:=1) (fi:=Bv Cr #v[2]) (fg:=gC 5) (p:=λ_=> .ok true) (f:=q_2) (δ:=[some d,some (.int salt),some (.int ig),some (.int ii),some (.int (Cw d))]) (by simp![Ao,hr]) hl ec
  simp![q_7,ao_4,Ao,aw_4 h,ec',co_3]
  rfl
def zi(ps:List Nat):List D:=ps.map λ(p:Nat)=>D.int (p:Int)
def bq_4(p n:Nat):i_6 [.int (p:Int),.int (n:Int)]=.ok (.sh (.bl (decide (p < n)))):=by
 simp![i_6,y_3,Ao,z_8,au_3,Ez,show(0:Int)<=(p:Int) by omega]
 rw[show decide ((p:Int) < (n:Int))=decide (p < n) by simp]
def ai_7(z m:Int)(h:0 < m):n_6 [.int z,.int m]=.ok (.sh (.int (z % m))):=by
 simp![n_6,ao_3,Ao,k_0,show¬m=0 by omega,Cy h]
def Ax(ts:List Int)(p:Nat):Int:=ts.getD p 0
def o_7(ts:List Int)(ps:List Nat):Int:=(ps.map (Ax ts)).sum
def bi_7{ts:List Int}{p:Nat}(h:p < ts.length):atI (ts.map D.int) (p:Int)=some (.int (Ax ts p)):=by
 refine dw_0 ?_;rw[A9];simp[Ax,List.getD,h]
def dg_6(ts:List Int)(a1 a2 a3:Option D)(ps:List Nat)(h:∀p∈ps,p < ts.length):
  Fv (gC 4) u_0 t_9 [some (.lst (ts.map .int)),a1,a2,a3,none] (zi ps)=.ok ((ps.map λp=>D.int (Ax ts p))):=by
 have:=l_2 (fg:=gC 4) (p:=u_0) (f:=t_9) (δ:=[some (.lst (ts.map .int)),a1,a2,a3,none]) (λ_=>true) (λd=>match d with| .int i=> .int (Ax ts i.toNat)|d=>d) (zi ps) λd hd=>by
  obtain⟨p,hp,rfl⟩:=D3.mp hd;have hl:=h p hp;refine⟨[some (.lst (ts.map .int)),a1,a2,a3,some (.int (p:Int))],rfl, ?_,λ_=>⟨.sh (.int (Ax ts p)), ?_,by simp⟩⟩
  ·simp![u_0,Ao,s_0,A3,bq_4,hl]
  ·simp![t_9,Ao,r_3 (bi_7 hl)]
 rw[this,Q6.mpr λ_ _=>rfl]
 congr 1
 unfold zi;rw[F8];refine Q7 λp _=> ?_;simp
def cj_6(ts:List Int)(ps:List Nat)(m:Int)(hm:0 < m)(h:∀p∈ps,p < ts.length)(hl:ps.length<=1000):ab_1 [.lst (ts.map .int),.tup (zi ps),.int m]=.ok (.sh (.int (o_7 ts ps % m))):=by
 have ec:=o_0 (m:=1) (fi:=El (Aa 1)) (fg:=gC 4) (p:=u_0) (f:=t_9) (δ:=[some (.lst (ts.map .int)),some (.tup (zi ps)),some (.int m),none]) (ds:=zi ps) (by simp![Ao]) (by unfold zi;rw[A3];omega) (dg_6 ts _ _ _ ps h)
 simp![ab_1,bq_1,Ao,ec,dq_2,ai_7 _ m hm]
 rfl
def lN:List Str:=["part","by_salt","modulus","listed","by_key"]
def Aj(p s m:Int)(T:List Int)(kds:List (Ae×D)):Tn:=.obj "Living" lN [.sh (.int p),.sh (.int s),.sh (.int m),.sh (.lst (T.map .int)),Tn.of (.dic kds)]
def Cb(p s m:Int)(T:List Int)(kds:List (Ae×D)):D:=.obj "Living" lN [.int p,.int s,.int m,.lst (T.map .int),.dic kds]
section
variable{p s m:Int}{T:List Int}{kds:List (Ae×D)}{d:D}
def ab_5:(Aj p s m T kds).d=Cb p s m T kds:=by
 have h:=Tn.of_d (.dic kds);show D.obj "Living" lN [.int p,.int s,.int m,.lst (T.map .int),(Tn.of (.dic kds)).d]=_;rw[h];rfl
theorem am_3:∀kds:List (Ae×D),Tn.lendsK (kds.map λp=>(p.1,Tn.sh p.2))=true
 | []=>by simp only[N0,Tn.lendsK]
 |(k,d)::kds=>by simp only[A8,Tn.lendsK,Tn.lends,am_3 kds,L9]
def aw_6:(Aj p s m T kds).lends=true:=by
 have h:(Tn.of (.dic kds)).lends=true:=by
  show Tn.lends (.dic (kds.map λp=>(p.1,.sh p.2)))=true;simp only[Tn.lends,am_3]
 simp only[Aj,Tn.lends,Tn.lendsL,h,L9]
def fld{f:Str}{v:D}{e:FE}{δ:DE}(he:e δ=.ok (.sh (Cb p s m T kds)))(h:(lN.zip [D.int p,.int s,.int m,.lst (T.map .int),.dic kds]).lookup f=some v):Cp ["Living"] f e δ=.ok (.sh v):=by
 unfold Cp;rw[he];simp only[R.bind_ok,W.d_sh,Cb];rw[h];rfl
def am_4(h:Bo d)(s0:0<=s)(s1:s<=1003000000000)(p0:0 < p)(p1:p<=2000):c_2 [Cb p s m T kds,d]=.ok (.sh (.tup (bi_6 d s 2 p))):=by
 have e1:Cp ["Living"] "by_salt" (Aa 0) [some (Cb p s m T kds),some d]=.ok (.sh (.int s)):=fld rfl rfl;have e2:Cp ["Living"] "part" (Aa 0) [some (Cb p s m T kds),some d]=.ok (.sh (.int p)):=fld rfl rfl;have:=(cj_5 h s 2 p s0 s1 (.inl rfl) p0 p1).1
 simp![c_2,z_2,Ao,e1,e2,this]
def ab_6(hl:T.length<=1000):b_3 [Cb p s m T kds]=.ok (.ow (.lst (T.map .int))):=by
 have e1:Cp ["Living"] "listed" (Aa 0) [some (Cb p s m T kds)]=.ok (.sh (.lst (T.map .int))):=fld rfl rfl
 simp![b_3,ab_4,Ao,e1,bu_4]
end
theorem bc_9:∀(Δ:SE) (n:Nat),v_1 [0] (n + 1) Δ=At Δ
 | [],_=>rfl
 |s::Δ,n=>by
  have h:([0]:List Nat).contains (n + 1)=false:=by simp
  simp only[v_1,h,N6,T6,bc_9 Δ (n + 1)];rfl
def dj_1(t:Tn)(Δ:SE):x_9 [0] (.lt t::Δ)=some t.d::At Δ:=by
 show(if([0]:List Nat).contains 0=true then(Sl.lt t).any else(Sl.lt t).pub)::v_1 [0] (0 + 1) Δ=_;rw[bc_9];rfl
section
variable{p s m:Int}{T:List Int}{kds:List (Ae×D)}{d:D}{Δ:SE}{f:FE}
def bd_0:j_0 [0] (.lt (Aj p s m T kds)::Δ)=true:=by
 have h:=aw_6 (p:=p) (s:=s) (m:=m) (T:=T) (kds:=kds);simp only[j_0,N7,List.all_nil,M7,Sl.own,h,L9]
def v_6{w:W}(h:f (some (Cb p s m T kds)::At Δ)=.ok w)(hp:o_1 w=true):Et [0] f (.lt (Aj p s m T kds)::Δ)=.ok w.d (.lt (Aj p s m T kds)::Δ):=by
 unfold Et;rw[bd_0,if_pos rfl,dj_1,ab_5,h];simp only[hp,if_true]
def met1{F:AF}{n:Str}{e a:FE}{δ:DE}{w:W}(he:e δ=.ok (.sh (Cb p s m T kds)))(ha:a δ=.ok w)(hn:lN.contains n=false):Cg n 1 [("Living",F)] e #v[a] δ=F [Cb p s m T kds,w.d]:=by
 unfold Cg;rw[he];simp only[R.bind_ok,W.d_sh,Cb,Ab,Ac,ha];rw[hn];rfl
def met0{F:AF}{n:Str}{e:FE}{δ:DE}(he:e δ=.ok (.sh (Cb p s m T kds)))(hn:lN.contains n=false):Cg n 0 [("Living",F)] e Ac δ=F [Cb p s m T kds]:=by
 unfold Cg;rw[he];simp only[R.bind_ok,W.d_sh,Cb,Ac];rw[hn];rfl
end
section
variable{p s m:Int}{T:List Int}{kds:List (Ae×D)}{d v:D}{w:Int}
def ar_4{n:Nat}{mn:Str}{M:Tn->List D->RR}{ga:SE->R (List D)}{Δ:SE}{ds:List D}(hm:lN.contains mn=false)(hg:ga (.lt (Aj p s m T kds)::Δ)=.ok ds)(hl:ds.length=n):r_7 0 n mn "Living" M ga (.lt (Aj p s m T kds)::Δ)=goR 0 true (.lt (Aj p s m T kds)::Δ) (M (Aj p s m T kds) ds):=by
 have hb:((Sl.lt (Aj p s m T kds)::Δ)[0]?).bind Sl.tree=some (Aj p s m T kds,true):=rfl;unfold r_7;rw[hb];unfold Aj at hg⊢;simp only[hm,ZC3,if_true,hg,hl]
end
def cv_5(z n:Int):i_6 [.int z,.int n]=.ok (.sh (.bl (decide (0<=z/\z < n)))):=by
 by_cases h:0<=z
 ·simp![i_6,y_3,Ao,z_8,au_3,Ez,h,true_and]
 ·simp![i_6,y_3,Ao,z_8,au_3,Ez,h,false_and]
def s_7(n s:Int){z:Int}(h:0 < z):0<=u_1 n s z:=by unfold u_1;exact K2 _ ()
def bd_1(n s:Int){z:Int}(h:0 < z):u_1 n s z < z:=by unfold u_1;exact F6 _ h
def pA(d:D)(s p:Int):Nat:=(u_1 (Cw d) (4 * s + 0) p).toNat
def pB(d:D)(s p:Int):Nat:=(p + u_1 (Cw d) (4 * s + 1) p).toNat
def af_6(d:D)(s:Int){p:Int}(h:0 < p):bi_6 d s 2 p=zi [pA d s p,pB d s p]:=by
 have a0:=s_7 (Cw d) (4 * s + 0) h;have b0:=s_7 (Cw d) (4 * s + 1) h;show [D.int (w_0 d s p (0 + ((0:Nat):Int))),D.int (w_0 d s p (0 + ((1:Nat):Int)))]= [D.int ((pA d s p:Nat):Int),D.int ((pB d s p:Nat):Int)];have e1:w_0 d s p (0 + ((0:Nat):Int))=((pA d s p:Nat):Int):=by
  unfold w_0 pA;rw[show(0:Int) + ((0:Nat):Int)=0 from rfl];omega
 have e2:w_0 d s p (0 + ((1:Nat):Int))=((pB d s p:Nat):Int):=by
  unfold w_0 pB;rw[show(0:Int) + ((1:Nat):Int)=1 from rfl];omega
 rw[e1,e2]
def z_4(d:D)(s:Int){p:Int}(h:0 < p):(pA d s p:Int) < p:=by
 have a0:=s_7 (Cw d) (4 * s + 0) h;have a1:=bd_1 (Cw d) (4 * s + 0) h;unfold pA;omega
def z_5(d:D)(s:Int){p:Int}(h:0 < p):(pB d s p:Int) < 2 * p/\p<=(pB d s p:Int):=by
 have a0:=s_7 (Cw d) (4 * s + 1) h;have a1:=bd_1 (Cw d) (4 * s + 1) h;unfold pB;omega
structure Szs(p s m:Int)(T:List Int):Prop where
 p0:0 < p
 p1:p<=3
 s0:0<=s
 s1:s<=1003000000000
 m0:2<=m
 m1:m<=1000000001
 tl:(T.length:Int)=2 * p
section
variable{p s m:Int}{T:List Int}{kds:List (Ae×D)}{d:D}(z:Szs p s m T)
include z
theorem cv_6(h:Bo d):e_8 [Cb p s m T kds,d]=.ok (.sh (.int (o_7 T [pA d s p,pB d s p] % m))):=by
 have a:=z_4 d s z.p0;have b:=z_5 d s z.p0;have tl:=z.tl;have e1:Cp ["Living"] "listed" (Aa 0) [some (Cb p s m T kds),some d]=.ok (.sh (.lst (T.map .int))):=fld rfl rfl;have e3:Cp ["Living"] "modulus" (Aa 0) [some (Cb p s m T kds),some d]=.ok (.sh (.int m)):=fld rfl rfl;have hp:=am_4 (m:=m) (T:=T) (kds:=kds) h z.s0 z.s1 z.p0 (by have:=z.p1;omega);rw[af_6 d s z.p0]at hp;have e2:Cg "places" 1 [("Living",c_2)] (Aa 0) #v[1] [some (Cb p s m T kds),some d]=.ok (.sh (.tup (zi [pA d s p,pB d s p]))):=(met1 (w:=.sh d) rfl rfl nofun).trans hp;have hs:=cj_6 T [pA d s p,pB d s p] m (by have:=z.m0;omega) (λq hq=>by
  have:q=pA d s p\/q=pB d s p:=by simpa using hq
  omega) (by simp)
 simp![e_8,ab_2,Ao,e1,e2,e3,hs]
end
theorem am_5:∀kds:List (Ae×D),unS (kds.map λp=>(p.1,Tn.sh p.2))=some kds
 | []=>rfl
 |(k,d)::kds=>by
  have:=am_5 kds;simp only[A8,unS,this,L5]
section
variable{p s m:Int}{T:List Int}{kds aa:List (Ae×D)}{d:D}
def aw_7:(["Living"]:List Str).contains ("Living" :Str)=true:=by decide +kernel
def dj_2:(lN.zip [Tn.sh (.int p),.sh (.int s),.sh (.int m),.sh (.lst (T.map .int)),Tn.of (.dic kds)]).lookup ("by_key" :Str)=some (Tn.dic (kds.map λp=>(p.1,Tn.sh p.2))):=rfl
def cv_7:repF lN [Tn.sh (.int p),.sh (.int s),.sh (.int m),.sh (.lst (T.map .int)),Tn.of (.dic kds)] "by_key" (Tn.of (.dic aa))= [Tn.sh (.int p),.sh (.int s),.sh (.int m),.sh (.lst (T.map .int)),Tn.of (.dic aa)]:=rfl
def dq_5{T':List Int}:repF lN [Tn.sh (.int p),.sh (.int s),.sh (.int m),.sh (.lst (T.map .int)),Tn.of (.dic kds)] "listed" (.sh (.lst (T'.map .int)))= [Tn.sh (.int p),.sh (.int s),.sh (.int m),.sh (.lst (T'.map .int)),Tn.of (.dic kds)]:=rfl
def fpop{Δ:SE}{fk:FE}{k:Ae}{w:W}(hk:fk (none::At Δ)=.ok w)(hw:Ee w.d=some k)(hh:(Bh kds k).isSome=true):bp_2 0 ["Living"] "by_key" fk (.lt (Aj p s m T kds)::Δ)=.nx (.lt (Aj p s m T (Dn kds k))::Δ):=by
 have hb:((Sl.lt (Aj p s m T kds)::Δ)[0]?).bind Sl.tree=some (Aj p s m T kds,true):=rfl;have hv:At (Sl.lt (Aj p s m T kds)::Δ)=none::At Δ:=rfl;unfold bp_2;rw[hb,hv];unfold Aj;simp only[aw_7,dj_2,am_5,hk,hw,hh,if_true,cv_7];rfl
def fput{Δ:SE}{fk fe:FE}{k:Ae}{w v:W}(hk:fk (none::At Δ)=.ok w)(hw:Ee w.d=some k)(he:fe (none::At Δ)=.ok v)(hl:kds.length < 16777216):bc_3 0 ["Living"] "by_key" fk fe (.lt (Aj p s m T kds)::Δ)=.nx (.lt (Aj p s m T (By kds k v.d))::Δ):=by
 have hb:((Sl.lt (Aj p s m T kds)::Δ)[0]?).bind Sl.tree=some (Aj p s m T kds,true):=rfl;have hv:At (Sl.lt (Aj p s m T kds)::Δ)=none::At Δ:=rfl;unfold bc_3;rw[hb,hv];unfold Aj;simp only[aw_7,dj_2,am_5,hk,hw,he,hl,if_true,cv_7];rfl
end
section
variable{p s m:Int}{T:List Int}{kds:List (Ae×D)}{d v:D}
def cj_7(h:Bo d)(g1 g2:FS):Bx [0,1] (Ak (Af (Dm true) (Aa 1) (Cp ["Living"] "by_key" (Aa 0)))) g1 g2 [.lt (Aj p s m T kds),.sh d]=if Cn kds (Aw d)=true then g2 [.lt (Aj p s m T kds),.sh d] else g1 [.lt (Aj p s m T kds),.sh d]:=by
 have e1:Cp ["Living"] "by_key" (Aa 0) [some (Cb p s m T kds),some d]=.ok (.sh (.dic kds)):=fld rfl rfl;have hk:=u_2 h;cases hh:Cn kds (Aw d) with
 |true=>simp![Ao,Sl.any,ab_5,e1,Dm,hk,hh,if_true,ZC6]
 |false=>simp![Ao,Sl.any,ab_5,e1,Dm,hk,hh,if_true,ZC2]
def aa_2(h:Bo d):sExpr [1] (Bl 1 l_5 #v[1]) [.lt (Aj p s m T kds),.sh d]=.nx [.lt (Aj p s m T kds),.sh d]:=by
 simp![Ao,Sl.any,aw_4 h]
def cv_8(h:Bo d)(hh:Cn kds (Aw d)=true):f_1 (Aj p s m T kds) [d]=.ok .non (Aj p s m T (Dn kds (Aw d))):=by
 unfold f_1 w_6 ae_4;rw[show aa_6 2 (Aj p s m T kds) [d]= [.lt (Aj p s m T kds),.sh d] from rfl,Bg (aa_2 h)];have q2:=cj_7 (p:=p) (s:=s) (m:=m) (T:=T) (kds:=kds) h (ac_9 "NoSuch") Bc;rw[hh,if_pos rfl]at q2;rw[Bg (Δ':=[.lt (Aj p s m T kds),.sh d]) q2,fpop (k:=Aw d) (w:=.sh d) rfl (u_2 h) hh]
end
def dg_7:∀c∈sgL,∀d∈sgL,sgI c=sgI d->c=d:=by decide +kernel
def ad_4(l:List Nat)(c:Nat):Eo (l ++ [c])=40 * Eo l + (sgI c:Int) + 1:=by
 unfold Eo;rw[List.foldl_append];rfl
def af_7(l:List Nat):l= []\/∃k c,l=k ++ [c]:=by
 by_cases h:l= []
 ·exact .inl h
 ·exact .inr ⟨l.dropLast,l.getLast h,(W9 h).symm⟩
def cj_8:∀(n:Nat) (l k:List Nat),l.length=n->(∀c∈l,c∈sgL)->(∀c∈k,c∈sgL)->Eo l=Eo k->l=k:=by
 intro n
 induction n with
 |zero=>
  intro l k hl hc hk e;have:l= []:=ZA5.mp hl;subst this;rcases af_7 k with rfl|⟨k',d,rfl⟩
  ·rfl
  ·have hd:=bw_5 d (hk d (by simp));rw[ad_4]at e;have e0:Eo []=0:=rfl;rw[e0]at e;omega
 |succ n ih=>
  intro l k hl hc hk e;rcases af_7 l with rfl|⟨l',c,rfl⟩
  ·simp at hl
  ·have hcl:=bw_5 c (hc c (by simp));rcases af_7 k with rfl|⟨k',d,rfl⟩
   ·rw[ad_4]at e;have e0:Eo []=0:=rfl;rw[e0]at e;omega
   ·have hdl:=bw_5 d (hk d (by simp));rw[ad_4,ad_4]at e;have e1:sgI c=sgI d:=by omega
    have e2:Eo l'=Eo k':=by omega
    have e3:=dg_7 c (hc c (by simp)) d (hk d (by simp)) e1;have e4:=ih l' k' (by simpa using hl) (λx hx=>hc x (by simp[hx])) (λx hx=>hk x (by simp[hx])) e2;rw[e3,e4]
def cj_9{a b:D}(ha:Bo a)(hb:Bo b)(e:Cw a=Cw b):a=b:=by
 rcases ha with⟨n,rfl,_⟩|⟨l,rfl,_,hc⟩ <;> rcases hb with⟨m,rfl,_⟩|⟨k,rfl,_,hk⟩
 ·have e:2 * n=2 * m:=e;rw[show n=m by omega]
 ·have e:2 * n=2 * Eo (Bt k).cps.toList + 1:=e;omega
 ·have e:2 * Eo (Bt l).cps.toList + 1=2 * m:=e;omega
 ·have e:2 * Eo (Bt l).cps.toList + 1=2 * Eo (Bt k).cps.toList + 1:=e;rw[m_1,m_1]at e;rw[cj_8 l.length l k rfl hc hk ()]
def bw_6{d:D}(h:Bo d):kD (Aw d)=d:=by rcases h with⟨n,rfl,_⟩|⟨l,rfl,_⟩ <;> rfl
structure KOk(kds:List (Ae×D))(ks:List D):Prop where
 key:∀k∈ks,Bo k
 nd:ks.Nodup
 eq:kds.map (·.1)=ks.map Aw
 val:∀q∈kds,∃n:Int,q.2=.int n
 len:ks.length<=24
section
variable{kds:List (Ae×D)}{ks:List D}
def KOk.ds(h:KOk kds ks):(kds.map λp=>kD p.1)=ks:=by
 rw[show(kds.map λp=>kD p.1)=(kds.map (·.1)).map kD by rw[F8];rfl,h.eq,F8];have:∀{l:List D},(∀k∈l,Bo k)->l.map (kD ∘ Aw)=l:=λ{l}=>by
  induction l with
  |nil=>intro _;rfl
  |cons a l ih=>intro hl;rw[A8,ih λk hk=>hl k (.tail _ hk)];show kD (Aw a)::l=_;rw[bw_6 (hl a (.head _))]
 exact this h.key
theorem KOk.length(h:KOk kds ks):kds.length=ks.length:=by
 have:=K4 List.length h.eq
 rwa[A3,A3]at this
theorem ai_8:∀{l:List D},(∀k∈l,Bo k)->y_1 l_5 l=.ok (l.map λd=>(Cw d,d))
 | [],_=>rfl
 |d::l,h=>by
  unfold y_1;rw[aw_4 (h d (.head _))];simp only[R.bind_ok,W.d_sh,ai_8 λk hk=>h k (.tail _ hk)];rfl
theorem am_6{α β:Type}{f:α->β}:∀{l:List α},(∀x∈l,∀y∈l,f x=f y->x=y)->l.Nodup->(l.map f).Nodup
 | [],_,_=> .nil
 |a::l,inj,nd=>by
  rw[N4]at nd;rw[A8,N4];refine⟨λhm=> ?_,am_6 (λx hx y hy=>inj x (.tail _ hx) y (.tail _ hy)) nd.2⟩;obtain⟨b,hb,e⟩:=D3.mp hm;exact nd.1 (inj b (.tail _ hb) a (.head _) e▸hb)
def y_4(ks:List D):List D:=(au_9 (ks.map λd=>(Cw d,d))).map (·.2)
def s_4(ks:List D):(y_4 ks).Perm ks:=by
 have h:=(af_3 (ks.map λd=>(Cw d,d))).map (·.2);rw[F8]at h;have e:(ks.map ((λx:Int×D=>x.2) ∘ λd=>(Cw d,d)))=ks:=by
  rw[show((λx:Int×D=>x.2) ∘ λd=>(Cw d,d))=id from rfl,List.map_id]
 rw[e]at h;exact h
def cv_9(h:KOk kds ks):av_0 l_5 (kds.map λp=>kD p.1)=.ok (.ow (.lst (y_4 ks))):=by
 unfold av_0;rw[h.ds,ai_8 h.key];have nd:((ks.map λd=>(Cw d,d)).map (·.1)).Nodup:=by
  rw[F8];exact am_6 (λx hx y hy e=>cj_9 (h.key x hx) (h.key y hy) e) h.nd
 have hl:=h.len;simp only[A3,show ks.length < 64 by omega,nd,ZC3,if_true];rfl
theorem bi_8:∀{kds:List (Ae×D)} {k:Ae},k∈kds.map (·.1)->∃v,Bh kds k=some v/\(k,v)∈kds
 | [],_,h=>by cases h
 |(a,v)::r,k,h=>by
  unfold Bh
  by_cases e:a=k
  ·subst e;exact⟨v,by rw[R5 (by simp)];rfl,.head _⟩
  ·rw[A8,C6]at h;rcases h with h|h
   ·exact absurd h.symm e
   ·obtain⟨w,e1,e2⟩:=bi_8 h;unfold Bh at e1;exact⟨w,by rw[R6 (by simpa using e)];exact e1,.tail _ e2⟩
def KOk.get(h:KOk kds ks){d:D}(hd:d∈ks):∃n:Int,Bh kds (Aw d)=some (.int n):=by
 obtain⟨v,e,hm⟩:=bi_8 (kds:=kds) (k:=Aw d) (by rw[h.eq];exact X5 hd);obtain⟨n,en⟩:=h.val _ hm;exact⟨n,by rw[e];exact K4 some en⟩
end
def r_8(kds:List (Ae×D))(ks:List D):List D:=(y_4 ks).map λd=> .tup [d,(Bh kds (Aw d)).getD .non]
section
variable{p s m:Int}{T:List Int}{kds:List (Ae×D)}{ks:List D}{d:D}
def bi_9(h:KOk kds ks):d_3 [Cb p s m T kds]=.ok (.ow (.lst (r_8 kds ks))):=by
 have mem:∀d,d∈y_4 ks->d∈ks:=λd hd=>(s_4 ks).mem_iff.mp hd;have e1:Cp ["Living"] "by_key" (Aa 0) [some (Cb p s m T kds)]=.ok (.sh (.dic kds)):=fld rfl rfl;have es:El (av_1 l_5 (Cp ["Living"] "by_key" (Aa 0))) [some (Cb p s m T kds)]=.ok (y_4 ks):=by
  unfold El av_1;rw[e1];simp only[R.bind_ok,W.d_sh,cv_9 h,W.d_ow];rfl
 have hl:(y_4 ks).length<=16777216:=by
  rw[(s_4 ks).length_eq];have:=h.len;omega
 have hc:=l_2 (fg:=gC 1) (p:=λ_=> .ok true) (f:=m_4) (δ:=[some (Cb p s m T kds),none]) (λ_=>true) (λd=> .tup [d,(Bh kds (Aw d)).getD .non]) (y_4 ks) λd hd=>by
  obtain⟨n,en⟩:=h.get (mem d hd);have hk:=u_2 (h.key d (mem d hd));refine⟨[some (Cb p s m T kds),some d],rfl,rfl,λ_=>⟨.sh (.tup [d,.int n]), ?_,by rw[en];rfl⟩⟩;have e2:Cp ["Living"] "by_key" (Aa 0) [some (Cb p s m T kds),some d]=.ok (.sh (.dic kds)):=fld rfl rfl
  simp![m_4,Ao,e2,getK,hk,en]
 rw[Q6.mpr λ_ _=>rfl]at hc;have ec:=o_0 (m:=1) (fi:=El (av_1 l_5 (Cp ["Living"] "by_key" (Aa 0)))) (fg:=gC 1) (p:=λ_=> .ok true) (f:=m_4) (δ:=[some (Cb p s m T kds)]) es hl hc
 simp![d_3,ae_3,Ao,ec]
 rfl
def am_7(h:Bo d):Do d=true:=by rcases h with⟨n,rfl,_⟩|⟨l,rfl,_⟩ <;> rfl
def cw_0:∀c∈sgL,c < 0x110000:=by decide +kernel
def dq_6(n:Nat)(h:Bo d):okD n d=true:=by
 rcases h with⟨i,rfl,_⟩|⟨l,rfl,_,hc⟩
 ·cases n <;> rfl
 ·have:(Bt l).cps.all (· < 0x110000)=true:=by
   rw[Array.all_eq_true_iff_forall_mem];intro c hm;have:c∈l:=by simpa[Bt] using hm
   simpa using cw_0 c (hc c this)
  cases n <;> exact this
def bd_2(h:KOk kds ks):∀x∈r_8 kds ks,Do x=true/\okD 1 x=true:=λx hx=>by
 obtain⟨d,hd,rfl⟩:=D3.mp hx;have hm:=(s_4 ks).mem_iff.mp hd;obtain⟨n,en⟩:=h.get hm;have hk:=h.key d hm;rw[en];refine⟨?_, ?_⟩
 ·simp only[R1,Do,Dz,am_7 hk,L9]
 ·simp only[R1,okD,N7,List.all_nil,dq_6 0 hk,L9]
theorem y_5:∀{l:List D},(∀x∈l,Do x=true)->Dz l=true
 | [],_=>by simp only[Dz]
 |d::l,h=>by simp only[Dz,h d (.head _),y_5 λx hx=>h x (.tail _ hx),L9]
def cw_1(h:KOk kds ks):(r_8 kds ks).length=kds.length:=by
 unfold r_8;rw[A3,(s_4 ks).length_eq,h.length]
theorem y_6:∀T:List Int,Dz (T.map .int)=true
 | []=>by simp only[N0,Dz]
 |i::T=>by simp only[A8,Dz,Do,y_6 T,L9]
end
section
variable{p s m:Int}{T:List Int}{kds:List (Ae×D)}{ks:List D}{d:D}
def cw_2{n:Nat}{M:Tn->List D->RR}{ga:SE->R (List D)}{Δ:SE}{ds:List D}(hg:ga (.lt (Aj p s m T kds)::Δ)=.ok ds)(hl:ds.length=n):au_8 0 n M ga (.lt (Aj p s m T kds)::Δ)=goR 0 true (.lt (Aj p s m T kds)::Δ) (M (Aj p s m T kds) ds):=by
 have hb:((Sl.lt (Aj p s m T kds)::Δ)[0]?).bind Sl.tree=some (Aj p s m T kds,true):=rfl;unfold au_8;rw[hb];unfold Aj at hg⊢;simp only[hg,hl,if_true]
theorem af_8:∀{ds:List D},Dz ds=true->k_2 (ds.map .sh)=true
 | [],_=>by simp only[N0,k_2]
 |d::ds,h=>by
  simp only[Dz,C8]at h;simp only[A8,k_2,Di,h.1,af_8 h.2,L9]
def ai_9{ds:List D}(h:Dz ds=true):o_1 (.ow (.lst ds))=true:=by
 show Di (.lst (ds.map .sh))=true;simp only[Di,af_8 h]
end
def ar_5{ns:List Str}{ts:List Tn}{f:Str}{js:List Nat}{fe:FE}{Δ:SE}{w:W}(hj:gsome js (.lt (.obj "Living" ns ts)::Δ)=.lt (.obj "Living" ns ts)::Δ)(h1:ns.contains f=false)(h2:ns.length < 1000)(hf:fe (none::At Δ)=.ok w):an_6 0 ["Living"] f js fe (.lt (.obj "Living" ns ts)::Δ)=.nx (.lt (.obj "Living" (ns ++ [f]) (ts ++ [.sh w.d]))::Δ):=by
 unfold an_6;rw[hj,show At (.lt (.obj "Living" ns ts)::Δ)=none::At Δ from rfl,hf];simp only[M7,aw_7,h1,h2,ZC3,if_true,Y3]
abbrev L11:List Str:=["part","by_salt","modulus","listed"]
def dg_8{p s m:Int}(p0:0 < p)(p1:p<=3):w_9 [.int p,.int s,.int m]=.ok (lN,[.sh (.int p),.sh (.int s),.sh (.int m),.sh (.lst ((List.replicate (2 * p).toNat (0:Int)).map .int)),Tn.of (.dic [])]):=by
 have mm:Em 2 p=true:=m_6 ⋯ ⋯;have dg:repD [D.int 0] (.int (2 * p))=.ok (.ow (.lst ((List.replicate (2 * p).toNat (0:Int)).map .int))):=by
  unfold repD;simp only;rw[if_pos ⟨by omega,by simp;omega⟩];have:∀n:Nat,(List.replicate n [D.int 0]).flatten=(List.replicate n (0:Int)).map .int:=λn=>by
   induction n with
   |zero=>rfl
   |succ n ih=>rw[K5,N8,ih];rfl
  rw[this]
 have hr:eRep #v[eC (.int 0)] (Af Dg (eC (.int 2)) (Aa 1)) [none,some (.int p),some (.int s),some (.int m)]=.ok (.ow (.lst ((List.replicate (2 * p).toNat (0:Int)).map .int))):=by
  simp![eRep,Ao,k_1 mm,dg]
 have a1:=ar_5 (ns:=[]) (ts:=[]) (f:= "part") (js:=[1]) (fe:=Aa 1) (Δ:=[.sh (.int p),.sh (.int s),.sh (.int m)]) (w:=.sh (.int p)) rfl rfl ⋯ rfl;have a2:=ar_5 (ns:=["part"]) (ts:=[.sh (.int p)]) (f:= "by_salt") (js:=[2]) (fe:=Aa 2) (Δ:=[.sh (.int p),.sh (.int s),.sh (.int m)]) (w:=.sh (.int s)) rfl nofun ⋯ rfl;have a3:=ar_5 (ns:=["part","by_salt"]) (ts:=[.sh (.int p),.sh (.int s)]) (f:= "modulus") (js:=[3]) (fe:=Aa 3) (Δ:=[.sh (.int p),.sh (.int s),.sh (.int m)]) (w:=.sh (.int m)) rfl nofun ⋯ rfl;have a4:=ar_5 (ns:=["part","by_salt","modulus"]) (ts:=[.sh (.int p),.sh (.int s),.sh (.int m)]) (f:= "listed") (js:=[1]) (Δ:=[.sh (.int p),.sh (.int s),.sh (.int m)]) rfl nofun ⋯ hr;have a5:bp_4 0 ["Living"] "by_key" ah_0 [.lt (.obj "Living" L11 [.sh (.int p),.sh (.int s),.sh (.int m),.sh (.lst ((List.replicate (2 * p).toNat (0:Int)).map .int))]),.sh (.int p),.sh (.int s),.sh (.int m)]=.nx [.lt (.obj "Living" lN [.sh (.int p),.sh (.int s),.sh (.int m),.sh (.lst ((List.replicate (2 * p).toNat (0:Int)).map .int)),Tn.of (.dic [])]),.sh (.int p),.sh (.int s),.sh (.int m)]:=by
  have h1:(L11:List Str).contains ("by_key" :Str)=false:=by decide +kernel
  unfold bp_4;simp only[M7,aw_7,h1,B4,J8];rfl
 unfold w_9 Ew v_5;rw[show au_1 4 "Living" [.int p,.int s,.int m]= [.lt (.obj "Living" [] []),.sh (.int p),.sh (.int s),.sh (.int m)] from rfl,Bg a1];simp only[P8,W.d_sh];rw[Bg a2];simp only[Q9,P8,W.d_sh];rw[Bg a3];simp only[Q9,P8,W.d_sh];rw[Bg a4];simp only[Q9,P8,W.d_ow];rw[a5];simp only[if_true]
section
variable{α:Type}
def ab_7(k:Ae):Bh ([]:List (Ae×α)) k=none:=rfl
def Eg(x:Ae)(v:α)(l:List (Ae×α))(k:Ae):Bh ((x,v)::l) k=if x=k then some v else Bh l k:=by
 unfold Bh;rw[P9]
 by_cases h:x=k
 ·rw[if_pos h,D9 h];rfl
 ·rw[if_neg h,D2 h]
def bq_6(l r:List (Ae×α))(k:Ae):Bh (l ++ r) k=(Bh l k).or (Bh r k):=by
 induction l with
 |nil=>rfl
 |cons q l ih=>
  obtain⟨x,v⟩:=q;rw[Q9,Eg,Eg,ih]
  split <;> rfl
theorem bq_7(v:α)(k k':Ae):∀l:List (Ae×α),Bh (Dc l k v) k'=if k'=k then(Bh l k).map (λ_=>v) else Bh l k'
 | []=>by unfold Dc;simp[ab_7]
 |(x,u)::l=>by
  unfold Dc
  by_cases h:x=k
  ·rw[if_pos h,Eg,Eg,if_pos h]
   by_cases h':k'=k
   ·rw[if_pos h',if_pos (h.trans h'.symm)];rfl
   ·rw[if_neg h',if_neg (λe=>h' (e.symm.trans h)),Eg,if_neg (λe=>h' (e.symm.trans h))]
  ·rw[if_neg h,Eg,bq_7 v k k' l,Eg,if_neg h]
   by_cases h':k'=k
   ·rw[if_pos h',if_pos h',if_neg (λe=>h (e.trans h'))]
   ·rw[if_neg h',if_neg h',Eg]
def bd_3{l:List (Ae×α)}{k:Ae}{v:α}(h:Bh l k=some v):(k,v)∈l:=by
 induction l with
 |nil=>cases h
 |cons q l ih=>
  obtain⟨x,u⟩:=q;rw[Eg]at h
  split at h
  ·rename_i e;cases h;subst e;exact D5
  ·exact C7 _ (ih h)
theorem cd_5{v:α}{k:Ae}{q:Ae×α}:∀{l:List (Ae×α)},q∈Dc l k v->q∈l\/q.2=v
 | [],h=>by unfold Dc at h;cases h
 |(x,u)::l,h=>by
  unfold Dc at h
  split at h
  ·rcases C6.mp h with e|e
   ·subst e;exact .inr rfl
   ·exact .inl (C7 _ e)
  ·rcases C6.mp h with e|e
   ·subst e;exact .inl D5
   ·rcases cd_5 e with e|e
    ·exact .inl (C7 _ e)
    ·exact .inr e
def dg_9(v:α)(k:Ae)(l:List (Ae×α)):(Dc l k v).length=l.length:=by
 have:=K4 List.length (al_2 l k v);simpa using this
end
theorem cd_6(k:Ae):∀zm:List (Ae×Tn),Bh (Tn.ks zm) k=(Bh zm k).map Tn.d
 | []=>rfl
 |(x,t)::zm=>by
  unfold Tn.ks;rw[Eg,Eg,cd_6 k zm]
  split <;> rfl
abbrev Nb:=List (D×Nat)
def nbT(l:Nb):List D:=l.map λx=> .tup [x.1,.int (x.2:Int)]
abbrev Ed:=D×Nat×Nat
def Cm(E:List Ed)(q:Nat):Nb:=E.flatMap λe=>(if e.2.1=q then [(e.1,e.2.2)] else []) ++ (if e.2.2=q then [(e.1,e.2.1)] else [])
def edD(e:Ed):D:=.tup [e.1,.tup [.int (e.2.1:Int),.int (e.2.2:Int)]]
structure WK(zm:List (Ae×Tn))(N:Nat->Nb):Prop where
 at_:∀q:Nat,(Bh zm (.inl (q:Int))).getD (.lst [])=.lst ((nbT (N q)).map .sh)
 li:∀q∈zm,∃l:Nb,q.2=.lst ((nbT l).map .sh)/\∀x∈l,Bo x.1
def WK.plain{zm:List (Ae×Tn)}{N:Nat->Nb}(h:WK zm N):Di (.dic zm)=true:=by
 have:∀l:Nb,(∀x∈l,Bo x.1)->k_2 ((nbT l).map .sh)=true:=λl hl=>af_8 (y_5 λx hx=>by
  obtain⟨y,hy,rfl⟩:=D3.mp hx;have:=am_7 (hl y hy);simp only[Do,Dz,this,L9])
 have all:∀ks:List (Ae×Tn),(∀q∈ks,q∈zm)->p_9 ks=true:=by
  intro ks
  induction ks with
  |nil=>intro _;rfl
  |cons q ks ih=>
   intro hq;obtain⟨x,t⟩:=q;obtain⟨l,e,hl⟩:=h.li _ (hq _ D5);simp only at e;subst e;unfold p_9 Di;rw[this l hl,ih λq hq'=>hq q (C7 _ hq')];rfl
 unfold Di;exact all zm λ_ h=>h
def addN(N:Nat->Nb)(a:Nat)(k:D)(b:Nat):Nat->Nb:=λq=>if q=a then N q ++ [(k,b)] else N q
def cd_7(zm:List (Ae×Tn))(k k':Ae):Bh (sdK zm k) k'=if k'=k then some ((Bh zm k).getD (.lst [])) else Bh zm k':=by
 unfold sdK;cases h:Bh zm k with
 |some v=>
  by_cases e:k'=k
  ·rw[if_pos e,e];exact h
  ·rw[if_neg e]
 |none=>
  simp only;rw[bq_6,Eg,ab_7]
  by_cases e:k'=k
  ·rw[if_pos e,e,h,if_pos rfl];rfl
  ·rw[if_neg e,if_neg (λz=>e z.symm)];cases Bh zm k' <;> rfl
def cw_3{i:Nat}{f1 f2:FE}{Δ:SE}{zm:List (Ae×Tn)}{N:Nat->Nb}{a b:Nat}{k:D}(w:WK zm N)(hk:Bo k)(ht:(Δ[i]?).bind Sl.tree=some (.dic zm,false))(h1:f1 (Ba Δ)=.ok (.sh (.int (a:Int))))(h2:f2 (At Δ)=.ok (.sh (.tup [k,.int (b:Int)])))(hl:zm.length < 10000)(hn:(N a).length < 10000):
  ∃kts',sSdb i f1 f2 Δ=.nx (Δ.set i (.tr (.dic kts')))/\WK kts' (addN N a k b)/\kts'.length<=zm.length + 1:=by
 have hv:=cd_7 zm (.inl (a:Int)) (.inl (a:Int));rw[if_pos rfl,w.at_ a]at hv;refine⟨Dc (sdK zm (.inl (a:Int))) (.inl (a:Int)) (.lst ((nbT (N a)).map .sh ++ [.sh (.tup [k,.int (b:Int)])])), ?_,⟨λq=> ?_,λq hq=> ?_⟩, ?_⟩
 ·unfold sSdb;rw[ht];simp only[h1,W.d_sh,Ee];rw[if_pos (),hv];simp only;rw[if_pos (by simp[nbT];omega),h2];rfl
 ·rw[bq_7,hv];unfold addN
  by_cases e:q=a
  ·subst e;rw[if_pos rfl,if_pos rfl];simp only[L5,R1,nbT,E8];rfl
  ·have e':(Sum.inl (q:Int):Ae)≠ .inl (a:Int):=λz=>e (by injection z with z;omega);rw[if_neg e',if_neg e,cd_7,if_neg e'];exact w.at_ q
 ·have hsd:∀q∈sdK zm (.inl (a:Int)),∃l:Nb,q.2=.lst ((nbT l).map .sh)/\∀x∈l,Bo x.1:=λq hq=>by
   unfold sdK at hq
   split at hq
   ·exact w.li q hq
   ·rcases F5.mp hq with h|h
    ·exact w.li q h
    ·rw[D1.mp h];exact⟨[],rfl,λ_ h=>by cases h⟩
  rcases cd_5 hq with h|h
  ·exact hsd q h
  ·obtain⟨l,e,hl'⟩:=hsd _ (bd_3 hv);refine⟨l ++ [(k,b)], ?_,λx hx=> ?_⟩
   ·rw[h];simp only at e;injection e with e
    rw[e];simp only[nbT,E8];rfl
   ·rcases F5.mp hx with h|h
    ·exact hl' x h
    ·rw[D1.mp h];exact hk
 ·rw[dg_9];unfold sdK
  split
  ·omega
  ·simp
def dq_7{a b:D}(ha:Bo a)(hb:Bo b):Fa a b=.ok (.sh (.bl (!decide (Aw a=Aw b)))):=by
 have hc:Fj a b=true:=by unfold Fj;rw[(bi_5 ha).1,(bi_5 hb).1,(bi_5 ha).2];rfl
 have he:Fq a b=decide (Aw a=Aw b):=by
  have q:=dg_4 ha hb
  by_cases e:a=b
  ·rw[show Fq a b=true from q.mpr e,e];simp
  ·have:Fq a b=false:=by
    cases h:Fq a b with
    |false=>rfl
    |true=>exact absurd (q.mp h) e
   rw[this,D2 λz=>e (ad_3 ha hb z)]
 rcases ha with⟨n,rfl,_⟩|⟨l,rfl,_⟩ <;> rcases hb with⟨n',rfl,_⟩|⟨l',rfl,_⟩
 ·show(if Fj (.int n) (.int n')=true then R.ok (W.sh (.bl (!Fq (.int n) (.int n')))) else .no)=_;rw[if_pos hc,he]
 ·show(if Fj (.int n) (.str (Bt l'))=true then R.ok (W.sh (.bl (!Fq (.int n) (.str (Bt l'))))) else .no)=_;rw[if_pos hc,he]
 ·show(if Fj (.str (Bt l)) (.int n')=true then R.ok (W.sh (.bl (!Fq (.str (Bt l)) (.int n')))) else .no)=_;rw[if_pos hc,he]
 ·rw[cb_0]
  by_cases e:Bt l=Bt l'
  ·rw[e];simp
  ·rw[D2 e,D2 λz=>e (by injection z)]
def WD(wk:List (Ae×D))(N:Nat->Nb):Prop:=∀q:Nat,(Bh wk (.inl (q:Int))).getD (.lst [])=.lst (nbT (N q))
theorem WK.d{zm:List (Ae×Tn)}{N:Nat->Nb}(h:WK zm N):WD (Tn.ks zm) N:=λq=>by
 have:=h.at_ q;rw[cd_6];cases e:Bh zm (.inl (q:Int)) with
 |some t=>
  rw[e]at this;simp only[R1]at this;rw[this];simp only[L5,R1,Tn.d,Tn.ds_sh]
 |none=>
  rw[e]at this;simp only[Option.getD_none]at this;injection this with this
  have:nbT (N q)= []:=List.map_eq_nil_iff.mp this.symm;rw[this];rfl
def cw_4{E:List Ed}{i:Nat}{e:Ed}(h:E[i]? =some e):Cm (E.take (i + 1))=λq=>Cm (E.take i) q ++ ((if e.2.1=q then [(e.1,e.2.2)] else []) ++ (if e.2.2=q then [(e.1,e.2.1)] else [])):=by
 funext q
 unfold Cm;rw[V1,h,List.flatMap_append];simp
def cd_8(E:List Ed)(q:Nat):(Cm E q).length<=2 * E.length:=by
 induction E with
 |nil=>simp[Cm]
 |cons e E ih=>
  unfold Cm at ih⊢;rw[List.flatMap_cons,B8,B8,B4];have a1:(if e.2.1=q then [(e.1,e.2.2)] else []).length<=1:=by split <;> simp
  have a2:(if e.2.2=q then [(e.1,e.2.1)] else []).length<=1:=by split <;> simp
  omega
def bw_7(E:List Ed)(hl:E.length<=100)(hk:∀e∈E,Bo e.1/\e.2.1≠e.2.2):∃w wk,ad_2 [.lst (E.map edD)]=.ok w/\o_1 w=true/\w.d=.dic wk/\WD wk (Cm E):=by
 let I:Nat->SE->Prop:=λi Δ=>∃(sl a2 a3:Sl) (zm:List (Ae×Tn)),Δ= [.sh (.lst (E.map edD)),sl,a2,a3]/\((sl=.ow (.dic [])/\zm= [])\/sl=.tr (.dic zm))/\WK zm (Cm (E.take i))/\zm.length<=2 * i
 obtain⟨Δ',e,sl,a2,a3,zm,rfl,hs,hw,_⟩:=s_6 (gV2 2 3) ao_5 I (ds:=E.map edD) (Δ:=[.sh (.lst (E.map edD)),.ow (.dic []),.no,.no])
  ⟨_,_,_,[],rfl,.inl ⟨rfl,rfl⟩,⟨λq=>rfl,λq h=>by cases h⟩,B5 _⟩
  (λi d Δ hd ⟨sl,a2,a3,zm,e,hs,hw,hn⟩=>by
   subst e;rw[A9]at hd;cases he:E[i]? with
   |none=>rw[he]at hd;cases hd
   |some ed=>
    rw[he]at hd;cases hd;obtain⟨k,a,b⟩:=ed;obtain⟨hkk,hab⟩:=hk _ (K0 he);simp only at hkk hab;have hi:i < E.length:=(B6.mp he).1;have tr:sl.tree=some (.dic zm,false):=by
     rcases hs with⟨rfl,rfl⟩|rfl <;> rfl
    have nl:∀q,(Cm (E.take i) q).length<=200:=λq=>by
     have:=cd_8 (E.take i) q;rw[V7]at this;omega
    have ia0:Bk (.tup [.int (a:Int),.int (b:Int)]) (.int 0)=.ok (.sh (.int (a:Int))):=rfl;have ia1:Bk (.tup [.int (a:Int),.int (b:Int)]) (.int 1)=.ok (.sh (.int (b:Int))):=rfl;obtain⟨k1,g1,w1,l1⟩:=cw_3 (i:=1) (Δ:=[.sh (.lst (E.map edD)),sl,.sh k,.sh (.tup [.int (a:Int),.int (b:Int)])]) (f1:=Af Bk (Aa 3) (eC (.int 0))) (f2:=Bq #v[2,Af Bk (Aa 3) (eC (.int 1))]) (a:=a) (b:=b) (k:=k) hw hkk (by simpa using tr)
     (by simp![Ao,ia0,Ba,A8,Sl.any]) (by simp![Ao,ia1,At,A8,Sl.pub]) () (by have:=nl a;omega)
    obtain⟨k2,g2,w2,l2⟩:=cw_3 (i:=1) (Δ:=[.sh (.lst (E.map edD)),.tr (.dic k1),.sh k,.sh (.tup [.int (a:Int),.int (b:Int)])]) (f1:=Af Bk (Aa 3) (eC (.int 1))) (f2:=Bq #v[2,Af Bk (Aa 3) (eC (.int 0))]) (a:=b) (b:=a) (k:=k) w1 hkk rfl
     (by simp![Ao,ia1,Ba,A8,Sl.any]) (by simp![Ao,ia0,At,A8,Sl.pub]) () (by
      have:=nl b;unfold addN
      split
      ·rw[B8];simp only[B4,J8];omega
      ·omega)
    refine⟨_,rfl,_,.inl ((Bg g1).trans g2),_,_,_,k2,rfl,.inr rfl, ?_,by omega⟩;rw[cw_4 he];have:addN (addN (Cm (E.take i)) a k b) b k a=λq=>Cm (E.take i) q ++ ((if a=q then [(k,b)] else []) ++ (if b=q then [(k,a)] else [])):=by
     funext q
     unfold addN
     by_cases h1:a=q
     ·subst h1;rw[if_neg hab,if_pos rfl,if_pos rfl,if_neg λz=>hab z.symm,D4]
     ·by_cases h2:b=q
      ·subst h2;rw[if_pos rfl,if_neg (λz=>hab z.symm),if_neg hab,if_pos rfl];rfl
      ·rw[if_neg λz=>h2 z.symm,if_neg λz=>h1 z.symm,if_neg h1,if_neg h2,D4,D4]
    rw[<-this];exact w2)
 rw[A3,S9]at hw;have q:am_1 (Bb 4 [.lst (E.map edD)])=Cl 1 [.sh (.lst (E.map edD)),sl,a2,a3]:=by
  unfold am_1;rw[show Bb 4 [D.lst (E.map edD)]= [.sh (.lst (E.map edD)),.no,.no,.no] from rfl];refine(Bg (Δ':=[.sh (.lst (E.map edD)),.ow (.dic []),.no,.no]) rfl).trans ?_;refine Bg ?_;exact e
 rcases hs with⟨rfl,rfl⟩|rfl
 ·exact⟨.ow (.dic []),[],p_8 q,rfl,rfl,hw.d⟩
 ·exact⟨.tr (.dic zm),Tn.ks zm,p_8 q,hw.plain,rfl,hw.d⟩
section
variable{p s m:Int}{T:List Int}{kds:List (Ae×D)}{ks:List D}{d:D}
def Dk(ks:List D)(d:D)(s p:Int):List Ed:=(ks.filter λx=> !decide (Aw x=Aw d)).map λx=>(x,pA x s p,pB x s p)
def bw_8(z:Szs p s m T)(h:KOk kds ks)(hd:Bo d):∃w wk,b_2 [Cb p s m T kds,d]=.ok w/\o_1 w=true/\w.d=.dic wk/\WD wk (Cm (Dk ks d s p)):=by
 have zk:=h.len;obtain⟨w,wk,e,pw,dw,hw⟩:=bw_7 (Dk ks d s p) (by unfold Dk;rw[A3];exact C5 (P4 _ _) ()) (λx hx=>by
  obtain⟨y,hy,rfl⟩:=D3.mp hx;have a:=z_4 y s z.p0;have b:=z_5 y s z.p0;exact⟨h.key y ((L4.mp hy).1),by simp only;omega⟩)
 refine⟨w,wk, ?_,pw,dw,hw⟩;have ec:=l_2 (fg:=gC 2) (p:=f_8) (f:=f_7) (δ:=[some (Cb p s m T kds),some d,none]) (λx=> !decide (Aw x=Aw d)) (λx=>edD (x,pA x s p,pB x s p)) ks (λx hx=>by
  refine⟨[some (Cb p s m T kds),some d,some x],rfl, ?_,λ_=> ?_⟩
  ·simp![f_8,Ao,dq_7 (h.key x hx) hd]
  ·have hp:=am_4 (m:=m) (T:=T) (kds:=kds) (h.key x hx) z.s0 z.s1 z.p0 (by have:=z.p1;omega);rw[af_6 x s z.p0]at hp;have e2:Cg "places" 1 [("Living",c_2)] (Aa 0) #v[2] [some (Cb p s m T kds),some d,some x]=.ok (.sh (.tup (zi [pA x s p,pB x s p]))):=(met1 (w:=.sh x) rfl rfl nofun).trans hp;exact⟨.sh (.tup [x,.tup (zi [pA x s p,pB x s p])]),by simp![f_7,Ao,e2],rfl⟩)
 have ei:bo_4 (Cp ["Living"] "by_key" (Aa 0)) [some (Cb p s m T kds),some d]=.ok ks:=by
  have e1:Cp ["Living"] "by_key" (Aa 0) [some (Cb p s m T kds),some d]=.ok (.sh (.dic kds)):=fld rfl rfl;unfold bo_4;rw[e1];show R.ok (kds.map λp=>kD p.1)=_;rw[h.ds]
 have e3:=o_0 (m:=1) (fg:=gC 2) (p:=f_8) (f:=f_7) ei () ec;have ee:((ks.filter λx=> !decide (Aw x=Aw d)).map λx=>edD (x,pA x s p,pB x s p))=(Dk ks d s p).map edD:=by
  unfold Dk;rw[F8];rfl
 rw[ee]at e3
 simp![b_2,o_9,Ao,e3,e]
end
theorem bw_9:∀(M:Nat) (l:List Nat),l.Nodup->(∀x∈l,x < M)->l.length<=M
 |0,l,_,h=>by
  cases l with
  |nil=>exact B5 _
  |cons a l=>exact absurd (h a D5) (Nat.not_lt_zero _)
 |M + 1,l,nd,h=>by
  have h1:=bw_9 M (l.erase M) (nd.erase M) λx hx=>by
   have:=nd.mem_erase_iff.mp hx;have:=h x this.2;omega
  have h2:=List.length_erase (a:=M) (l:=l)
  split at h2 <;> omega
abbrev Bs:=List (Nat×Option (D×Nat))
def bV:Option (D×Nat)->D
 |none=> .non
 |some (k,q)=> .tup [k,.int (q:Int)]
def bD(B:Bs):List (Ae×D):=B.map λe=>(.inl (e.1:Int),bV e.2)
abbrev bK(B:Bs):List Nat:=B.map (·.1)
def bd_4{α:Type}(x:Ae)(v:α)(l:List (Ae×α))(k:Ae):Cn ((x,v)::l) k=(decide (x=k) || Cn l k):=by
 unfold Cn;rw[Eg]
 by_cases h:x=k
 ·rw[if_pos h,D9 h];rfl
 ·rw[if_neg h,D2 h];rfl
def bx_0(B:Bs)(o:Nat):Cn (bD B) (.inl (o:Int))=decide (o∈bK B):=by
 induction B with
 |nil=>rfl
 |cons e B ih=>
  show Cn ((.inl (e.1:Int),bV e.2)::bD B) _=_;rw[bd_4,ih];have:(Sum.inl (e.1:Int):Ae)=.inl (o:Int)↔o=e.1:=⟨λz=>by injection z with z;omega,λz=>by rw[z]⟩;rw[decide_eq_decide.mpr this];rw[<-Bool.decide_or];exact decide_eq_decide.mpr C6.symm
def bj_0{α:Type}(l:List (Ae×α))(k:Ae):(l.any λkv=>decide (kv.1=k))=Cn l k:=by
 induction l with
 |nil=>rfl
 |cons q l ih=>
  obtain⟨x,v⟩:=q;rw[bd_4,Q4,ih]
def aw_8{α:Type}{l:List (Ae×α)}{k:Ae}{v:α}(h:Cn l k=false):By l k v=l ++ [(k,v)]:=by
 unfold By;rw[bj_0,h,if_neg A6]
inductive Grown(N:Nat->Nb)(s:Nat):Bs->Prop
 |base:Grown N s [(s,none)]
 |more {B:Bs} {q:Nat} {x:D×Nat}:Grown N s B->q∈bK B->x∈N q->x.2∉bK B->Grown N s (B ++ [(x.2,some (x.1,q))])
section
variable{N:Nat->Nb}{s:Nat}{B:Bs}
def ab_8(B C:Bs):bK (B ++ C)=bK B ++ bK C:=E8
def Grown.start(g:Grown N s B):s∈bK B:=by
 induction g with
 |base=>exact D1.mpr rfl
 |more _ _ _ _ ih=>rw[ab_8];exact J9 _ ih
def Grown.nd(g:Grown N s B):(bK B).Nodup:=by
 induction g with
 |base=>simp[bK]
 |more _ _ _ h ih=>
  rw[ab_8];refine List.nodup_append.mpr ⟨ih,by simp[bK],λa ha b hb e=> ?_⟩;have:b=_:=D1.mp hb;subst e;subst this;exact h ha
def Grown.all(g:Grown N s B)(P:Nat->Prop)(h0:P s)(h:∀q,P q->∀x∈N q,P x.2):∀q∈bK B,P q:=by
 induction g with
 |base=>intro q hq;rw[D1.mp hq];exact h0
 |more _ hq hx _ ih=>
  intro q' hq';rw[ab_8]at hq';rcases F5.mp hq' with e|e
  ·exact ih q' e
  ·rw[D1.mp e];exact h _ (ih _ hq) _ hx
theorem aw_9{wk:List (Ae×D)}{st q:Nat}:∀(l:Nb) (B:Bs) (Q:List Nat) (a5 a6:Sl),(∀x∈l,x∈N q)->Grown N s B->q∈bK B->B.length + l.length<=10000->Q.length<=B.length->
  ∃C a5' a6',De (gV2 5 6) d_8 (nbT l) [.sh (.int (st:Int)),.sh (.dic wk),.ow (.dic (bD B)),.ow (.lst (zi Q)),.sh (.int (q:Int)),a5,a6]=.nx [.sh (.int (st:Int)),.sh (.dic wk),.ow (.dic (bD (B ++ C))),.ow (.lst (zi (Q ++ bK C))),.sh (.int (q:Int)),a5',a6']/\Grown N s (B ++ C)/\∀x∈l,x.2∈bK (B ++ C)
 | [],B,Q,a5,a6,_,g,_,_,_=>⟨[],a5,a6,by rw[D4,show bK []= [] from rfl,D4];rfl,by rw[D4];exact g,λx h=>by cases h⟩
 |x::l,B,Q,a5,a6,hl,g,hq,hn,hQ=>by
  have hx:=hl x D5;have hl':∀y∈l,y∈N q:=λy hy=>hl y (C7 _ hy);rw[B4]at hn;have hb:=bx_0 B x.2;have ht:∀g1 g2:FS,Bx [2,6] (Ak (Af (Dm true) (Aa 6) (Aa 2))) g1 g2 [.sh (.int (st:Int)),.sh (.dic wk),.ow (.dic (bD B)),.ow (.lst (zi Q)),.sh (.int (q:Int)),.sh x.1,.sh (.int (x.2:Int))]=if x.2∈bK B then g2 [.sh (.int (st:Int)),.sh (.dic wk),.ow (.dic (bD B)),.ow (.lst (zi Q)),.sh (.int (q:Int)),.sh x.1,.sh (.int (x.2:Int))] else g1 [.sh (.int (st:Int)),.sh (.dic wk),.ow (.dic (bD B)),.ow (.lst (zi Q)),.sh (.int (q:Int)),.sh x.1,.sh (.int (x.2:Int))]:=λg1 g2=>by
   by_cases hm:x.2∈bK B
   ·rw[if_pos hm];rw[D9 hm]at hb
    simp![Ao,Sl.any,Dm,Ee,hb,if_true,ZC6]
   ·rw[if_neg hm];rw[D2 hm]at hb
    simp![Ao,Sl.any,Dm,Ee,hb,if_true,ZC2]
  have one:∀Δ2,d_8 [.sh (.int (st:Int)),.sh (.dic wk),.ow (.dic (bD B)),.ow (.lst (zi Q)),.sh (.int (q:Int)),.sh x.1,.sh (.int (x.2:Int))]=.nx Δ2->De (gV2 5 6) d_8 (nbT (x::l)) [.sh (.int (st:Int)),.sh (.dic wk),.ow (.dic (bD B)),.ow (.lst (zi Q)),.sh (.int (q:Int)),a5,a6]=De (gV2 5 6) d_8 (nbT l) Δ2:=λ Δ2 e=>by
   show(match d_8 [.sh (.int (st:Int)),.sh (.dic wk),.ow (.dic (bD B)),.ow (.lst (zi Q)),.sh (.int (q:Int)),.sh x.1,.sh (.int (x.2:Int))] with
    | .nx Δ2=>De (gV2 5 6) d_8 (nbT l) Δ2
    | .ct Δ2=>De (gV2 5 6) d_8 (nbT l) Δ2
    | .bk Δ2=> .nx Δ2
    |r=>r)=_
   rw[e]
  by_cases hm:x.2∈bK B
  ·have e1:d_8 [.sh (.int (st:Int)),.sh (.dic wk),.ow (.dic (bD B)),.ow (.lst (zi Q)),.sh (.int (q:Int)),.sh x.1,.sh (.int (x.2:Int))]=.nx [.sh (.int (st:Int)),.sh (.dic wk),.ow (.dic (bD B)),.ow (.lst (zi Q)),.sh (.int (q:Int)),.sh x.1,.sh (.int (x.2:Int))]:=by
    unfold d_8;rw[ht,if_pos hm];rfl
   obtain⟨C,a5',a6',e,g',h'⟩:=aw_9 l B Q (.sh x.1) (.sh (.int (x.2:Int))) hl' g hq () hQ;refine⟨C,a5',a6',(one _ e1).trans e,g',λy hy=> ?_⟩;rcases C6.mp hy with rfl|hy
   ·rw[ab_8];exact J9 _ hm
   ·exact h' y hy
  ·have e1:d_8 [.sh (.int (st:Int)),.sh (.dic wk),.ow (.dic (bD B)),.ow (.lst (zi Q)),.sh (.int (q:Int)),.sh x.1,.sh (.int (x.2:Int))]=.nx [.sh (.int (st:Int)),.sh (.dic wk),.ow (.dic (bD (B ++ [(x.2,some (x.1,q))]))),.ow (.lst (zi (Q ++ [x.2]))),.sh (.int (q:Int)),.sh x.1,.sh (.int (x.2:Int))]:=by
    unfold d_8;rw[ht,if_neg hm];rw[D2 hm]at hb;have hz:(bD B).length < 16777216:=by unfold bD;rw[A3];omega
    have hy:(zi Q).length < 16777216:=by unfold zi;rw[A3];omega
    have p1:bb_7 2 [4,5] (Aa 6) (Bq #v[5,4]) [.sh (.int (st:Int)),.sh (.dic wk),.ow (.dic (bD B)),.ow (.lst (zi Q)),.sh (.int (q:Int)),.sh x.1,.sh (.int (x.2:Int))]=.nx [.sh (.int (st:Int)),.sh (.dic wk),.ow (.dic (bD (B ++ [(x.2,some (x.1,q))]))),.ow (.lst (zi Q)),.sh (.int (q:Int)),.sh x.1,.sh (.int (x.2:Int))]:=by
     have e0:By (bD B) (.inl (x.2:Int)) (.tup [x.1,.int (q:Int)])=bD (B ++ [(x.2,some (x.1,q))]):=by
      rw[aw_8 hb];unfold bD;rw[E8];rfl
     rw[<-e0];unfold bb_7;show(match Bq #v[5,4] [some (.int (st:Int)),some (.dic wk),none,none,some (.int (q:Int)),some x.1,some (.int (x.2:Int))] with
      | .ok w=>(if(bD B).length < 16777216 then Fl.nx [.sh (.int (st:Int)),.sh (.dic wk),.ow (.dic (By (bD B) (.inl (x.2:Int)) w.d)),.ow (.lst (zi Q)),.sh (.int (q:Int)),.sh x.1,.sh (.int (x.2:Int))] else .no)
      |_=> .no)=_
     simp![Ao,if_pos hz,W.d_sh]
    rw[Bg p1];unfold sApp;show(if(zi Q).length < 16777216 then Fl.nx [.sh (.int (st:Int)),.sh (.dic wk),.ow (.dic (bD (B ++ [(x.2,some (x.1,q))]))),.ow (.lst (zi Q ++ [.int (x.2:Int)])),.sh (.int (q:Int)),.sh x.1,.sh (.int (x.2:Int))] else .no)=_;rw[if_pos hy];unfold zi;rw[E8];rfl
   obtain⟨C,a5',a6',e,g',h'⟩:=aw_9 l (B ++ [(x.2,some (x.1,q))]) (Q ++ [x.2]) (.sh x.1) (.sh (.int (x.2:Int))) hl' (g.more hq hx hm) (by rw[ab_8];exact J9 _ hq) (by rw[B8];simp only[B4,J8];omega) (by rw[B8,B8];simp only[B4,J8];omega);refine⟨(x.2,some (x.1,q))::C,a5',a6',(one _ e1).trans (e.trans ?_), ?_,λy hy=> ?_⟩
   ·rw[N9,N9];rfl
   ·rw[N9]at g';exact g'
   ·rw[N9]at h';rcases C6.mp hy with rfl|hy
    ·rw[ab_8];exact B7 _ D5
    ·exact h' y hy
end
section
variable{N:Nat->Nb}{s:Nat}{wk:List (Ae×D)}
def cw_5(wd:WD wk N)(q:Nat)(a0 a2 a3 a5 a6:Option D):El (bm_6 (Aa 1) (Aa 4) (Cd Ac)) [a0,some (.dic wk),a2,a3,some (.int (q:Int)),a5,a6]=.ok (nbT (N q)):=by
 have h:=wd q;cases e:Bh wk (.inl (q:Int)) with
 |some v=>
  rw[e]at h;simp only[R1]at h;subst h
  simp![Ao,bm_6,ca_8,Ee,e]
 |none=>
  rw[e]at h;simp only[Option.getD_none]at h;injection h with h
  simp![Ao,bm_6,ca_8,Ee,e,<-h]
def ck_1(wd:WD wk N){M:Nat}(hM:M<=1000)(hN:∀q,∀x∈N q,x.2 < M)(hn:∀q,(N q).length<=1000)(hs:s < M):∀(n:Nat) (P Q:List Nat) (B:Bs) (a4 a5 a6:Sl),bK B=P ++ Q->Grown N s B->(∀q∈P,∀x∈N q,x.2∈bK B)->M < n + P.length->
  ∃B' a4' a5' a6',v_8 [3] s_2 s_3 n [.sh (.int (s:Int)),.sh (.dic wk),.ow (.dic (bD B)),.ow (.lst (zi Q)),a4,a5,a6]=.nx [.sh (.int (s:Int)),.sh (.dic wk),.ow (.dic (bD B')),.ow (.lst []),a4',a5',a6']/\Grown N s B'/\∀q∈bK B',∀x∈N q,x.2∈bK B':=by
 intro n;have small:∀B,Grown N s B->B.length<=M:=λB g=>by
  have:=bw_9 M (bK B) g.nd (g.all (· < M) hs λq _ x hx=>hN q x hx)
  rwa[A3]at this
 have bl:∀B P Q,bK B=P ++ Q->B.length=P.length + Q.length:=λB P Q h=>by
  have:=K4 List.length h
  rwa[A3,B8]at this
 induction n with
 |zero=>
  intro P Q B a4 a5 a6 hb g _ hm;have:=small B g;have:=bl B P Q hb;omega
 |succ n ih=>
  intro P Q B a4 a5 a6 hb g hc hm;have h1:=small B g;have h2:=bl B P Q hb;have zl:(zi Q).length=Q.length:=by unfold zi;rw[A3]
  have ht:s_2 (Ba [.sh (.int (s:Int)),.sh (.dic wk),.ow (.dic (bD B)),.ow (.lst (zi Q)),a4,a5,a6])=.ok (decide ((0:Int) < (Q.length:Int))):=by
   simp![s_2,Ao,s_0,cb_1,zl]
  unfold v_8;rw[ht];cases Q with
  |nil=>
   refine⟨B,a4,a5,a6,rfl,g, ?_⟩;rw[D4]at hb;rw[hb];rw[hb]at hc;exact hc
  |cons q Q=>
   have hq:q∈bK B:=by rw[hb];simp
   rw[B4]at h2;have hnq:=hn q;have p1:bp_9 4 3 (eC (.int 0)) [.sh (.int (s:Int)),.sh (.dic wk),.ow (.dic (bD B)),.ow (.lst (zi (q::Q))),a4,a5,a6]=.nx [.sh (.int (s:Int)),.sh (.dic wk),.ow (.dic (bD B)),.ow (.lst (zi Q)),.sh (.int (q:Int)),a5,a6]:=by
    have zc:zi (q::Q)=.int (q:Int)::zi Q:=rfl;have z2:(zi Q).length=Q.length:=by unfold zi;rw[A3]
    rw[zc];unfold bp_9
    simp![Ao]
    rw[if_pos ⟨by decide,by rw[z2];omega,by rw[z2];omega⟩];rfl
   obtain⟨C,a5',a6',e,g',h'⟩:=aw_9 (wk:=wk) (st:=s) (q:=q) (N q) B Q a5 a6 (λ_ h=>h) g hq () ();have p2:s_3 [.sh (.int (s:Int)),.sh (.dic wk),.ow (.dic (bD B)),.ow (.lst (zi (q::Q))),a4,a5,a6]=.nx [.sh (.int (s:Int)),.sh (.dic wk),.ow (.dic (bD (B ++ C))),.ow (.lst (zi (Q ++ bK C))),.sh (.int (q:Int)),a5',a6']:=by
    unfold s_3;rw[Bg p1];unfold Fu;rw[show At [.sh (.int (s:Int)),.sh (.dic wk),.ow (.dic (bD B)),.ow (.lst (zi Q)),.sh (.int (q:Int)),a5,a6]= [some (.int (s:Int)),some (.dic wk),none,none,some (.int (q:Int)),a5.pub,a6.pub] from rfl,cw_5 wd];exact e
   have h0:(0:Int) < ((q::Q).length:Int):=by rw[B4];omega
   rw[D9 h0];simp only[if_true,p2];obtain⟨B',b4,b5,b6,e2,g2,h2'⟩:=ih (P ++ [q]) (Q ++ bK C) (B ++ C) (.sh (.int (q:Int))) a5' a6' (by rw[ab_8,hb];simp) g' (λy hy x hx=>by
    rcases F5.mp hy with h|h
    ·rw[ab_8];exact J9 _ (hc y h x hx)
    ·rw[D1.mp h]at hx;exact h' x hx) (by rw[B8];simp only[B4,J8];omega)
   exact⟨B',b4,b5,b6,e2,g2,h2'⟩
def bq_8(wd:WD wk N){M:Nat}(hM:M<=1000)(hN:∀q,∀x∈N q,x.2 < M)(hn:∀q,(N q).length<=1000)(hs:s < M):
  ∃B,k_5 [.int (s:Int),.dic wk]=.ok (.ow (.dic (bD B)))/\Grown N s B/\(∀q∈bK B,∀x∈N q,x.2∈bK B)/\B.length<=M:=by
 obtain⟨B,a4,a5,a6,e,g,h⟩:=ck_1 (s:=s) wd hM hN hn hs 3000 [] [s] [(s,none)] .no .no .no rfl .base (λq hq=>by cases hq) (by simp only[J8];omega);refine⟨B, ?_,g,h, ?_⟩
 ·have q:af_4 (Bb 7 [.int (s:Int),.dic wk])=Cl 2 [.sh (.int (s:Int)),.sh (.dic wk),.ow (.dic (bD B)),.ow (.lst []),a4,a5,a6]:=by
   unfold af_4;rw[show Bb 7 [.int (s:Int),.dic wk]= [.sh (.int (s:Int)),.sh (.dic wk),.no,.no,.no,.no,.no] from rfl];refine(Bg (Δ':=[.sh (.int (s:Int)),.sh (.dic wk),.ow (.dic (bD [(s,none)])),.no,.no,.no,.no]) rfl).trans ?_;refine(Bg (Δ':=[.sh (.int (s:Int)),.sh (.dic wk),.ow (.dic (bD [(s,none)])),.ow (.lst (zi [s])),.no,.no,.no]) rfl).trans ?_;exact Bg e
  exact p_8 q
 ·have:=bw_9 M (bK B) g.nd (g.all (· < M) hs λq _ x hx=>hN q x hx)
  rwa[A3]at this
end
def Dx(T:List Int)(S:List Nat)(p m l1 l2:Int):List Int:=T.mapIdx λi n=>if i∈S then(n + if(i:Int) < p then l1 else l2) % m else n
def s_8(T:List Int)(S:List Nat)(p m l1 l2:Int):(Dx T S p m l1 l2).length=T.length:=by
 unfold Dx;rw[List.length_mapIdx]
def am_8(T:List Int)(S:List Nat)(p m l1 l2:Int)(i:Nat):(Dx T S p m l1 l2)[i]? =(T[i]?).map λn=>if i∈S then(n + if(i:Int) < p then l1 else l2) % m else n:=by
 unfold Dx;rw[List.getElem?_mapIdx]
section
variable{p s m l1 l2:Int}{T:List Int}{kds:List (Ae×D)}{B:Bs}
def ck_2{L:List Int}{i:Nat}{n:Int}(hm:0 < m)(hL:L.length<=1000)(a7:Sl):j_4 [.lt (Aj p s m T kds),.sh (.dic (bD B)),.sh (.int l1),.sh (.int l2),.ow (.lst (L.map .int)),.sh (.int (i:Int)),.sh (.int n),a7]=.nx [.lt (Aj p s m T kds),.sh (.dic (bD B)),.sh (.int l1),.sh (.int l2),.ow (.lst ((L ++ [if i∈bK B then(n + if(i:Int) < p then l1 else l2) % m else n]).map .int)),.sh (.int (i:Int)),.sh (.int n),.sh (.int (if(i:Int) < p then l1 else l2))]:=by
 have e1:∀δ,Cp ["Living"] "part" (Aa 0) (some (Cb p s m T kds)::δ)=.ok (.sh (.int p)):=λ δ=>fld rfl rfl;have e2:∀δ,Cp ["Living"] "modulus" (Aa 0) (some (Cb p s m T kds)::δ)=.ok (.sh (.int m)):=λ δ=>fld rfl rfl;have q1:Ei 7 (Et [0] (eIf (Ak (Af ltD (Aa 5) (Cp ["Living"] "part" (Aa 0)))) (Aa 2) (Aa 3))) [.lt (Aj p s m T kds),.sh (.dic (bD B)),.sh (.int l1),.sh (.int l2),.ow (.lst (L.map .int)),.sh (.int (i:Int)),.sh (.int n),a7]=.nx [.lt (Aj p s m T kds),.sh (.dic (bD B)),.sh (.int l1),.sh (.int l2),.ow (.lst (L.map .int)),.sh (.int (i:Int)),.sh (.int n),.sh (.int (if(i:Int) < p then l1 else l2))]:=by
  unfold Ei;rw[v_6 (w:=.sh (.int (if(i:Int) < p then l1 else l2))) ?_ rfl]
  ·rfl
  ·by_cases h:(i:Int) < p
   ·simp![Ao,e1,Ez,h]
   ·simp![Ao,e1,Ez,h]
 unfold j_4;rw[Bg q1];generalize (if(i:Int) < p then l1 else l2)=w;have hb:=bx_0 B i;have hl:(L.map D.int).length < 16777216:=by rw[A3];omega
 unfold sApp
 by_cases h:i∈bK B
 ·rw[D9 h]at hb;have hr:=ai_7 (n + w) m hm;have e0:Cp ["Living"] "modulus" (Aa 0) [none,some (.dic (bD B)),some (.int l1),some (.int l2),none,some (.int (i:Int)),some (.int n),some (.int w)]=.no:=rfl
  simp![Ao,Sl.any,Sl.pub,ab_5,Dm,Ee,hb,if_true,e0,e2,k_7,hr,if_pos h,if_pos hl,E8]
 ·rw[D2 h]at hb
  simp![Ao,Sl.any,Sl.pub,Dm,Ee,hb,if_true,if_neg h,if_pos hl,E8]
end
section
variable{p s m l1 l2:Int}{T:List Int}{kds:List (Ae×D)}{B:Bs}
def bx_1{i:Nat}{n:Int}(h:T[i]? =some n):(Dx T (bK B) p m l1 l2).take (i + 1)=(Dx T (bK B) p m l1 l2).take i ++ [if i∈bK B then(n + if(i:Int) < p then l1 else l2) % m else n]:=by
 rw[V1,am_8,h];rfl
def cw_6(hm:0 < m)(hT:T.length<=1000):d_2 (Aj p s m T kds) [.dic (bD B),.int l1,.int l2]=.ok .non (Aj p s m (Dx T (bK B) p m l1 l2) kds):=by
 let I:Nat->SE->Prop:=λi Δ=>∃a5 a6 a7:Sl,Δ= [.lt (Aj p s m T kds),.sh (.dic (bD B)),.sh (.int l1),.sh (.int l2),.ow (.lst (((Dx T (bK B) p m l1 l2).take i).map .int)),a5,a6,a7]
 obtain⟨Δ',e,a5,a6,a7,rfl⟩:=s_6 (gV2 5 6) j_4 I (ds:=o_8 0 (T.map .int)) (Δ:=[.lt (Aj p s m T kds),.sh (.dic (bD B)),.sh (.int l1),.sh (.int l2),.ow (.lst []),.no,.no,.no]) ⟨_,_,_,rfl⟩
  (λi d Δ hd ⟨a5,a6,a7,e⟩=>by
   subst e;obtain⟨d',h1,h2⟩:=ac_7 hd;rw[A9]at h1;cases he:T[i]? with
   |none=>rw[he]at h1;cases h1
   |some n=>
    rw[he]at h1;cases h1;rw[Q3]at h2;subst h2;refine⟨_,rfl,_,.inl (ck_2 (n:=n) hm ?_ a7),.sh (.int (i:Int)),.sh (.int n),.sh (.int (if(i:Int) < p then l1 else l2)), ?_⟩
    ·rw[V7,s_8];omega
    ·rw[bx_1 he])
 rw[s_5,A3,<-s_8 T (bK B) p m l1 l2,S9]at e;have q1:bp_6 (Et [0] (Cp ["Living"] "listed" (Aa 0))) (gV2 5 6) j_4 [.lt (Aj p s m T kds),.sh (.dic (bD B)),.sh (.int l1),.sh (.int l2),.ow (.lst []),.no,.no,.no]=.nx [.lt (Aj p s m T kds),.sh (.dic (bD B)),.sh (.int l1),.sh (.int l2),.ow (.lst ((Dx T (bK B) p m l1 l2).map .int)),a5,a6,a7]:=by
  unfold bp_6;rw[v_6 (w:=.sh (.lst (T.map .int))) (fld rfl rfl) (by show Do (.lst (T.map .int))=true;simp only[Do,y_6])];exact e
 have q2:bp_3 0 ["Living"] "listed" [4] (Aa 4) [.lt (Aj p s m T kds),.sh (.dic (bD B)),.sh (.int l1),.sh (.int l2),.ow (.lst ((Dx T (bK B) p m l1 l2).map .int)),a5,a6,a7]=.nx [.lt (Aj p s m (Dx T (bK B) p m l1 l2) kds),.sh (.dic (bD B)),.sh (.int l1),.sh (.int l2),.sh (.lst ((Dx T (bK B) p m l1 l2).map .int)),a5,a6,a7]:=by
  have hc:lN.contains ("listed" :Str)=true:=by decide +kernel
  have hg:gsome [4] [.lt (Aj p s m T kds),.sh (.dic (bD B)),.sh (.int l1),.sh (.int l2),.ow (.lst ((Dx T (bK B) p m l1 l2).map .int)),a5,a6,a7]= [.lt (Aj p s m T kds),.sh (.dic (bD B)),.sh (.int l1),.sh (.int l2),.sh (.lst ((Dx T (bK B) p m l1 l2).map .int)),a5,a6,a7]:=rfl;have hb:(([.lt (Aj p s m T kds),.sh (.dic (bD B)),.sh (.int l1),.sh (.int l2),.sh (.lst ((Dx T (bK B) p m l1 l2).map .int)),a5,a6,a7]:SE)[0]?).bind Sl.tree=some (Aj p s m T kds,true):=rfl;have hv:Aa 4 (At [.lt (Aj p s m T kds),.sh (.dic (bD B)),.sh (.int l1),.sh (.int l2),.sh (.lst ((Dx T (bK B) p m l1 l2).map .int)),a5,a6,a7])=.ok (.sh (.lst ((Dx T (bK B) p m l1 l2).map .int))):=rfl;unfold bp_3;rw[hg,hb,hv];have hn:lN.length < 1000:=by decide
  unfold Aj;simp only[aw_7,hc,hn,ZC3,if_true,W.d_sh,dq_5];rfl
 unfold d_2 w_6 ab_0;rw[show aa_6 8 (Aj p s m T kds) [.dic (bD B),.int l1,.int l2]= [.lt (Aj p s m T kds),.sh (.dic (bD B)),.sh (.int l1),.sh (.int l2),.no,.no,.no,.no] from rfl];have q0:Al 4 [] (Cd Ac) [.lt (Aj p s m T kds),.sh (.dic (bD B)),.sh (.int l1),.sh (.int l2),.no,.no,.no,.no]=.nx [.lt (Aj p s m T kds),.sh (.dic (bD B)),.sh (.int l1),.sh (.int l2),.ow (.lst []),.no,.no,.no]:=rfl;rw[Bg q0,Bg q1,q2]
end
def af_9:Xn:=⟨"Stuck",[],[]⟩
def lenB(B:Bs):(bD B).length=B.length:=by unfold bD;rw[A3]
section
variable{p s m l:Int}{T:List Int}{kds wk:List (Ae×D)}{N:Nat->Nb}{a b:Nat}
def cd_9(p s m l:Int)(T:List Int)(kds:List (Ae×D))(b:Nat)(B1 B2:Bs):RR:=
 if b∈bK B1 then .ex af_9 (Aj p s m T kds) else if B1.length<=B2.length then .ok (.int (B1.length:Int)) (Aj p s m (Dx T (bK B1) p m l (-l)) kds) else .ok (.int (B2.length:Int)) (Aj p s m (Dx T (bK B2) p m (-l) l) kds)
def dh_0{B1 B2:Bs}(z:Szs p s m T)(f1:k_5 [.int (a:Int),.dic wk]=.ok (.ow (.dic (bD B1))))(f2:k_5 [.int (b:Int),.dic wk]=.ok (.ow (.dic (bD B2)))):g_8 (Aj p s m T kds) [.tup (zi [a,b]),.int l,.dic wk]=cd_9 p s m l T kds b B1 B2:=by
 have hm:0 < m:=by have:=z.m0;omega
 have hT:T.length<=1000:=by have:=z.tl;have:=z.p1;omega
 have i0:Bk (.tup (zi [a,b])) (.int 0)=.ok (.sh (.int (a:Int))):=rfl;have i1:Bk (.tup (zi [a,b])) (.int 1)=.ok (.sh (.int (b:Int))):=rfl;have k1:=ar_4 (n:=3) (p:=p) (s:=s) (m:=m) (T:=T) (kds:=kds) (M:=d_2) (ga:=Bw (Aa 4) (Bw (Aa 2) (Bw (eNeg (Aa 2)) Ff))) (Δ:=[.sh (.tup (zi [a,b])),.sh (.int l),.sh (.dic wk),.sh (.dic (bD B1)),.ow (.dic (bD B2))]) (ds:=[.dic (bD B1),.int l,.int (-l)]) (mn:= "shift") nofun rfl rfl;have k2:=ar_4 (n:=3) (p:=p) (s:=s) (m:=m) (T:=T) (kds:=kds) (M:=d_2) (ga:=Bw (Aa 5) (Bw (eNeg (Aa 2)) (Bw (Aa 2) Ff))) (Δ:=[.sh (.tup (zi [a,b])),.sh (.int l),.sh (.dic wk),.ow (.dic (bD B1)),.sh (.dic (bD B2))]) (ds:=[.dic (bD B2),.int (-l),.int l]) (mn:= "shift") nofun rfl rfl;rw[cw_6 hm hT]at k1 k2;unfold g_8 w_6 ae_1 cd_9;generalize Aj p s m (Dx T (bK B1) p m l (-l)) kds=t1 at k1⊢;generalize Aj p s m (Dx T (bK B2) p m (-l) l) kds=t2 at k2⊢;generalize Aj p s m T kds=t at k1 k2⊢;rw[show aa_6 6 t [.tup (zi [a,b]),.int l,.dic wk]= [.lt t,.sh (.tup (zi [a,b])),.sh (.int l),.sh (.dic wk),.no,.no] from rfl];have q1:Al 4 [1,3] (Bl 2 k_5 #v[Af Bk (Aa 1) (eC (.int 0)),3]) [.lt t,.sh (.tup (zi [a,b])),.sh (.int l),.sh (.dic wk),.no,.no]=.nx [.lt t,.sh (.tup (zi [a,b])),.sh (.int l),.sh (.dic wk),.ow (.dic (bD B1)),.no]:=by
  simp![Ao,Sl.any,Sl.pub,Sl.give,i0,f1]
 have q2:Al 5 [1,3] (Bl 2 k_5 #v[Af Bk (Aa 1) (eC (.int 1)),3]) [.lt t,.sh (.tup (zi [a,b])),.sh (.int l),.sh (.dic wk),.ow (.dic (bD B1)),.no]=.nx [.lt t,.sh (.tup (zi [a,b])),.sh (.int l),.sh (.dic wk),.ow (.dic (bD B1)),.ow (.dic (bD B2))]:=by
  simp![Ao,Sl.any,Sl.pub,Sl.give,i1,f2]
 rw[Bg q1,Bg q2];have hb:=bx_0 B1 b
 by_cases h:b∈bK B1
 ·rw[D9 h]at hb;have q3:Bx [1,4] (Ak (Af (Dm false) (Af Bk (Aa 1) (eC (.int 1))) (Aa 4))) (ac_9 "Stuck") Bc [.lt t,.sh (.tup (zi [a,b])),.sh (.int l),.sh (.dic wk),.ow (.dic (bD B1)),.ow (.dic (bD B2))]=.ex af_9 [.lt t,.sh (.tup (zi [a,b])),.sh (.int l),.sh (.dic wk),.ow (.dic (bD B1)),.ow (.dic (bD B2))]:=by
   simp![Ao,Sl.any,i1,Dm,Ee,hb,if_true]
   rfl
  rw[if_pos h];unfold Ag;rw[q3]
 ·rw[D2 h]at hb;have q3:Bx [1,4] (Ak (Af (Dm false) (Af Bk (Aa 1) (eC (.int 1))) (Aa 4))) (ac_9 "Stuck") Bc [.lt t,.sh (.tup (zi [a,b])),.sh (.int l),.sh (.dic wk),.ow (.dic (bD B1)),.ow (.dic (bD B2))]=.nx [.lt t,.sh (.tup (zi [a,b])),.sh (.int l),.sh (.dic wk),.ow (.dic (bD B1)),.ow (.dic (bD B2))]:=by
   simp![Ao,Sl.any,i1,Dm,Ee,hb,if_true]
  rw[if_neg h,Bg q3];have lk:∀B,Fo [.dic (bD B)]=.ok (.sh (.int (B.length:Int))):=λB=>by
   have:=lenB B;show R.ok (W.sh (.int ((bD B).length:Int)))=_;rw[this]
  by_cases hl:B1.length<=B2.length
  ·have q4:∀g1 g2:FS,Bx [4,5] (Ak (Af leD (An Fo #v[4]) (An Fo #v[5]))) g1 g2 [.lt t,.sh (.tup (zi [a,b])),.sh (.int l),.sh (.dic wk),.ow (.dic (bD B1)),.ow (.dic (bD B2))]=g1 [.lt t,.sh (.tup (zi [a,b])),.sh (.int l),.sh (.dic wk),.ow (.dic (bD B1)),.ow (.dic (bD B2))]:=λg1 g2=>by
    simp![Ao,Sl.any,lk,au_3,show(B1.length:Int)<=(B2.length:Int) by omega]
   rw[if_pos hl];unfold Ag;rw[q4];have q5:t_4 (k_3 [2,4] (r_7 0 3 "shift" "Living" d_2 (Bw (Aa 4) (Bw (Aa 2) (Bw (eNeg (Aa 2)) Ff))))) [.lt t,.sh (.tup (zi [a,b])),.sh (.int l),.sh (.dic wk),.ow (.dic (bD B1)),.ow (.dic (bD B2))]=.nx [.lt t1,.sh (.tup (zi [a,b])),.sh (.int l),.sh (.dic wk),.sh (.dic (bD B1)),.ow (.dic (bD B2))]:=by
    unfold t_4 k_3;rw[show gsome [2,4] [.lt t,.sh (.tup (zi [a,b])),.sh (.int l),.sh (.dic wk),.ow (.dic (bD B1)),.ow (.dic (bD B2))]= [.lt t,.sh (.tup (zi [a,b])),.sh (.int l),.sh (.dic wk),.sh (.dic (bD B1)),.ow (.dic (bD B2))] from rfl,k1];rfl
   rw[q5];have q6:r_6 (z_1 [4] (An Fo #v[4])) [.lt t1,.sh (.tup (zi [a,b])),.sh (.int l),.sh (.dic wk),.sh (.dic (bD B1)),.ow (.dic (bD B2))]=.rv (.int (B1.length:Int)) [.lt t1,.sh (.tup (zi [a,b])),.sh (.int l),.sh (.dic wk),.sh (.dic (bD B1)),.ow (.dic (bD B2))]:=by
    unfold r_6 z_1
    simp![Ao,Sl.any,Sl.pub,lk]
   simp only[q6]
  ·have q4:∀g1 g2:FS,Bx [4,5] (Ak (Af leD (An Fo #v[4]) (An Fo #v[5]))) g1 g2 [.lt t,.sh (.tup (zi [a,b])),.sh (.int l),.sh (.dic wk),.ow (.dic (bD B1)),.ow (.dic (bD B2))]=g2 [.lt t,.sh (.tup (zi [a,b])),.sh (.int l),.sh (.dic wk),.ow (.dic (bD B1)),.ow (.dic (bD B2))]:=λg1 g2=>by
    simp![Ao,Sl.any,lk,au_3,show¬(B1.length:Int)<=(B2.length:Int) by omega]
   rw[if_neg hl];have q5:t_4 (k_3 [2,5] (r_7 0 3 "shift" "Living" d_2 (Bw (Aa 5) (Bw (eNeg (Aa 2)) (Bw (Aa 2) Ff))))) [.lt t,.sh (.tup (zi [a,b])),.sh (.int l),.sh (.dic wk),.ow (.dic (bD B1)),.ow (.dic (bD B2))]=.nx [.lt t2,.sh (.tup (zi [a,b])),.sh (.int l),.sh (.dic wk),.ow (.dic (bD B1)),.sh (.dic (bD B2))]:=by
    unfold t_4 k_3;rw[show gsome [2,5] [.lt t,.sh (.tup (zi [a,b])),.sh (.int l),.sh (.dic wk),.ow (.dic (bD B1)),.ow (.dic (bD B2))]= [.lt t,.sh (.tup (zi [a,b])),.sh (.int l),.sh (.dic wk),.ow (.dic (bD B1)),.sh (.dic (bD B2))] from rfl,k2];rfl
   have q6:r_6 (z_1 [5] (An Fo #v[5])) [.lt t2,.sh (.tup (zi [a,b])),.sh (.int l),.sh (.dic wk),.ow (.dic (bD B1)),.sh (.dic (bD B2))]=.rv (.int (B2.length:Int)) [.lt t2,.sh (.tup (zi [a,b])),.sh (.int l),.sh (.dic wk),.ow (.dic (bD B1)),.sh (.dic (bD B2))]:=by
    unfold r_6 z_1
    simp![Ao,Sl.any,Sl.pub,lk]
   unfold Ag;rw[q4];simp only[Bc,q5,q6]
end
structure Srch(N:Nat->Nb)(s M:Nat)(B:Bs):Prop where
 g:Grown N s B
 cl:∀q∈bK B,∀x∈N q,x.2∈bK B
 le:B.length<=M
section
variable{p s m:Int}{T:List Int}{kds:List (Ae×D)}{ks:List D}{d:D}{v:Int}
def Du(T:List Int)(d:D)(s p m v:Int):Int:=v - o_7 T [pA d s p,pB d s p] % m
def Cq(p s m v:Int)(T:List Int)(kds:List (Ae×D))(d:D)(B1 B2:Bs):RR:=
 if Du T d s p m v=0 then .ok (.int 0) (Aj p s m T (By kds (Aw d) (.int v)))
 else if pB d s p∈bK B1 then .ex af_9 (Aj p s m T kds)
 else if B1.length<=B2.length then .ok (.int (B1.length:Int)) (Aj p s m (Dx T (bK B1) p m (Du T d s p m v) (-Du T d s p m v)) (By kds (Aw d) (.int v)))
 else .ok (.int (B2.length:Int)) (Aj p s m (Dx T (bK B2) p m (-Du T d s p m v) (Du T d s p m v)) (By kds (Aw d) (.int v)))
def ar_6{E:List Ed}{q:Nat}{x:D×Nat}(h:x∈Cm E q):∃e∈E,(e.2.1=q/\x=(e.1,e.2.2))\/(e.2.2=q/\x=(e.1,e.2.1)):=by
 unfold Cm at h;obtain⟨e,he,hx⟩:=T4.mp h;refine⟨e,he, ?_⟩;rcases F5.mp hx with hx|hx
 ·split at hx
  ·rename_i hq;exact .inl ⟨hq,D1.mp hx⟩
  ·cases hx
 ·split at hx
  ·rename_i hq;exact .inr ⟨hq,D1.mp hx⟩
  ·cases hx
def dq_8(z:Szs p s m T)(h:KOk kds ks)(hd:Bo d)(v0:0<=v)(v1:v < m):∃B1 B2,Srch (Cm (Dk ks d s p)) (pA d s p) (2 * p).toNat B1/\Srch (Cm (Dk ks d s p)) (pB d s p) (2 * p).toNat B2/\i_2 (Aj p s m T kds) [d,.int v]=Cq p s m v T kds d B1 B2:=by
 have p0:=z.p0;have p1:=z.p1;have a:=z_4 d s p0;have b:=z_5 d s p0;obtain⟨w,wk,ew,pw,dw,wd⟩:=bw_8 z h hd;have hN:∀q,∀x∈Cm (Dk ks d s p) q,x.2 < (2 * p).toNat:=λq x hx=>by
  obtain⟨e,he,hx⟩:=ar_6 hx;obtain⟨y,hy,rfl⟩:=D3.mp he;have a:=z_4 y s p0;have b:=z_5 y s p0;rcases hx with⟨_,rfl⟩|⟨_,rfl⟩
  ·show pB y s p < _;omega
  ·show pA y s p < _;omega
 have hn:∀q,(Cm (Dk ks d s p) q).length<=1000:=λq=>by
  have h1:=cd_8 (Dk ks d s p) q;have h2:(Dk ks d s p).length<=ks.length:=by unfold Dk;rw[A3];exact P4 _ _
  have:=h.len;omega
 obtain⟨B1,f1,g1,c1,l1⟩:=bq_8 (s:=pA d s p) wd (M:=(2 * p).toNat) () hN hn ();obtain⟨B2,f2,g2,c2,l2⟩:=bq_8 (s:=pB d s p) wd (M:=(2 * p).toNat) () hN hn ();refine⟨B1,B2,⟨g1,c1,l1⟩,⟨g2,c2,l2⟩, ?_⟩;have hp:=am_4 (m:=m) (T:=T) (kds:=kds) hd z.s0 z.s1 z.p0 (by have:=z.p1;omega);rw[af_6 d s p0]at hp;have e2:Cg "places" 1 [("Living",c_2)] (Aa 0) #v[1] [some (Cb p s m T kds),some d,some (.int v),none,none,none]=.ok (.sh (.tup (zi [pA d s p,pB d s p]))):=(met1 (w:=.sh d) rfl rfl nofun).trans hp;have e3:Cp ["Living"] "modulus" (Aa 0) [some (Cb p s m T kds),some d,some (.int v),some (.tup (zi [pA d s p,pB d s p])),none,none]=.ok (.sh (.int m)):=fld rfl rfl;have e4:Cg "value" 1 [("Living",e_8)] (Aa 0) #v[1] [some (Cb p s m T kds),some d,some (.int v),some (.tup (zi [pA d s p,pB d s p])),none,none]=.ok (.sh (.int (o_7 T [pA d s p,pB d s p] % m))):=(met1 (w:=.sh d) rfl rfl nofun).trans (cv_6 z hd);have e5:Cg "ways_without" 1 [("Living",b_2)] (Aa 0) #v[1] [some (Cb p s m T kds),some d,some (.int v),some (.tup (zi [pA d s p,pB d s p])),some (.int (Du T d s p m v)),some (.int 0)]=.ok w:=(met1 (w:=.sh d) rfl rfl nofun).trans ew;have yb:0<=v/\v < m:=⟨v0,v1⟩;unfold i_2 w_6 ai_5;rw[show aa_6 6 (Aj p s m T kds) [d,.int v]= [.lt (Aj p s m T kds),.sh d,.sh (.int v),.no,.no,.no] from rfl];have q1:Ei 3 (Et [0] (Cg "places" 1 [("Living",c_2)] (Aa 0) #v[1])) [.lt (Aj p s m T kds),.sh d,.sh (.int v),.no,.no,.no]=.nx [.lt (Aj p s m T kds),.sh d,.sh (.int v),.sh (.tup (zi [pA d s p,pB d s p])),.no,.no]:=by
  unfold Ei;rw[v_6 e2 rfl];rfl
 have q2:Bx [0,2] (Fw (Bn (Bl 2 i_6 #v[2,Cp ["Living"] "modulus" (Aa 0)]))) (af_0 "NoValue" "at" [] (eC (.int 0))) Bc [.lt (Aj p s m T kds),.sh d,.sh (.int v),.sh (.tup (zi [pA d s p,pB d s p])),.no,.no]=.nx [.lt (Aj p s m T kds),.sh d,.sh (.int v),.sh (.tup (zi [pA d s p,pB d s p])),.no,.no]:=by
  simp![Ao,Sl.any,ab_5,e3,cv_5,yb,Fw,af_0,ZC3,W5]
 have q3:Ei 4 (Et [0] (Af Fe (Aa 2) (Cg "value" 1 [("Living",e_8)] (Aa 0) #v[1]))) [.lt (Aj p s m T kds),.sh d,.sh (.int v),.sh (.tup (zi [pA d s p,pB d s p])),.no,.no]=.nx [.lt (Aj p s m T kds),.sh d,.sh (.int v),.sh (.tup (zi [pA d s p,pB d s p])),.sh (.int (Du T d s p m v)),.no]:=by
  unfold Ei;rw[v_6 (w:=.sh (.int (Du T d s p m v))) ?_ rfl]
  ·rfl
  ·simp![Ao,Sl.any,Sl.pub,e4,ae_9,Du]
 have q4:Al 5 [] (eC (.int 0)) [.lt (Aj p s m T kds),.sh d,.sh (.int v),.sh (.tup (zi [pA d s p,pB d s p])),.sh (.int (Du T d s p m v)),.no]=.nx [.lt (Aj p s m T kds),.sh d,.sh (.int v),.sh (.tup (zi [pA d s p,pB d s p])),.sh (.int (Du T d s p m v)),.sh (.int 0)]:=rfl;rw[Bg q1,Bg q2,Bg q3,Bg q4];have fin:∀(T':List Int) (c:Int),(match Ag (bc_3 0 ["Living"] "by_key" (Aa 1) (Aa 2)) (r_6 (z_1 [5] (Aa 5))) [.lt (Aj p s m T' kds),.sh d,.sh (.int v),.sh (.tup (zi [pA d s p,pB d s p])),.sh (.int (Du T d s p m v)),.sh (.int c)] with
   | .nx (.lt t'::_)=>RR.ok .non t'
   | .rv d (.lt t'::_)=> .ok d t'
   | .ex x (.lt t'::_)=> .ex x t'
   |_=> .no)=.ok (.int c) (Aj p s m T' (By kds (Aw d) (.int v))):=λT' c=>by
  rw[Bg (fput (k:=Aw d) (w:=.sh d) (v:=.sh (.int v)) rfl (u_2 hd) rfl (by rw[h.length];have:=h.len;omega))];rfl
 have ne:Fa (.int (Du T d s p m v)) (.int 0)=.ok (.sh (.bl (!decide (Du T d s p m v=0)))):=ah_2 _ _;unfold Cq;clear q1 q2 q3 q4 e4;generalize Du T d s p m v=l at e5 fin ne⊢
 by_cases hz:l=0
 ·have q5:∀g:FS,Bx [4] (Ak (Af Fa (Aa 4) (eC (.int 0)))) g Bc [.lt (Aj p s m T kds),.sh d,.sh (.int v),.sh (.tup (zi [pA d s p,pB d s p])),.sh (.int (l)),.sh (.int 0)]=.nx [.lt (Aj p s m T kds),.sh d,.sh (.int v),.sh (.tup (zi [pA d s p,pB d s p])),.sh (.int (l)),.sh (.int 0)]:=λg=>by
   subst hz
   simp![Ao,Sl.any,ne]
  rw[Bg (q5 _),if_pos hz];exact fin _ _
 ·have q5:∀g:FS,Bx [4] (Ak (Af Fa (Aa 4) (eC (.int 0)))) g Bc [.lt (Aj p s m T kds),.sh d,.sh (.int v),.sh (.tup (zi [pA d s p,pB d s p])),.sh (.int (l)),.sh (.int 0)]=g [.lt (Aj p s m T kds),.sh d,.sh (.int v),.sh (.tup (zi [pA d s p,pB d s p])),.sh (.int (l)),.sh (.int 0)]:=λg=>by
   simp![Ao,Sl.any,ne,D2 hz]
  have mc:an_7 [0] (Cg "ways_without" 1 [("Living",b_2)] (Aa 0) #v[1]) Ff [.lt (Aj p s m T kds),.sh d,.sh (.int v),.sh (.tup (zi [pA d s p,pB d s p])),.sh (.int (l)),.sh (.int 0)]=.ok [.dic wk]:=by
   unfold an_7;rw[bd_0,if_pos rfl,dj_1,ab_5];rw[show At [.sh d,.sh (.int v),.sh (.tup (zi [pA d s p,pB d s p])),.sh (.int l),.sh (.int 0)]= [some d,some (.int v),some (.tup (zi [pA d s p,pB d s p])),some (.int l),some (.int 0)] from rfl];rw[e5];simp only[pw,if_true,Ff,dw]
  have mg:Bw (Aa 3) (Bw (Aa 4) (an_7 [0] (Cg "ways_without" 1 [("Living",b_2)] (Aa 0) #v[1]) Ff)) [.lt (Aj p s m T kds),.sh d,.sh (.int v),.sh (.tup (zi [pA d s p,pB d s p])),.sh (.int (l)),.sh (.int 0)]=.ok [.tup (zi [pA d s p,pB d s p]),.int (l),.dic wk]:=by
   show(match(match an_7 [0] (Cg "ways_without" 1 [("Living",b_2)] (Aa 0) #v[1]) Ff [.lt (Aj p s m T kds),.sh d,.sh (.int v),.sh (.tup (zi [pA d s p,pB d s p])),.sh (.int l),.sh (.int 0)] with| .ok ds=>R.ok (D.int l::ds)| .ex x=> .ex x| .no=> .no) with| .ok ds=>R.ok (D.tup (zi [pA d s p,pB d s p])::ds)| .ex x=> .ex x| .no=> .no)=_;rw[mc]
  have k:=ar_4 (n:=3) (M:=g_8) (mn:= "mend") nofun mg rfl;rw[dh_0 z f1 f2]at k;have q6:Ei 5 (k_3 [1,3,4] (r_7 0 3 "mend" "Living" g_8 (Bw (Aa 3) (Bw (Aa 4) (an_7 [0] (Cg "ways_without" 1 [("Living",b_2)] (Aa 0) #v[1]) Ff))))) [.lt (Aj p s m T kds),.sh d,.sh (.int v),.sh (.tup (zi [pA d s p,pB d s p])),.sh (.int (l)),.sh (.int 0)]=(match goR 0 true [.lt (Aj p s m T kds),.sh d,.sh (.int v),.sh (.tup (zi [pA d s p,pB d s p])),.sh (.int (l)),.sh (.int 0)] (cd_9 p s m (l) T kds (pB d s p) B1 B2) with
   | .ok d Δ1=>Fl.nx (Δ1.set 5 (.sh d))
   | .ex x Δ1=> .ex x Δ1
   | .no=> .no):=by
   unfold Ei k_3;rw[show gsome [1,3,4] [.lt (Aj p s m T kds),.sh d,.sh (.int v),.sh (.tup (zi [pA d s p,pB d s p])),.sh (.int (l)),.sh (.int 0)]= [.lt (Aj p s m T kds),.sh d,.sh (.int v),.sh (.tup (zi [pA d s p,pB d s p])),.sh (.int (l)),.sh (.int 0)] from rfl,k] <;> (generalize goR 0 true _ _=r;cases r <;> rfl)
  rw[if_neg hz];unfold cd_9 at q6
  by_cases hb:pB d s p∈bK B1
  ·rw[if_pos hb]at q6⊢;unfold Ag;rw[q5,q6];rfl
  ·rw[if_neg hb]at q6⊢
   by_cases hl:B1.length<=B2.length
   ·rw[if_pos hl]at q6⊢;rw[Bg ((q5 _).trans q6)];exact fin _ _
   ·rw[if_neg hl]at q6⊢;rw[Bg ((q5 _).trans q6)];exact fin _ _
end
section
variable{kds:List (Ae×D)}{ks:List D}{d:D}{v:Int}
def KOk.has(h:KOk kds ks)(hd:Bo d):Cn kds (Aw d)=true↔d∈ks:=by
 constructor
 ·intro e;unfold Cn at e;obtain⟨w,e⟩:=L8.mp e;have:Aw d∈kds.map (·.1):=D3.mpr ⟨_,bd_3 e,rfl⟩;rw[h.eq]at this;obtain⟨x,hx,e⟩:=D3.mp this
  rwa[<-ad_3 (h.key x hx) hd e]
 ·intro hm;obtain⟨w,e,_⟩:=bi_8 (kds:=kds) (k:=Aw d) (by rw[h.eq];exact X5 hm);unfold Cn;rw[e];rfl
def cw_7(k:Ae)(w:D)(hh:Cn kds k=true):(By kds k w).map (·.1)=kds.map (·.1):=by
 unfold By;rw[bj_0,hh,if_pos rfl,F8];refine Q7 λq _=> ?_;show(if q.1=k then(q.1,w) else q).1=q.1
 split <;> rfl
def dh_1{k:Ae}{w:D}{q:Ae×D}(hq:q∈By kds k w):q∈kds\/q.2=w:=by
 unfold By at hq
 split at hq
 ·obtain⟨y,hy,e⟩:=D3.mp hq
  split at e
  ·subst e;exact .inr rfl
  ·subst e;exact .inl hy
 ·rcases F5.mp hq with h|h
  ·exact .inl h
  ·rw[D1.mp h];exact .inr rfl
def KOk.put(h:KOk kds ks)(hd:Bo d)(hl:ks.length < 24):KOk (By kds (Aw d) (.int v)) (if Cn kds (Aw d)=true then ks else ks ++ [d]):=by
 have hv:∀q∈By kds (Aw d) (.int v),∃n:Int,q.2=.int n:=λq hq=>by
  rcases dh_1 hq with h'|h'
  ·exact h.val q h'
  ·exact⟨v,h'⟩
 cases hh:Cn kds (Aw d) with
 |true=>
  rw[if_pos rfl];exact⟨h.key,h.nd,(cw_7 _ _ hh).trans h.eq,hv,h.len⟩
 |false=>
  rw[if_neg A6];have hn:d∉ks:=λhm=>by rw[(h.has hd).mpr hm]at hh;cases hh
  refine⟨λk hk=> ?_, ?_, ?_,hv,by rw[B8];simp only[B4,J8];omega⟩
  ·rcases F5.mp hk with h'|h'
   ·exact h.key k h'
   ·rw[D1.mp h'];exact hd
  ·refine List.nodup_append.mpr ⟨h.nd,by simp,λa ha b hb e=> ?_⟩;rw[D1.mp hb]at e;subst e;exact hn ha
  ·rw[aw_8 hh,E8,E8,h.eq];rfl
def KOk.drop(h:KOk kds ks):KOk (Dn kds (Aw d)) (ks.filter λx=>decide (Aw x≠Aw d)):=by
 refine⟨λk hk=>h.key k (L4.mp hk).1,h.nd.filter _, ?_,λq hq=>h.val q (L4.mp hq).1,C5 (P4 _ _) h.len⟩;have e:=K4 (List.filter λx=>decide (x≠Aw d)) h.eq;rw[X0,X0]at e;exact e
end
section
variable{p s m:Int}{T:List Int}{kds:List (Ae×D)}{ks:List D}{d:D}{v:Int}
def putS:RR->RR
 | .ex _ t=> .ok (.str "stuck") t
 |r=>r
def bx_2{t:Tn}{r:RR}(e:r_7 0 2 "put" "Living" i_2 (Bw (Aa 1) (Bw (Aa 2) Ff)) [.lt t,.sh d,.sh (.int v),.no]=goR 0 true [.lt t,.sh d,.sh (.int v),.no] r)(hr:(∃c t',r=.ok (.int c) t')\/∃t',r=.ex af_9 t'):n_7 t [d,.int v]=putS r:=by
 unfold n_7 w_6 bc_8;rw[show aa_6 4 t [d,.int v]= [.lt t,.sh d,.sh (.int v),.no] from rfl];have q0:q_8 [.lt t,.sh d,.sh (.int v),.no]=(match goR 0 true [.lt t,.sh d,.sh (.int v),.no] r with
   | .ok d Δ1=>Fl.nx (Δ1.set 3 (.sh d))
   | .ex x Δ1=> .ex x Δ1
   | .no=> .no):=by
  unfold q_8 Ei k_3;rw[show gsome [1,2] [.lt t,.sh d,.sh (.int v),.no]= [.lt t,.sh d,.sh (.int v),.no] from rfl,e] <;> (generalize goR 0 true _ _=r;cases r <;> rfl)
 rcases hr with⟨c,t',rfl⟩|⟨t',rfl⟩
 ·have q1:au_5 q_8 [⟨none, L49,ab_3⟩] [.lt t,.sh d,.sh (.int v),.no]=.nx [.lt t',.sh d,.sh (.int v),.sh (.int c)]:=by
   unfold au_5;rw[q0];rfl
  rw[Bg q1];rfl
 ·have q1:au_5 q_8 [⟨none, L49,ab_3⟩] [.lt t,.sh d,.sh (.int v),.no]=.nx [.lt t',.sh d,.sh (.int v),.sh (.str "stuck")]:=by
   unfold au_5;rw[q0];rfl
  rw[Bg q1];rfl
def dh_2(B1 B2:Bs):(∃(c:Int) (T':List Int),T'.length=T.length/\Cq p s m v T kds d B1 B2=.ok (.int c) (Aj p s m T' (By kds (Aw d) (.int v))))\/Cq p s m v T kds d B1 B2=.ex af_9 (Aj p s m T kds):=by
 unfold Cq
 split
 ·exact .inl ⟨_,_,rfl,rfl⟩
 ·split
  ·exact .inr rfl
  ·split
   ·exact .inl ⟨_,_,s_8 _ _ _ _ _ _,rfl⟩
   ·exact .inl ⟨_,_,s_8 _ _ _ _ _ _,rfl⟩
def bx_3(z:Szs p s m T)(h:KOk kds ks)(hd:Bo d)(v0:0<=v)(v1:v < m):∃B1 B2,Srch (Cm (Dk ks d s p)) (pA d s p) (2 * p).toNat B1/\Srch (Cm (Dk ks d s p)) (pB d s p) (2 * p).toNat B2/\n_7 (Aj p s m T kds) [d,.int v]=putS (Cq p s m v T kds d B1 B2):=by
 obtain⟨B1,B2,s1,s2,e⟩:=dq_8 z h hd v0 v1;refine⟨B1,B2,s1,s2,bx_2 ?_ ?_⟩
 ·have:=ar_4 (n:=2) (p:=p) (s:=s) (m:=m) (T:=T) (kds:=kds) (M:=i_2) (ga:=Bw (Aa 1) (Bw (Aa 2) Ff)) (Δ:=[.sh d,.sh (.int v),.no]) (ds:=[d,.int v]) (mn:= "put") nofun rfl rfl;rw[e]at this;exact this
 ·rcases dh_2 (p:=p) (s:=s) (m:=m) (T:=T) (kds:=kds) (d:=d) (v:=v) B1 B2 with⟨c,T',_,e⟩|e
  ·exact .inl ⟨c,_,e⟩
  ·exact .inr ⟨_,e⟩
def dh_3(ns:List Int)(k:Int)(hk0:0<=k)(hk1:k<=100)(hn:ns.length<=300)(h:KOk kds ks)(m0:2<=m)(m1:m<=1000000001):∃(b:Int) (d:D) (v:Int),l_0 [.lst (ns.map .int),.int 3,.int k,.dic kds,.tup [.int p,.int s,.int m]]=.ok (.sh (.tup [.int b,d,.int v]))/\(b=0\/b=1)/\Bo d/\0<=v/\v < m:=by
 have mx:0 < max 1 ((ns.length:Int) - 3):=by omega
 have r0:=K2 k (show max 1 ((ns.length:Int) - 3)≠0 by omega);have r1:=F6 k mx;obtain⟨c0,er⟩:=dq_3 ns (3 + k % max 1 ((ns.length:Int) - 3)) () ();have ec:=ai_6 ns 0 ⋯ ⋯;have q1:Al 5 [0,1,2] (Bl 2 p_6 #v[0,Af Br (Aa 1) (Af Bz (Aa 2) (An maxD #v[eC (.int 1),Af Fe (An Dr #v[0]) (Aa 1)]))]) (Bb 10 [.lst (ns.map .int),.int 3,.int k,.dic kds,.tup [.int p,.int s,.int m]])=.nx [.sh (.lst (ns.map .int)),.sh (.int 3),.sh (.int k),.sh (.dic kds),.sh (.tup [.int p,.int s,.int m]),.sh (.int c0),.no,.no,.no,.no]:=by
  simp![Ao,s_0,A3,ae_9,cq_7,Cy mx,k_7,er]
 have q2:∃c:Int,Bx [0] (Ak (Af Dd (Af Bz (Bl 2 h_2 #v[0,eC (.int 0)]) (eC (.int 2))) (eC (.int 1)))) (Al 5 [2,5] (Bl 2 g_9 #v[Af Bz (Aa 5) (eC (.int 2147483647)),2])) Bc [.sh (.lst (ns.map .int)),.sh (.int 3),.sh (.int k),.sh (.dic kds),.sh (.tup [.int p,.int s,.int m]),.sh (.int c0),.no,.no,.no,.no]=.nx [.sh (.lst (ns.map .int)),.sh (.int 3),.sh (.int k),.sh (.dic kds),.sh (.tup [.int p,.int s,.int m]),.sh (.int c),.no,.no,.no,.no]:=by
  by_cases hz:Fs ns 0 % 2=1
  ·exact⟨mixZ (c0 % 2147483647) k,by simp![Ao,ec,Cy (show(0:Int) < 2 by decide),k_0,hz,W5,Cy (show(0:Int) < 2147483647 by decide),af_5 _ k () ()]⟩
  ·exact⟨c0,by simp![Ao,ec,Cy (show(0:Int) < 2 by decide),k_0,hz,X7]⟩
 obtain⟨c,q2⟩:=q2;have ix2:Bk (.tup [.int p,.int s,.int m]) (.int 2)=.ok (.sh (.int m)):=rfl;have hm:0 < m:=by omega
 have dm:∀x:Int,Gb (.int x) (.int m)=.ok (.sh (.int (x / m))):=λx=>aa_4 hm ();obtain⟨kd,hkd,ekd⟩:=dq_4 (c / 8 / m);have w0:=K2 c (show(8:Int)≠0 by decide);have w1:=F6 c (show(0:Int) < 8 by decide);obtain⟨b,hb,eb⟩:=cd_3 (ds:=[.int 0,.int 0,.int 0,.int 0,.int 0,.int 0,.int 1,.int 1]) (i:=c % 8) w0 w1;have hb:b=.int 0\/b=.int 1:=by
  simp only[C6,T3,or_false]at hb;rcases hb with h|h|h|h|h|h|h|h <;> simp[h]
 have q6:∃k',Bo k'/\Bx [3,6] (Eb (Ak (Af gtD (Aa 6) (eC (.int 4)))) (Ak (Af bp_8 (Aa 3) ah_0))) (Al 9 [3,4,7] (Af Bk (eKL (Aa 3)) (Af Bz (Af Gb (Aa 7) (Af Bk (Aa 4) (eC (.int 2)))) (An Fo #v[3])))) Bc [.sh (.lst (ns.map .int)),.sh (.int 3),.sh (.int k),.sh (.dic kds),.sh (.tup [.int p,.int s,.int m]),.sh (.int c),.sh (.int (c % 8)),.sh (.int (c / 8)),.sh (.int (c / 8 % m)),.sh kd]=.nx [.sh (.lst (ns.map .int)),.sh (.int 3),.sh (.int k),.sh (.dic kds),.sh (.tup [.int p,.int s,.int m]),.sh (.int c),.sh (.int (c % 8)),.sh (.int (c / 8)),.sh (.int (c / 8 % m)),.sh k']:=by
  have ht:Eb (Ak (Af gtD (Aa 6) (eC (.int 4)))) (Ak (Af bp_8 (Aa 3) ah_0)) [some (.lst (ns.map .int)),some (.int 3),some (.int k),some (.dic kds),some (.tup [.int p,.int s,.int m]),some (.int c),some (.int (c % 8)),some (.int (c / 8)),some (.int (c / 8 % m)),some kd]=.ok (decide (4 < c % 8) && !kds.isEmpty):=by
   have h1:bp_8 (.dic kds) (.dic [])=.ok (.sh (.bl (!kds.isEmpty))):=rfl
   simp![Eb,Ak,Af,Aa,eC,ah_0,Ao,h1,cb_1]
   cases decide (4 < c % 8) <;> rfl
  by_cases hc:(decide (4 < c % 8) && !kds.isEmpty)=true
  ·have hne:0 < kds.length:=by
    cases kds with
    |nil=>simp at hc
    |cons a b=>simp
   have zk:=h.length;obtain⟨k',hm',ek⟩:=cd_3 (ds:=ks) (i:=c / 8 / m % (kds.length:Int)) (K2 _ ()) (by have:=F6 (c / 8 / m) (show(0:Int) < (kds.length:Int) by omega);omega);refine⟨k',h.key k' hm', ?_⟩;unfold Bx;rw[show Ba [.sh (.lst (ns.map .int)),.sh (.int 3),.sh (.int k),.sh (.dic kds),.sh (.tup [.int p,.int s,.int m]),.sh (.int c),.sh (.int (c % 8)),.sh (.int (c / 8)),.sh (.int (c / 8 % m)),.sh kd]= [some (.lst (ns.map .int)),some (.int 3),some (.int k),some (.dic kds),some (.tup [.int p,.int s,.int m]),some (.int c),some (.int (c % 8)),some (.int (c / 8)),some (.int (c / 8 % m)),some kd] from rfl,ht,hc];simp only[if_true];have hkl:eKL (Aa 3) [some (.lst (ns.map .int)),some (.int 3),some (.int k),some (.dic kds),some (.tup [.int p,.int s,.int m]),some (.int c),some (.int (c % 8)),some (.int (c / 8)),some (.int (c / 8 % m)),some kd]=.ok (.ow (.lst ks)):=by
    show R.ok (W.ow (.lst (kds.map λp=>kD p.1)))=_;rw[h.ds]
   simp![Ao,Sl.pub,hkl,Fo,ix2,dm,Cy (show(0:Int) < (kds.length:Int) by omega),r_3 ek]
  ·refine⟨kd,hkd, ?_⟩;unfold Bx;rw[show Ba [.sh (.lst (ns.map .int)),.sh (.int 3),.sh (.int k),.sh (.dic kds),.sh (.tup [.int p,.int s,.int m]),.sh (.int c),.sh (.int (c % 8)),.sh (.int (c / 8)),.sh (.int (c / 8 % m)),.sh kd]= [some (.lst (ns.map .int)),some (.int 3),some (.int k),some (.dic kds),some (.tup [.int p,.int s,.int m]),some (.int c),some (.int (c % 8)),some (.int (c / 8)),some (.int (c / 8 % m)),some kd] from rfl,ht];simp only[hc,N6,T6];rfl
 obtain⟨k',hk',q6⟩:=q6;have q3:Al 6 [5] (Af Bz (Aa 5) (eC (.int 8))) [.sh (.lst (ns.map .int)),.sh (.int 3),.sh (.int k),.sh (.dic kds),.sh (.tup [.int p,.int s,.int m]),.sh (.int c),.no,.no,.no,.no]=.nx [.sh (.lst (ns.map .int)),.sh (.int 3),.sh (.int k),.sh (.dic kds),.sh (.tup [.int p,.int s,.int m]),.sh (.int c),.sh (.int (c % 8)),.no,.no,.no]:=by
  simp![Ao,Cy (show(0:Int) < 8 by decide)]
 have q4:Al 7 [5] (Af Gb (Aa 5) (eC (.int 8))) [.sh (.lst (ns.map .int)),.sh (.int 3),.sh (.int k),.sh (.dic kds),.sh (.tup [.int p,.int s,.int m]),.sh (.int c),.sh (.int (c % 8)),.no,.no,.no]=.nx [.sh (.lst (ns.map .int)),.sh (.int 3),.sh (.int k),.sh (.dic kds),.sh (.tup [.int p,.int s,.int m]),.sh (.int c),.sh (.int (c % 8)),.sh (.int (c / 8)),.no,.no]:=by
  simp![Ao,aa_4 (i:=c) (show(0:Int) < 8 by decide) ⋯]
 have q5:Al 8 [4,7] (Af Bz (Aa 7) (Af Bk (Aa 4) (eC (.int 2)))) [.sh (.lst (ns.map .int)),.sh (.int 3),.sh (.int k),.sh (.dic kds),.sh (.tup [.int p,.int s,.int m]),.sh (.int c),.sh (.int (c % 8)),.sh (.int (c / 8)),.no,.no]=.nx [.sh (.lst (ns.map .int)),.sh (.int 3),.sh (.int k),.sh (.dic kds),.sh (.tup [.int p,.int s,.int m]),.sh (.int c),.sh (.int (c % 8)),.sh (.int (c / 8)),.sh (.int (c / 8 % m)),.no]:=by
  simp![Ao,ix2,Cy hm]
 have q5':Al 9 [4,7] (Bl 1 l_3 #v[Af Gb (Aa 7) (Af Bk (Aa 4) (eC (.int 2)))]) [.sh (.lst (ns.map .int)),.sh (.int 3),.sh (.int k),.sh (.dic kds),.sh (.tup [.int p,.int s,.int m]),.sh (.int c),.sh (.int (c % 8)),.sh (.int (c / 8)),.sh (.int (c / 8 % m)),.no]=.nx [.sh (.lst (ns.map .int)),.sh (.int 3),.sh (.int k),.sh (.dic kds),.sh (.tup [.int p,.int s,.int m]),.sh (.int c),.sh (.int (c % 8)),.sh (.int (c / 8)),.sh (.int (c / 8 % m)),.sh kd]:=by
  simp![Ao,ix2,dm,ekd]
 have v0:=K2 (c / 8) (show m≠0 by omega);have v1:=F6 (c / 8) hm;have fin:∀bi:Int,b=.int bi->l_0 [.lst (ns.map .int),.int 3,.int k,.dic kds,.tup [.int p,.int s,.int m]]=.ok (.sh (.tup [.int bi,k',.int (c / 8 % m)])):=λbi e=>by
  subst e;refine p_8 ?_;unfold aw_0;rw[Bg q1,Bg q2,Bg q3,Bg q4,Bg q5,Bg q5',Bg q6]
  simp![Ao,r_3 eb]
 rcases hb with hb|hb
 ·exact⟨0,k',_,fin 0 hb,.inl rfl,hk',v0,v1⟩
 ·exact⟨1,k',_,fin 1 hb,.inr rfl,hk',v0,v1⟩
end
def aj_0{α:Type}(l:List (Ae×α))(k k':Ae)(v:α):Bh (By l k v) k'=if k'=k then some v else Bh l k':=by
 cases hh:Cn l k with
 |false=>
  rw[aw_8 hh,bq_6,Eg,ab_7]
  by_cases e:k'=k
  ·subst e;rw[if_pos rfl,if_pos rfl];unfold Cn at hh;cases h:Bh l k' with
   |none=>rfl
   |some x=>rw[h]at hh;cases hh
  ·rw[if_neg e,if_neg λz=>e z.symm];cases Bh l k' <;> rfl
 |true=>
  have e0:By l k v=l.map λkv=>if kv.1=k then(kv.1,v) else kv:=by
   unfold By;rw[bj_0,hh,if_pos rfl]
  rw[e0];clear e0;have gen:∀l:List (Ae×α),Bh (l.map λkv=>if kv.1=k then(kv.1,v) else kv) k'=if k'=k then(Bh l k).map (λ_=>v) else Bh l k':=λl=>by
   induction l with
   |nil=>
    rw[N0,ab_7,ab_7]
    split <;> rfl
   |cons q l ih=>
    obtain⟨x,u⟩:=q;rw[A8]
    by_cases hx:x=k
    ·rw[if_pos hx,Eg,Eg,Eg,if_pos hx,ih]
     by_cases e:k'=k
     ·rw[if_pos e,if_pos (hx.trans e.symm),if_pos e];rfl
     ·have nx:¬x=k':=λz=>e (z.symm.trans hx);simp only[nx,e,T6]
    ·rw[if_neg hx,Eg,Eg,Eg,if_neg hx,ih]
     by_cases e:k'=k
     ·have nx:¬x=k':=λz=>hx (z.trans e);simp only[nx,e,if_true,T6,hx]
     ·simp only[e,T6]
  rw[gen];unfold Cn at hh;cases h:Bh l k with
  |none=>rw[h]at hh;cases hh
  |some x=>rfl
theorem bd_5{α:Type}(k k':Ae)(h:k'≠k):∀l:List (Ae×α),Bh (Dn l k) k'=Bh l k'
 | []=>rfl
 |(x,u)::l=>by
  have ih:=bd_5 k k' h l;unfold Dn at ih⊢;rw[R0]
  by_cases hx:x=k
  ·rw[if_neg (by simp[hx]),ih,Eg,if_neg λz=>h (z.symm.trans hx)]
  ·rw[if_pos (by simp[hx]),Eg,Eg,ih]
theorem ac_0{α:Type}(k:Ae):∀l:List (Ae×α),Bh (Dn l k) k=none
 | []=>rfl
 |(x,u)::l=>by
  have ih:=ac_0 k l;unfold Dn at ih⊢;rw[R0]
  by_cases hx:x=k
  ·rw[if_neg (by simp[hx]),ih]
  ·rw[if_pos (by simp[hx]),Eg,if_neg hx,ih]
section
variable{p s m:Int}{T:List Int}{kds:List (Ae×D)}{ks:List D}{d:D}{v:Int}
structure Told(p s m:Int)(T:List Int)(kds:List (Ae×D)):Prop where
 rng:∀t∈T,0<=t/\t < m
 val:∀d n,Bo d->Bh kds (Aw d)=some (.int n)->o_7 T [pA d s p,pB d s p] % m=n
def ar_7{i:Nat}(h:i < T.length):T[i]? =some (Ax T i):=by
 unfold Ax;rw[N2,B3 h];rfl
def p_7(S:List Nat)(l1 l2:Int){i:Nat}(h:i < T.length):Ax (Dx T S p m l1 l2) i=if i∈S then(Ax T i + if(i:Int) < p then l1 else l2) % m else Ax T i:=by
 have e:=am_8 T S p m l1 l2 i;rw[ar_7 h]at e;unfold Ax at e⊢;rw[N2,e];rfl
def bd_6(S:List Nat)(l1 l2:Int)(hm:0 < m)(h:∀t∈T,0<=t/\t < m):∀t∈Dx T S p m l1 l2,0<=t/\t < m:=λt ht=>by
 obtain⟨i,hi⟩:=List.mem_iff_getElem?.mp ht;rw[am_8]at hi;obtain⟨n,hn,e⟩:=F9.mp hi;subst e
 split
 ·exact⟨K2 _ (),F6 _ hm⟩
 ·exact h n (K0 hn)
def q_3(a b:Nat):o_7 T [a,b]=Ax T a + Ax T b:=by
 unfold o_7;simp
def dh_4{E:List Ed}{q:Nat}{x:D×Nat}(h:x∈Cm E q):(x.1,q)∈Cm E x.2:=by
 obtain⟨e,he,hx⟩:=ar_6 h;unfold Cm;refine T4.mpr ⟨e,he,F5.mpr ?_⟩;rcases hx with⟨h1,rfl⟩|⟨h1,rfl⟩
 ·right;rw[if_pos rfl];exact D1.mpr (by rw[h1])
 ·left;rw[if_pos rfl];exact D1.mpr (by rw[h1])
def ce_0{x:D}(hx:x∈ks)(hd:Bo d)(h:KOk kds ks)(hn:x≠d):(x,pB x s p)∈Cm (Dk ks d s p) (pA x s p)/\(x,pA x s p)∈Cm (Dk ks d s p) (pB x s p):=by
 have he:(x,pA x s p,pB x s p)∈Dk ks d s p:=by
  unfold Dk;refine D3.mpr ⟨x,L4.mpr ⟨hx, ?_⟩,rfl⟩;have:Aw x≠Aw d:=λz=>hn (ad_3 (h.key x hx) hd z);simp[this]
 unfold Cm;refine⟨T4.mpr ⟨_,he,F5.mpr (.inl ?_)⟩,T4.mpr ⟨_,he,F5.mpr (.inr ?_)⟩⟩
 ·rw[if_pos rfl];exact D1.mpr rfl
 ·rw[if_pos rfl];exact D1.mpr rfl
def apart{N:Nat->Nb}(sym:∀q,∀x∈N q,(x.1,q)∈N x.2){a b M:Nat}{B1 B2:Bs}(s1:Srch N a M B1)(s2:Srch N b M B2)(hb:b∉bK B1):∀q∈bK B2,q∉bK B1:=
 s2.g.all (λq=>q∉bK B1) hb λq hq x hx h=>hq (s1.cl _ h _ (sym q x hx))
def bq_9(z:Szs p s m T)(S:List Nat)(l:Int)(x:D)(hab:pA x s p∈S↔pB x s p∈S):o_7 (Dx T S p m l (-l)) [pA x s p,pB x s p] % m=o_7 T [pA x s p,pB x s p] % m:=by
 have a:=z_4 x s z.p0;have b:=z_5 x s z.p0;have tl:=z.tl;rw[q_3,q_3,p_7 S _ _ (),p_7 S _ _ ()]
 by_cases h:pA x s p∈S
 ·rw[if_pos h,if_pos (hab.mp h),if_pos a,if_neg (),<-Int.add_emod]
  congr 1
  omega
 ·rw[if_neg h,if_neg λz=>h (hab.mpr z)]
def cw_8(z:Szs p s m T)(h:KOk kds ks)(hd:Bo d)(v0:0<=v)(v1:v < m)(t:Told p s m T kds){B1 B2:Bs}(s1:Srch (Cm (Dk ks d s p)) (pA d s p) (2 * p).toNat B1)(s2:Srch (Cm (Dk ks d s p)) (pB d s p) (2 * p).toNat B2):
  (∃(c:Int) (T':List Int),T'.length=T.length/\Told p s m T' (By kds (Aw d) (.int v))/\Cq p s m v T kds d B1 B2=.ok (.int c) (Aj p s m T' (By kds (Aw d) (.int v))))\/Cq p s m v T kds d B1 B2=.ex af_9 (Aj p s m T kds):=by
 have hm:0 < m:=by have:=z.m0;omega
 have a:=z_4 d s z.p0;have b:=z_5 d s z.p0;have tl:=z.tl;have sv:v % m=v:=O6 v0 v1;have oth:∀T',(∀t∈T',0<=t/\t < m)->(∀x∈ks,x≠d->o_7 T' [pA x s p,pB x s p] % m=o_7 T [pA x s p,pB x s p] % m)->o_7 T' [pA d s p,pB d s p] % m=v->Told p s m T' (By kds (Aw d) (.int v)):=λT' hr hs hv=>by
  refine⟨hr,λx n hx e=> ?_⟩;rw[aj_0]at e
  by_cases ex:x=d
  ·subst ex;rw[if_pos rfl]at e;cases e;exact hv
  ·have ne:Aw x≠Aw d:=λq=>ex (ad_3 hx hd q);rw[if_neg ne]at e;have mem:x∈ks:=(h.has hx).mp (by unfold Cn;rw[e];rfl);rw[hs x mem ex];exact t.val x n hx e
 unfold Cq;generalize hl:Du T d s p m v=l;unfold Du at hl
 split
 ·rename_i h0;refine .inl ⟨_,_,rfl,oth T t.rng (λ_ _ _=>rfl) ?_,rfl⟩;omega
 ·split
  ·exact .inr rfl
  ·rename_i hb;have em:=S4 (o_7 T [pA d s p,pB d s p]) m
   split
   ·refine .inl ⟨_,_,s_8 _ _ _ _ _ _,oth _ (bd_6 _ _ _ hm t.rng) (λx hx hn=> ?_) ?_,rfl⟩
    ·have e:=ce_0 (s:=s) (p:=p) hx hd h hn;exact bq_9 z _ l x ⟨λq=>s1.cl _ q _ e.1,λq=>s1.cl _ q _ e.2⟩
    ·rw[q_3,p_7 _ _ _ (),p_7 _ _ _ (),if_pos s1.g.start,if_neg hb,if_pos a,Int.emod_add_emod];rw[q_3]at hl em;rw[show Ax T (pA d s p) + l + Ax T (pB d s p)=v + m * ((Ax T (pA d s p) + Ax T (pB d s p)) / m) by omega,L1,sv]
   ·have ap:=apart (λq x hx=>dh_4 hx) s1 s2 hb;have na:pA d s p∉bK B2:=λq=>ap _ q s1.g.start;refine .inl ⟨_,_,s_8 _ _ _ _ _ _,oth _ (bd_6 _ _ _ hm t.rng) (λx hx hn=> ?_) ?_,rfl⟩
    ·have e:=ce_0 (s:=s) (p:=p) hx hd h hn;have:=bq_9 z (bK B2) (-l) x ⟨λq=>s2.cl _ q _ e.1,λq=>s2.cl _ q _ e.2⟩
     rwa[Int.neg_neg]at this
    ·rw[q_3,p_7 _ _ _ (),p_7 _ _ _ (),if_neg na,if_pos s2.g.start,if_neg (),Int.add_emod_emod];rw[q_3]at hl em;rw[show Ax T (pA d s p) + (Ax T (pB d s p) + l)=v + m * ((Ax T (pA d s p) + Ax T (pB d s p)) / m) by omega,L1,sv]
def ck_3(t:Told p s m T kds):Told p s m T (Dn kds (Aw d)):=⟨t.rng,λx n hx e=>by
 by_cases ex:Aw x=Aw d
 ·rw[ex,ac_0]at e;cases e
 ·rw[bd_5 _ _ ex]at e;exact t.val x n hx e⟩
end
def bj_1{d:D}(h:Bo d):n_3 [d]=.ok (.sh (.int (Cw d))):=by
 have m2:=λj:Int=>k_1 (m_6 (j:=j) (show(-18446744073709551616:Int) < 2 by decide) ⋯);rcases h with⟨n,rfl,h0,h1⟩|⟨l,rfl,hl,hc⟩
 ·simp![n_3,aa_9,Ao,m2,Cw]
 ·obtain⟨Δ',e,a2,rfl⟩:=s_6 (gV 2) v_9 (λk Δ=>∃a2,Δ= [.sh (.str (Bt l)),.sh (.int (Eo (l.take k))),a2]) (ds:=v_0 (Bt l)) (Δ:=[.sh (.str (Bt l)),.sh (.int 0),.no]) ⟨.no,rfl⟩ (λk d Δ hk hI=>by
   obtain⟨a2,rfl⟩:=hI;rw[q_9,A9]at hk;cases q:l[k]? with
   |none=>rw[q]at hk;cases hk
   |some c=>
    rw[q]at hk;cases hk;refine⟨_,rfl,[.sh (.str (Bt l)),.sh (.int (Eo (l.take (k + 1)))),.sh (.str ⟨#[c]⟩)],.inl ?_,_,rfl⟩;rw[ao_6 l k c q,show 40 * Eo (l.take k) + (sgI c:Int) + 1=40 * Eo (l.take k) + 1 + (sgI c:Int) by omega]
    simp![v_9,Ao,k_1 (m_6 (show(-18446744073709551616:Int) < 40 by decide) ⋯),N5,cv_2 (hc c (K0 q)),k_7])
  rw[q_9,A3,S9]at e
  simp![n_3,aa_9,Ao,Fu,q_9,e,m2,k_7,Cw,m_1]
section
variable{p s m:Int}{T:List Int}{kds:List (Ae×D)}{ks:List D}{d:D}
abbrev Cf(p s m:Int):D:=.tup [.int p,.int s,.int m]
def az_2(z:Szs p s m T)(h:Bo d):k_4 [d,Cf p s m]=.ok (.sh (.tup (zi [pA d s p,pB d s p]))):=by
 have p0:=z.p0;have s0:=z.s0;have s1:=z.s1;have m1:=k_1 (m_6 (i:=4) (j:=s) ⋯ ⋯);have e1:=(aw_5 (Cw d) (4 * s) p () () p0).2;have e2:=(aw_5 (Cw d) (4 * s + 1) p () () p0).2;have a0:=s_7 (Cw d) (4 * s + 0) p0;have b0:=s_7 (Cw d) (4 * s + 1) p0;have ea:u_1 (Cw d) (4 * s) p=((pA d s p:Nat):Int):=by unfold pA;rw[Int.add_zero]at a0⊢;omega
 have eb:p + u_1 (Cw d) (4 * s + 1) p=((pB d s p:Nat):Int):=by unfold pB;omega
 rw[ea]at e1
 simp![k_4,ai_1,Ao,Cf,sUnp,bc_0,gNs,bj_1 h,m1,k_7,e1,e2,eb,zi]
end
theorem ax_0{α:Type}:∀{l:List (Ae×α)} {k:Ae} {v:α},(l.map (·.1)).Nodup->(k,v)∈l->Bh l k=some v
 | [],_,_,_,h=>by cases h
 |(x,u)::l,k,v,nd,h=>by
  rw[A8,N4]at nd;rw[Eg];rcases C6.mp h with e|e
  ·cases e;rw[if_pos rfl]
  ·have:x≠k:=λz=>nd.1 (D3.mpr ⟨_,e,z.symm⟩);rw[if_neg this];exact ax_0 nd.2 e
section
variable{p s m:Int}{T:List Int}{kds:List (Ae×D)}{ks:List D}{d x:D}
def KOk.fst(h:KOk kds ks):(kds.map (·.1)).Nodup:=by
 rw[h.eq];exact am_6 (λx hx y hy e=>ad_3 (h.key x hx) (h.key y hy) e) h.nd
def KOk.row(h:KOk kds ks){q:Ae×D}(hq:q∈kds):∃d n,d∈ks/\Bo d/\kD q.1=d/\q.1=Aw d/\q.2=.int n/\Bh kds (Aw d)=some (.int n):=by
 have hm:q.1∈ks.map Aw:=by rw[<-h.eq];exact D3.mpr ⟨q,hq,rfl⟩
 obtain⟨d,hd,e⟩:=D3.mp hm;obtain⟨n,en⟩:=h.val q hq;refine⟨d,n,hd,h.key d hd,by rw[<-e,bw_6 (h.key d hd)],e.symm,en, ?_⟩;rw[e,<-en];exact ax_0 h.fst hq
end
section
variable{p s m:Int}{T:List Int}{kds:List (Ae×D)}{ks:List D}{d:D}{v:Int}
theorem ax_1(js:List Nat):∀(Δ:SE) (n:Nat),(∀j∈js,j < n)->v_1 js n Δ=At Δ
 | [],_,_=>rfl
 |x::Δ,n,h=>by
  have hc:js.contains n=false:=by
   cases q:js.contains n with
   |false=>rfl
   |true=>exact absurd (h n (S3.mp q)) (D7 _)
  simp only[v_1,hc,N6,T6,ax_1 js Δ (n + 1) λj hj=>S5 (h j hj)];rfl
def bd_7:(Tn.of (.dic kds)).lends=true:=by
 show Tn.lends (.dic (kds.map λp=>(p.1,.sh p.2)))=true;simp only[Tn.lends,am_3]
def cw_9(c:Int):Dd (.int c) (.str "stuck")=.ok (.sh (.bl false)):=by
 show(if Fj (.int c) (.str "stuck")=true then R.ok (W.sh (.bl (Fq (.int c) (.str "stuck")))) else .no)=_;have h1:PyData.canLay0 (Db (.str "stuck"))=true:=by decide +kernel
 have h2:PyData.canLay0 (Db (.int c))=true:=rfl;have h3:PyData.depth (Db (.int c))=0:=rfl;rw[if_pos (by unfold Fj;rw[h1,h2,h3];rfl)];rfl
end
def Be(m:Nat):Nat->List (List Int)
 |0=> [[]]
 |n + 1=>(Be m n).flatMap λt=>(List.range m).map λ(k:Nat)=>t ++ [(k:Int)]
theorem aj_1(m:Nat):∀n,(Be m n).length=m ^ n
 |0=>rfl
 |n + 1=>by
  show((Be m n).flatMap λt=>(List.range m).map λ(k:Nat)=>t ++ [(k:Int)]).length=_;rw[List.length_flatMap,Nat.pow_succ,<-aj_1 m n];generalize Be m n=l
  induction l with
  |nil=>rw[J8,Nat.zero_mul];rfl
  |cons t l ih=>rw[A8,List.sum_cons,ih,A3,O4,B4,Nat.add_mul,Nat.one_mul,Nat.add_comm]
theorem tabs_mem{m:Nat}:∀{n:Nat} {U:List Int},U∈Be m n↔U.length=n/\∀x∈U,0<=x/\x < (m:Int)
 |0,U=>by
  show U∈ [[]]↔_;rw[D1];exact⟨λe=>by subst e;exact⟨rfl,λ_ h=>by cases h⟩,λh=>ZA5.mp h.1⟩
 |n + 1,U=>by
  show U∈(Be m n).flatMap (λt=>(List.range m).map λ(k:Nat)=>t ++ [(k:Int)])↔_;rw[T4];constructor
  ·rintro ⟨t,ht,h⟩
   obtain⟨k,hk,rfl⟩:=D3.mp h;obtain⟨h1,h2⟩:=(tabs_mem (n:=n)).mp ht;have hk:=K9.mp hk;refine⟨by rw[B8,h1];rfl,λx hx=> ?_⟩;rcases F5.mp hx with h|h
   ·exact h2 x h
   ·rw[D1.mp h];omega
  ·rintro ⟨h1,h2⟩
   have hne:U≠ []:=λe=>by rw[e]at h1;cases h1
   have hl:=h2 _ (List.getLast_mem hne);refine⟨U.dropLast,(tabs_mem (n:=n)).mpr ⟨by rw[List.length_dropLast,h1];rfl,λx hx=>h2 x ((List.dropLast_subset _ hx))⟩,D3.mpr ⟨(U.getLast hne).toNat,K9.mpr (), ?_⟩⟩;rw[Int.toNat_of_nonneg hl.1,W9]
abbrev Bi(l:List (List Int)):D:=.lst (l.map λt=> .lst (t.map .int))
def ck_4{m:Nat}(t:List Int)(hm:m<=9)(ht:t.length<=9){a0 a2 a3 a4:Option D}:Ch 1 (Bv Cr #v[1]) (gC 6) (λ_=> .ok true) e_2 [a0,some (.int (m:Int)),a2,a3,a4,some (.lst (t.map .int))]=.ok (.ow (Bi ((List.range m).map λ(k:Nat)=>t ++ [(k:Int)]))):=by
 have hr:=ah_3 (j:=(m:Int)) () ();have hc:=l_2 (fg:=gC 6) (p:=λ_=> .ok true) (f:=e_2) (δ:=[a0,some (.int (m:Int)),a2,a3,a4,some (.lst (t.map .int)),none]) (λ_=>true) (λd=> .lst (t.map .int ++ [d])) (Ga 0 m) λd hd=>by
  obtain⟨k,hk,rfl⟩:=D3.mp hd;refine⟨[a0,some (.int (m:Int)),a2,a3,a4,some (.lst (t.map .int)),some (.int (0 + (k:Int)))],rfl,rfl,λ_=>⟨.ow (.lst (t.map .int ++ [.int (0 + (k:Int))])), ?_,rfl⟩⟩;have:(t.map D.int).length<=16777215:=by rw[A3];omega
  simp![e_2,Ao,Br,this,if_true]
 rw[Q6.mpr λ_ _=>rfl]at hc;have e:=o_0 (m:=1) (fi:=Bv Cr #v[1]) (fg:=gC 6) (p:=λ_=> .ok true) (f:=e_2) (δ:=[a0,some (.int (m:Int)),a2,a3,a4,some (.lst (t.map .int))]) (ds:=Ga 0 m) (by simp![Ao,hr,Z1]) (by rw[ac_4];omega) hc;rw[e]
 congr 3
 show _=((List.range m).map λ(k:Nat)=>t ++ [(k:Int)]).map λt=>D.lst (t.map .int);unfold Ga;rw[F8,F8];refine Q7 λk _=> ?_;simp
def az_3{n m:Nat}(hm:m<=9)(hn:n<=6):j_1 [.int (n:Int),.int (m:Int)]=.ok (.ow (Bi (Be m n)))\/j_1 [.int (n:Int),.int (m:Int)]=.ok (.sh (Bi (Be m n))):=by
 have pw:∀k,k<=6->m ^ k<=531441:=λk hk=>C5 (Nat.pow_le_pow_left hm k) (C5 (Nat.pow_le_pow_right ⋯ hk) ⋯);have tl:∀k,k<=6->(Bi (Be m k))=Bi (Be m k)/\((Be m k).map λt=>D.lst (t.map .int)).length<=531441:=λk hk=>⟨rfl,by rw[A3,aj_1];exact pw k hk⟩;have inner:∀(l r:List (List Int)) (a5:Sl) (f3 F2:Sl),(∀t∈l,t.length<=9)->r.length + l.length * m<=16777216->∀s4:Sl,(s4=.ow (Bi r)\/s4=.sh (Bi r))->∃s4' b5,(s4'=.ow (Bi (r ++ l.flatMap λt=>(List.range m).map λ(k:Nat)=>t ++ [(k:Int)]))\/s4'=.sh (Bi (r ++ l.flatMap λt=>(List.range m).map λ(k:Nat)=>t ++ [(k:Int)])))/\De (gV 5) d_1 (l.map λt=> .lst (t.map .int)) [.sh (.int (n:Int)),.sh (.int (m:Int)),F2,f3,s4,a5]=.nx [.sh (.int (n:Int)),.sh (.int (m:Int)),F2,f3,s4',b5]:=by
  intro l
  induction l with
  |nil=>intro r a5 f3 F2 _ _ s4 h4;exact⟨s4,a5,by simpa using h4,rfl⟩
  |cons t l ih=>
   intro r a5 f3 F2 hl hr s4 h4;have ht:=hl t D5;rw[B4,Nat.add_mul,Nat.one_mul]at hr;have zk:(r.map λt=>D.lst (t.map .int)).length + (((List.range m).map λ(k:Nat)=>t ++ [(k:Int)]).map λt=>D.lst (t.map .int)).length<=16777216:=by
    rw[A3,A3,A3,O4];omega
   have one:d_1 [.sh (.int (n:Int)),.sh (.int (m:Int)),F2,f3,s4,.sh (.lst (t.map .int))]=.nx [.sh (.int (n:Int)),.sh (.int (m:Int)),F2,f3,.ow (Bi (r ++ (List.range m).map λ(k:Nat)=>t ++ [(k:Int)])),.sh (.lst (t.map .int))]:=by
    have mc:=λa2 a3 a4=>ck_4 (m:=m) (a0:=some (.int (n:Int))) (a2:=a2) (a3:=a3) (a4:=a4) t hm ht;have ad:Br (Bi r) (Bi ((List.range m).map λ(k:Nat)=>t ++ [(k:Int)]))=.ok (.ow (Bi (r ++ (List.range m).map λ(k:Nat)=>t ++ [(k:Int)]))):=by
     show(if(r.map λt=>D.lst (t.map .int)).length + (((List.range m).map λ(k:Nat)=>t ++ [(k:Int)]).map λt=>D.lst (t.map .int)).length<=16777216 then R.ok (W.ow (.lst ((r.map λt=>D.lst (t.map .int)) ++ ((List.range m).map λ(k:Nat)=>t ++ [(k:Int)]).map λt=>D.lst (t.map .int)))) else .no)=_;rw[if_pos zk,<-E8]
    have fin:∀a2 a3,Af Br (Aa 4) (Ch 1 (Bv Cr #v[1]) (gC 6) (λ_=> .ok true) e_2) [some (.int (n:Int)),some (.int (m:Int)),a2,a3,some (Bi r),some (.lst (t.map .int))]=.ok (.ow (Bi (r ++ (List.range m).map λ(k:Nat)=>t ++ [(k:Int)]))):=λa2 a3=>by
     unfold Af;rw[show Aa 4 [some (.int (n:Int)),some (.int (m:Int)),a2,a3,some (Bi r),some (.lst (t.map .int))]=.ok (.sh (Bi r)) from rfl,R.bind_ok,mc,R.bind_ok];exact ad
    have nul:∀a2 a3,Af Br (Aa 4) (Ch 1 (Bv Cr #v[1]) (gC 6) (λ_=> .ok true) e_2) [some (.int (n:Int)),some (.int (m:Int)),a2,a3,none,some (.lst (t.map .int))]=.no:=λa2 a3=>rfl;unfold d_1 Al;rcases h4 with rfl|rfl
    ·rw[show At [.sh (.int (n:Int)),.sh (.int (m:Int)),F2,f3,.ow (Bi r),.sh (.lst (t.map .int))]= [some (.int (n:Int)),some (.int (m:Int)),F2.pub,f3.pub,none,some (.lst (t.map .int))] from rfl,nul,
      show Ba [.sh (.int (n:Int)),.sh (.int (m:Int)),F2,f3,.ow (Bi r),.sh (.lst (t.map .int))]= [some (.int (n:Int)),some (.int (m:Int)),F2.any,f3.any,some (Bi r),some (.lst (t.map .int))] from rfl,fin]
     refine(if_neg (show¬(Bf (W.ow (Bi (r ++ (List.range m).map λ(k:Nat)=>t ++ [(k:Int)]))).d=true) from A6)).trans ?_;rw[show gsome [1,4,5] [.sh (.int (n:Int)),.sh (.int (m:Int)),F2,f3,.ow (Bi r),.sh (.lst (t.map .int))]= [.sh (.int (n:Int)),.sh (.int (m:Int)),F2,f3,.sh (Bi r),.sh (.lst (t.map .int))] from rfl,
      show At [.sh (.int (n:Int)),.sh (.int (m:Int)),F2,f3,.sh (Bi r),.sh (.lst (t.map .int))]= [some (.int (n:Int)),some (.int (m:Int)),F2.pub,f3.pub,some (Bi r),some (.lst (t.map .int))] from rfl,fin]
     rfl
    ·rw[show At [.sh (.int (n:Int)),.sh (.int (m:Int)),F2,f3,.sh (Bi r),.sh (.lst (t.map .int))]= [some (.int (n:Int)),some (.int (m:Int)),F2.pub,f3.pub,some (Bi r),some (.lst (t.map .int))] from rfl,fin];rfl
   obtain⟨s4',b5,e4,e⟩:=ih (r ++ (List.range m).map λ(k:Nat)=>t ++ [(k:Int)]) (.sh (.lst (t.map .int))) f3 F2 (λx hx=>hl x (C7 _ hx)) (by rw[B8,A3,O4];omega) _ (.inl rfl);rw[N9]at e4;refine⟨s4',b5,by rw[List.flatMap_cons];exact e4,Eq.trans ?_ e⟩;show(match d_1 [.sh (.int (n:Int)),.sh (.int (m:Int)),F2,f3,s4,.sh (.lst (t.map .int))] with
    | .nx Δ2=>De (gV 5) d_1 (l.map λt:List Int=> .lst (t.map .int)) Δ2
    | .ct Δ2=>De (gV 5) d_1 (l.map λt:List Int=> .lst (t.map .int)) Δ2
    | .bk Δ2=> .nx Δ2
    |r=>r)=_
   rw[one]
 let I:Nat->SE->Prop:=λk Δ=>∃s2 s3 s4 s5:Sl,Δ= [.sh (.int (n:Int)),.sh (.int (m:Int)),s2,s3,s4,s5]/\(s2=.ow (Bi (Be m k))\/s2=.sh (Bi (Be m k)))
 obtain⟨Δ',e,s2,s3,s4,s5,rfl,h2⟩:=s_6 (gV 3) h_3 I (ds:=Ga 0 n) (Δ:=[.sh (.int (n:Int)),.sh (.int (m:Int)),.ow (Bi [[]]),.no,.no,.no]) ⟨_,_,_,_,rfl,.inl rfl⟩ (λk d Δ hd ⟨s2,s3,s4,s5,e,h2⟩=>by
  subst e;obtain⟨hk,rfl⟩:=ak_5 hd;refine⟨_,rfl, ?_⟩;have bl:(Be m k).length * m<=16777216:=by rw[aj_1,<-Nat.pow_succ];exact C5 (pw (k + 1) ()) ⋯
  obtain⟨s4',b5,e4,el⟩:=inner (Be m k) [] s5 (.sh (.int (0 + (k:Int)))) (.sh (Bi (Be m k))) (λt ht=>by rw[((tabs_mem (n:=k)).mp ht).1];omega) (by rw[J8,Q3];exact bl) (.ow (.lst [])) (.inl rfl);rw[P8]at e4;have q1:Al 4 [] (Cd Ac) [.sh (.int (n:Int)),.sh (.int (m:Int)),s2,.sh (.int (0 + (k:Int))),s4,s5]=.nx [.sh (.int (n:Int)),.sh (.int (m:Int)),s2,.sh (.int (0 + (k:Int))),.ow (.lst []),s5]:=rfl;have q2:Fu [2] (El (Aa 2)) (gV 5) d_1 [.sh (.int (n:Int)),.sh (.int (m:Int)),s2,.sh (.int (0 + (k:Int))),.ow (.lst []),s5]=.nx [.sh (.int (n:Int)),.sh (.int (m:Int)),.sh (Bi (Be m k)),.sh (.int (0 + (k:Int))),s4',b5]:=by
   rcases h2 with rfl|rfl
   ·exact el
   ·exact el
  have q3:∃t2 t4,Al 2 [4] (Aa 4) [.sh (.int (n:Int)),.sh (.int (m:Int)),.sh (Bi (Be m k)),.sh (.int (0 + (k:Int))),s4',b5]=.nx [.sh (.int (n:Int)),.sh (.int (m:Int)),t2,.sh (.int (0 + (k:Int))),t4,b5]/\(t2=.ow (Bi (Be m (k + 1)))\/t2=.sh (Bi (Be m (k + 1)))):=by
   rcases e4 with rfl|rfl
   ·exact⟨_,_,rfl,.inr rfl⟩
   ·exact⟨_,_,rfl,.inr rfl⟩
  obtain⟨t2,t4,q3,h2'⟩:=q3;refine⟨[.sh (.int (n:Int)),.sh (.int (m:Int)),t2,.sh (.int (0 + (k:Int))),t4,b5],.inl ?_,t2,_,t4,b5,rfl,h2'⟩;show h_3 [.sh (.int (n:Int)),.sh (.int (m:Int)),s2,.sh (.int (0 + (k:Int))),s4,s5]=_;unfold h_3;rw[Bg q1,Bg q2,q3])
 rw[ac_4]at h2;have q1:Al 2 [] (Cd #v[Cd Ac]) (Bb 6 [.int (n:Int),.int (m:Int)])=.nx [.sh (.int (n:Int)),.sh (.int (m:Int)),.ow (Bi [[]]),.no,.no,.no]:=rfl;have q2:Fu [0] (Bv Cr #v[0]) (gV 3) h_3 [.sh (.int (n:Int)),.sh (.int (m:Int)),.ow (Bi [[]]),.no,.no,.no]=.nx [.sh (.int (n:Int)),.sh (.int (m:Int)),s2,s3,s4,s5]:=by
  have hr:=ah_3 (j:=(n:Int)) () ();have hi:Bv Cr #v[0] (At [.sh (.int (n:Int)),.sh (.int (m:Int)),.ow (Bi [[]]),.no,.no,.no])=.ok (Ga 0 n):=by
   simp![Ao,Sl.pub,hr,Z1]
  unfold Fu;rw[hi];exact e
 rcases h2 with rfl|rfl
 ·exact .inl (p_8 (by unfold p_4;rw[Bg q1,Bg q2];rfl))
 ·exact .inr (p_8 (by unfold p_4;rw[Bg q1,Bg q2];rfl))
def ax_2(T:List Int):o_8 0 (T.map .int)=(List.range T.length).map λi=> .tup [.int (i:Int),.int (Ax T i)]:=by
 apply U7;intro i;rw[A9]
 by_cases h:i < T.length
 ·rw[bq_3 (d:=.int (Ax T i)) (by rw[A9,ar_7 h];rfl),X4 h,Q3];rfl
 ·rw[K7 (by rw[s_5,A3];omega),K7 (by rw[O4];omega)];rfl
def Fz(T U:List Int):Nat:=((List.range T.length).filter λi=> !decide (Ax T i=Ax U i)).length
def br_0{T U:List Int}(hl:U.length=T.length)(hT:T.length<=1000):n_5 [.lst (T.map .int),.lst (U.map .int)]=.ok (.sh (.int (Fz T U:Int))):=by
 have hcm:=l_2 (fg:=gC2 2 3) (p:=q_1) (f:=Aa 2) (δ:=[some (.lst (T.map .int)),some (.lst (U.map .int)),none,none]) (λd=>match d with| .tup [.int i,_]=> !decide (Ax T i.toNat=Ax U i.toNat)|_=>false) (λd=>match d with| .tup [x,_]=>x|_=> .non) (o_8 0 (T.map .int)) λd hd=>by
  rw[ax_2]at hd;obtain⟨i,hi,rfl⟩:=D3.mp hd;have hi:=K9.mp hi;refine⟨[some (.lst (T.map .int)),some (.lst (U.map .int)),some (.int (i:Int)),some (.int (Ax T i))],rfl, ?_,λ_=>⟨.sh (.int (i:Int)),rfl,rfl⟩⟩;have ix:Bk (.lst (U.map .int)) (.int (i:Int))=.ok (.sh (.int (Ax U i))):=r_3 (bi_7 ())
  simp![q_1,Ao,ix,ah_2,Z1]
 have hf:((o_8 0 (T.map .int)).filter λd=>match d with| .tup [.int i,_]=> !decide (Ax T i.toNat=Ax U i.toNat)|_=>false).map (λd=>match d with| .tup [x,_]=>x|_=> .non)=((List.range T.length).filter λi=> !decide (Ax T i=Ax U i)).map λ(i:Nat)=>D.int (i:Int):=by
  rw[ax_2,X0,F8];have:((λd:D=>match d with| .tup [.int i,_]=> !decide (Ax T i.toNat=Ax U i.toNat)|_=>false) ∘ λi:Nat=>D.tup [.int (i:Int),.int (Ax T i)])=λi=> !decide (Ax T i=Ax U i):=by
   funext i
   simp
  rw[this];rfl
 rw[hf]at hcm;have ec:=o_0 (m:=2) (fi:=ca_1 (Aa 0)) (fg:=gC2 2 3) (p:=q_1) (f:=Aa 2) (δ:=[some (.lst (T.map .int)),some (.lst (U.map .int))]) (ds:=o_8 0 (T.map .int)) rfl (by rw[s_5,A3];omega) hcm;have le:((((List.range T.length).filter λi=> !decide (Ax T i=Ax U i)).map λ(i:Nat)=>D.int (i:Int)).length:Int)=(Fz T U:Int):=by rw[A3];rfl
 simp![n_5,ao_2,Ao,ec,s_0,le]
section
variable{p s m:Int}{T U:List Int}{kds:List (Ae×D)}{ks:List D}{d:D}{v:Int}
def Ct(s p:Int)(q:Ae×D):D:=.tup [.int (pA (kD q.1) s p:Int),.int (pB (kD q.1) s p:Int),q.2]
def okQ(s p m:Int)(U:List Int)(q:Ae×D):Bool:=match q.2 with
 | .int n=>decide ((Ax U (pA (kD q.1) s p) + Ax U (pB (kD q.1) s p)) % m=n)
 |_=>false
def bd_8{e1:FE}(z:Szs p s m T)(h:KOk kds ks){δ:DE}{i n:Nat}(hi:aa_8 (Aa i) δ=.ok (kds.map λq=> .tup [kD q.1,q.2]))(hg:∀a b,gC2 n (n + 1) (.tup [a,b]) (δ ++ [none,none])=.ok (δ ++ [some a,some b]))
  (he:∀a b,e1 (δ ++ [some a,some b])=(k_4 [a,Cf p s m]).bind λw=>addT w.d (.tup [b])):Ch 2 (aa_8 (Aa i)) (gC2 n (n + 1)) (λ_=> .ok true) e1 δ=.ok (.ow (.lst (kds.map (Ct s p)))):=by
 have hc:=l_2 (fg:=gC2 n (n + 1)) (p:=λ_=> .ok true) (f:=e1) (δ:=δ ++ [none,none]) (λ_=>true) (λx=>match x with| .tup [k,y]=> .tup [.int (pA k s p:Int),.int (pB k s p:Int),y]|_=> .non) (kds.map λq=> .tup [kD q.1,q.2]) λx hx=>by
  obtain⟨q,hq,rfl⟩:=D3.mp hx;obtain⟨y,k,hy,hk,a1,a2,a3,av⟩:=h.row hq;have lp:=az_2 z (d:=kD q.1) (by rw[a1];exact hk);exact⟨δ ++ [some (kD q.1),some q.2],hg _ _,rfl,λ_=>⟨.sh (.tup [.int (pA (kD q.1) s p:Int),.int (pB (kD q.1) s p:Int),q.2]),by rw[he,lp];rfl,rfl⟩⟩
 rw[Q6.mpr λ_ _=>rfl,F8]at hc;have hc':Fv (gC2 n (n + 1)) (λ_=> .ok true) e1 (δ ++ [none,none]) (kds.map λq=> .tup [kD q.1,q.2])=.ok (kds.map (Ct s p)):=hc;exact o_0 (m:=2) (ds:=kds.map λq:Ae×D=>D.tup [kD q.1,q.2]) hi (by rw[A3,h.length];have:=h.len;omega) hc'
theorem ax_3(z:Szs p s m U)(h:KOk kds ks){W:D}:∀(l:List (Ae×D)) (a3 a4 a5:Sl),(∀q∈l,q∈kds)->(l.all (okQ s p m U)=true->∃b3 b4 b5,De (gV3 3 4 5) b_6 (l.map (Ct s p)) [.sh (.lst (U.map .int)),.sh W,.sh (.int m),a3,a4,a5]=.nx [.sh (.lst (U.map .int)),.sh W,.sh (.int m),b3,b4,b5])/\(l.all (okQ s p m U)=false->De (gV3 3 4 5) b_6 (l.map (Ct s p)) [.sh (.lst (U.map .int)),.sh W,.sh (.int m),a3,a4,a5]=.rt (.sh (.bl false)))
 | [],a3,a4,a5,_=>⟨λ_=>⟨a3,a4,a5,rfl⟩,λe=>by cases e⟩
 |q::l,a3,a4,a5,hl=>by
  have hm:0 < m:=by have:=z.m0;omega
  obtain⟨y,k,hy,hk,a1,a2,e3,av⟩:=h.row (hl q D5);have a:=z_4 (kD q.1) s z.p0;have b:=z_5 (kD q.1) s z.p0;have tl:=z.tl;have ia:Bk (.lst (U.map .int)) (.int (pA (kD q.1) s p:Int))=.ok (.sh (.int (Ax U (pA (kD q.1) s p)))):=r_3 (bi_7 ());have ib:Bk (.lst (U.map .int)) (.int (pB (kD q.1) s p:Int))=.ok (.sh (.int (Ax U (pB (kD q.1) s p)))):=r_3 (bi_7 ());have ih:=ax_3 z h (W:=W) l (.sh (.int (pA (kD q.1) s p:Int))) (.sh (.int (pB (kD q.1) s p:Int))) (.sh q.2) λx hx=>hl x (C7 _ hx);have go:∀r,b_6 [.sh (.lst (U.map .int)),.sh W,.sh (.int m),.sh (.int (pA (kD q.1) s p:Int)),.sh (.int (pB (kD q.1) s p:Int)),.sh q.2]=r->De (gV3 3 4 5) b_6 ((q::l).map (Ct s p)) [.sh (.lst (U.map .int)),.sh W,.sh (.int m),a3,a4,a5]=(match r with
    | .nx Δ2=>De (gV3 3 4 5) b_6 (l.map (Ct s p)) Δ2
    | .ct Δ2=>De (gV3 3 4 5) b_6 (l.map (Ct s p)) Δ2
    | .bk Δ2=> .nx Δ2
    |r=>r):=λr e=>by subst e;rfl
  by_cases hq:(Ax U (pA (kD q.1) s p) + Ax U (pB (kD q.1) s p)) % m=k
  ·have ok:okQ s p m U q=true:=by unfold okQ;rw[e3];exact D9 hq
   have one:b_6 [.sh (.lst (U.map .int)),.sh W,.sh (.int m),.sh (.int (pA (kD q.1) s p:Int)),.sh (.int (pB (kD q.1) s p:Int)),.sh q.2]=.nx [.sh (.lst (U.map .int)),.sh W,.sh (.int m),.sh (.int (pA (kD q.1) s p:Int)),.sh (.int (pB (kD q.1) s p:Int)),.sh q.2]:=by
    rw[e3]
    simp![b_6,Ao,Sl.any,ia,ib,k_7,Cy hm,ah_2,hq]
   rw[N7,ok,Bool.true_and,go _ one];exact ih
  ·have ok:okQ s p m U q=false:=by unfold okQ;rw[e3];exact D2 hq
   have one:b_6 [.sh (.lst (U.map .int)),.sh W,.sh (.int m),.sh (.int (pA (kD q.1) s p:Int)),.sh (.int (pB (kD q.1) s p:Int)),.sh q.2]=.rt (.sh (.bl false)):=by
    rw[e3]
    simp![b_6,Ao,Sl.any,ia,ib,k_7,Cy hm,ah_2,hq]
   rw[N7,ok,ZB9,go _ one];exact⟨λe=>(by cases e),λ_=>rfl⟩
def aj_2(z:Szs p s m U)(h:KOk kds ks):h_8 [.lst (U.map .int),.lst (kds.map (Ct s p)),.int m]=.ok (.sh (.bl (kds.all (okQ s p m U)))):=by
 have tl:=ax_3 z h (W:=.lst (kds.map (Ct s p))) kds .no .no .no λ_ h=>h;have q0:∀r,De (gV3 3 4 5) b_6 (kds.map (Ct s p)) [.sh (.lst (U.map .int)),.sh (.lst (kds.map (Ct s p))),.sh (.int m),.no,.no,.no]=r->Fu [1] (El (Aa 1)) (gV3 3 4 5) b_6 (Bb 6 [.lst (U.map .int),.lst (kds.map (Ct s p)),.int m])=r:=λr e=>e;cases hk:kds.all (okQ s p m U) with
 |true=>
  obtain⟨b3,b4,b5,e⟩:=tl.1 hk;refine p_8 ?_;unfold r_4;rw[Bg (q0 _ e)];rfl
 |false=>
  refine p_8 ?_;unfold r_4 Ag;rw[q0 _ (tl.2 hk)]
end
section
variable{p s m:Int}{T U:List Int}{kds:List (Ae×D)}{ks:List D}{d:D}{v:Int}
theorem br_1{α:Type}:∀{l:List (Ae×α)} {k:Ae} {v:α},Bh l k=some v->(k,v)∈l
 | [],_,_,e=>by cases e
 |(x,u)::l,k,v,e=>by
  rw[Eg]at e
  split at e
  ·rename_i hx;subst hx;injection e with e
   subst e;exact .head _
  ·exact .tail _ (br_1 e)
def dh_5{q:Nat}{x:D×Nat}(h:x∈Cm (Dk ks d s p) q):x.1∈ks/\Aw x.1≠Aw d/\((pA x.1 s p=q/\x.2=pB x.1 s p)\/(pB x.1 s p=q/\x.2=pA x.1 s p)):=by
 obtain⟨e,he,hx⟩:=ar_6 h;obtain⟨y,hy,rfl⟩:=D3.mp he;obtain⟨hy1,hy2⟩:=L4.mp hy;have ne:Aw y≠Aw d:=by simpa using hy2
 rcases hx with⟨h1,rfl⟩|⟨h1,rfl⟩
 ·exact⟨hy1,ne,.inl ⟨h1,rfl⟩⟩
 ·exact⟨hy1,ne,.inr ⟨h1,rfl⟩⟩
def Sat(s p m:Int)(U:List Int)(kds:List (Ae×D)):Prop:=kds.all (okQ s p m U)=true
def bj_2(h:KOk kds ks)(hs:Sat s p m U kds){x:D}(hx:Bo x){n:Int}(e:Bh kds (Aw x)=some (.int n)):(Ax U (pA x s p) + Ax U (pB x s p)) % m=n:=by
 have mem:(Aw x,D.int n)∈kds:=br_1 e;have:=F0.mp hs _ mem;unfold okQ at this;simp only[bw_6 hx]at this;exact K8 this
def br_2(h:KOk kds ks)(t:Told p s m U kds):Sat s p m U kds:=F0.mpr λq hq=>by
 obtain⟨y,n,hy,hk,a1,a2,a3,av⟩:=h.row hq;have:=t.val y n hk av;rw[q_3]at this;unfold okQ;rw[a3,a1];exact D9 this
def br_3{a b m k:Int}(a0:0<=a)(a1:a < m)(b0:0<=b)(b1:b < m)(e:a=b + m * k):a=b:=by
 have h1:=O6 a0 a1;rw[e,L1,O6 b0 b1]at h1;omega
structure Rng(m:Int)(U:List Int)(n:Nat):Prop where
 len:U.length=n
 rng:∀t∈U,0<=t/\t < m
def Rng.at{n i:Nat}(r:Rng m U n)(h:i < n):0<=Ax U i/\Ax U i < m:=r.rng _ (K0 (ar_7 (by rw[r.len];exact h)))
def cx_0(z:Szs p s m T)(h:KOk kds ks)(hd:Bo d)(hT:∀x∈ks,x≠d->∃k,Ax U (pA x s p) + Ax U (pB x s p)=Ax T (pA x s p) + Ax T (pB x s p) + m * k){a M:Nat}{B:Bs}(sr:Srch (Cm (Dk ks d s p)) a M B):
  ∀q∈bK B,∃k,(if(q:Int) < p then Ax U q - Ax T q else Ax T q - Ax U q)=(if(a:Int) < p then Ax U a - Ax T a else Ax T a - Ax U a) + m * k:=
 sr.g.all _ ⟨0,by omega⟩ λq ⟨k,e⟩ x hx=>by
  obtain⟨h1,h2,h3⟩:=dh_5 hx;have a:=z_4 x.1 s z.p0;have b:=z_5 x.1 s z.p0;obtain⟨k',e'⟩:=hT x.1 h1 λz=>h2 (by rw[z]);rcases h3 with⟨a1,a2⟩|⟨a1,a2⟩
  ·rw[a1]at a e';rw[<-a2]at b e';rw[if_pos a]at e;rw[if_neg ()];refine⟨k - k', ?_⟩;rw[Int.mul_sub];omega
  ·rw[a1]at b e';rw[<-a2]at a e';rw[if_neg ()]at e;rw[if_pos a];refine⟨k + k', ?_⟩;rw[Int.mul_add];omega
def bd_9(z:Szs p s m T)(rT:Rng m T (2 * p).toNat)(rU:Rng m U (2 * p).toNat)(h:KOk kds ks)(hd:Bo d)(hT:∀x∈ks,x≠d->∃k,Ax U (pA x s p) + Ax U (pB x s p)=Ax T (pA x s p) + Ax T (pB x s p) + m * k){a:Nat}{B:Bs}(ha:a < (2 * p).toNat)(sr:Srch (Cm (Dk ks d s p)) a (2 * p).toNat B)(hB:∀q∈bK B,q < (2 * p).toNat)(hn:Ax T a≠Ax U a):∀q∈bK B,Ax T q≠Ax U q:=λq hq e=>by
 obtain⟨k,ek⟩:=cx_0 z h hd hT sr q hq;have t:=rT.at ha;have u:=rU.at ha;rw[e]at ek;have:(0:Int)=(if(a:Int) < p then Ax U a - Ax T a else Ax T a - Ax U a) + m * k:=by rw[<-ek];split <;> omega
 by_cases hp:(a:Int) < p
 ·rw[if_pos hp]at this;exact hn (br_3 t.1 t.2 u.1 u.2 (k:=k) ())
 ·rw[if_neg hp]at this;exact hn (br_3 u.1 u.2 t.1 t.2 (k:=k) ()).symm
def dj_3{S:List Nat}(nd:S.Nodup)(hS:∀q∈S,q < T.length/\Ax T q≠Ax U q):S.length<=Fz T U:=by
 have hp:S.Perm ((List.range T.length).filter λi=>decide (i∈S)):=(Y5 nd (List.nodup_range.filter _)).mpr λx=>by
  rw[L4,K9,Y4];exact⟨λq=>⟨(hS x q).1,q⟩,λq=>q.2⟩
 rw[hp.length_eq];unfold Fz;rw[<-X1,<-X1];refine List.countP_mono_left λi _ hi=> ?_;have:=(hS i (K8 hi)).2;simp[this]
def cx_1{S:List Nat}(nd:S.Nodup)(hS:∀q∈S,q < T.length)(hc:∀i < T.length,(Ax T i≠Ax U i↔i∈S)):Fz T U=S.length:=by
 have hp:S.Perm ((List.range T.length).filter λi=>decide (i∈S)):=(Y5 nd (List.nodup_range.filter _)).mpr λx=>by
  rw[L4,K9,Y4];exact⟨λq=>⟨hS x q,q⟩,λq=>q.2⟩
 rw[hp.length_eq];unfold Fz
 congr 1
 refine List.filter_congr λi hi=> ?_;have:=hc i (K9.mp hi)
 by_cases h:i∈S
 ·rw[D9 h,D2 (this.mpr h)];rfl
 ·have h2:Ax T i=Ax U i:=by
   by_cases e:Ax T i=Ax U i
   ·exact e
   ·exact absurd (this.mp e) h
  rw[D2 h,D9 h2];rfl
end
def br_4(a:Int)(l:List Int):Dd (.lst ((a::l).map .int)) (.lst [])=.ok (.sh (.bl false)):=by
 have o1:okD 1 (.lst ((a::l).map .int))=true:=F0.mpr λx hx=>by obtain⟨i,_,rfl⟩:=D3.mp hx;rfl
 obtain⟨a1,a2,_⟩:=aw_2 1 _ o1;obtain⟨b1,_,_⟩:=aw_2 1 (.lst []) rfl;show(if Fj (.lst ((a::l).map .int)) (.lst [])=true then R.ok (W.sh (.bl (Fq (.lst ((a::l).map .int)) (.lst [])))) else .no)=_;have hc:Fj (.lst ((a::l).map .int)) (.lst [])=true:=by
  unfold Fj;rw[a1,b1,D9 (show(Db (.lst ((a::l).map .int))).depth<=60 by omega)];rfl
 rw[if_pos hc];rfl
section
variable{p s m:Int}{T:List Int}{kds:List (Ae×D)}{ks:List D}{n M:Nat}
def unZ:D->Int
 | .int i=>i
 |_=>0
def l_7(s p m:Int)(T:List Int)(kds:List (Ae×D))(l:List (List Int)):List Int:=(l.filter λU=>kds.all (okQ s p m U)).map λU=>(Fz T U:Int)
def resD:List Int->D
 | []=> .str "stuck"
 |a::l=> .int (Dq a l)
def ck_5(z:Szs p s m T)(h:KOk kds ks)(hm:m=(M:Int))(hn:T.length=n)(ht:T∈Be M n)(hM:(Be M n).length<=531441):l_4 [Bi (Be M n),.lst (T.map .int),.dic kds,Cf p s m]=.ok (.sh (resD (l_7 s p m T kds (Be M n)))):=by
 have tl:=z.tl;have p1:=z.p1;have i2:Bk (Cf p s m) (.int 2)=.ok (.sh (.int m)):=rfl;have w1:=bd_8 (e1:=t_8) (n:=6) (i:=2) z h (δ:=[some (Bi (Be M n)),some (.lst (T.map .int)),some (.dic kds),some (Cf p s m),none,none]) rfl (λ_ _=>rfl) (λ_ _=>rfl);have hc:=l_2 (fg:=gC 6) (p:=j_3) (f:=j_2) (δ:=[some (Bi (Be M n)),some (.lst (T.map .int)),some (.dic kds),some (Cf p s m),some (.lst (kds.map (Ct s p))),none,none]) (λd:D=>match d with| .lst l=>kds.all (okQ s p m (l.map unZ))|_=>false) (λd:D=>match d with| .lst l=> .int (Fz T (l.map unZ):Int)|_=> .non) ((Be M n).map λt=> .lst (t.map .int)) λd hd=>by
  obtain⟨U,hU,rfl⟩:=D3.mp hd;obtain⟨u1,u2⟩:=(tabs_mem (n:=n)).mp hU;have zU:Szs p s m U:=⟨z.p0,z.p1,z.s0,z.s1,z.m0,z.m1,by rw[u1,<-hn];exact tl⟩;have ta:=aj_2 zU h;have ap:=br_0 (T:=T) (U:=U) () ();have uu:(U.map D.int).map unZ=U:=by
   rw[F8];exact(Q7 λ_ _=>rfl).trans (List.map_id U)
  refine⟨[some (Bi (Be M n)),some (.lst (T.map .int)),some (.dic kds),some (Cf p s m),some (.lst (kds.map (Ct s p))),none,some (.lst (U.map .int))],rfl, ?_,λ_=>⟨.sh (.int (Fz T U:Int)), ?_, ?_⟩⟩
  ·simp![j_3,Ao,i2,ta,uu]
  ·simp![j_2,Ao,ap]
  ·simp only[W.d_sh,uu]
 have hf:(((Be M n).map λt:List Int=>D.lst (t.map .int)).filter λd:D=>match d with| .lst l=>kds.all (okQ s p m (l.map unZ))|_=>false).map (λd:D=>match d with| .lst l=>D.int (Fz T (l.map unZ):Int)|_=> .non)=(l_7 s p m T kds (Be M n)).map .int:=by
  have uu:∀U:List Int,(U.map D.int).map unZ=U:=λU=>by
   rw[F8];exact(Q7 λ_ _=>rfl).trans (List.map_id U)
  unfold l_7;rw[X0,F8,F8];have e1:((λd:D=>match d with| .lst l=>kds.all (okQ s p m (l.map unZ))|_=>false) ∘ λt:List Int=>D.lst (t.map .int))=λU=>kds.all (okQ s p m U):=by
   funext U
   show kds.all (okQ s p m ((U.map D.int).map _))=_;rw[uu]
  have e2:((λd:D=>match d with| .lst l=>D.int (Fz T (l.map unZ):Int)|_=> .non) ∘ λt:List Int=>D.lst (t.map .int))=(D.int ∘ λU=>(Fz T U:Int)):=by
   funext U
   show D.int (Fz T ((U.map D.int).map _):Int)=_;rw[uu];rfl
  rw[e1,e2]
 rw[hf]at hc;have ec:=o_0 (m:=1) (fi:=El (Aa 0)) (fg:=gC 6) (p:=j_3) (f:=j_2) (δ:=[some (Bi (Be M n)),some (.lst (T.map .int)),some (.dic kds),some (Cf p s m),some (.lst (kds.map (Ct s p))),none]) (ds:=(Be M n).map λt:List Int=>D.lst (t.map D.int)) rfl (by rw[A3];omega) hc;have en:Ch 1 (El (Aa 0)) (gC 6) j_3 j_2 [some (Bi (Be M n)),some (.lst (T.map .int)),some (.dic kds),some (Cf p s m),none,none]=.no:=by
  have hl:((Be M n).map λt:List Int=>D.lst (t.map .int)).length<=16777216:=by rw[A3];omega
  unfold Ch;rw[show El (Aa 0) [some (Bi (Be M n)),some (.lst (T.map .int)),some (.dic kds),some (Cf p s m),none,none]=.ok ((Be M n).map λt:List Int=>D.lst (t.map .int)) from rfl];simp only[R.bind_ok,hl,if_true];obtain⟨t,l,e⟩:=List.exists_cons_of_ne_nil (List.ne_nil_of_mem ht);rw[e];rfl
 have q1:Al 4 [2,3] (Ch 2 (aa_8 (Aa 2)) (gC2 6 7) (λ_=> .ok true) t_8) (Bb 6 [Bi (Be M n),.lst (T.map .int),.dic kds,Cf p s m])=.nx [.sh (Bi (Be M n)),.sh (.lst (T.map .int)),.sh (.dic kds),.sh (Cf p s m),.ow (.lst (kds.map (Ct s p))),.no]:=by
  unfold Al;rw[show At (Bb 6 [Bi (Be M n),.lst (T.map .int),.dic kds,Cf p s m])= [some (Bi (Be M n)),some (.lst (T.map .int)),some (.dic kds),some (Cf p s m),none,none] from rfl,w1];rfl
 have q2:Al 5 [0,1,3,4] (Ch 1 (El (Aa 0)) (gC 6) j_3 j_2) [.sh (Bi (Be M n)),.sh (.lst (T.map .int)),.sh (.dic kds),.sh (Cf p s m),.ow (.lst (kds.map (Ct s p))),.no]=.nx [.sh (Bi (Be M n)),.sh (.lst (T.map .int)),.sh (.dic kds),.sh (Cf p s m),.sh (.lst (kds.map (Ct s p))),.ow (.lst ((l_7 s p m T kds (Be M n)).map .int))]:=by
  unfold Al;rw[show At [.sh (Bi (Be M n)),.sh (.lst (T.map .int)),.sh (.dic kds),.sh (Cf p s m),.ow (.lst (kds.map (Ct s p))),.no]= [some (Bi (Be M n)),some (.lst (T.map .int)),some (.dic kds),some (Cf p s m),none,none] from rfl,en,
   show Ba [.sh (Bi (Be M n)),.sh (.lst (T.map .int)),.sh (.dic kds),.sh (Cf p s m),.ow (.lst (kds.map (Ct s p))),.no]= [some (Bi (Be M n)),some (.lst (T.map .int)),some (.dic kds),some (Cf p s m),some (.lst (kds.map (Ct s p))),none] from rfl,ec]
  refine(if_neg (show¬(Bf (W.ow (.lst ((l_7 s p m T kds (Be M n)).map .int))).d=true) from A6)).trans ?_;rw[show gsome [0,1,3,4] [.sh (Bi (Be M n)),.sh (.lst (T.map .int)),.sh (.dic kds),.sh (Cf p s m),.ow (.lst (kds.map (Ct s p))),.no]= [.sh (Bi (Be M n)),.sh (.lst (T.map .int)),.sh (.dic kds),.sh (Cf p s m),.sh (.lst (kds.map (Ct s p))),.no] from rfl,
   show At [.sh (Bi (Be M n)),.sh (.lst (T.map .int)),.sh (.dic kds),.sh (Cf p s m),.sh (.lst (kds.map (Ct s p))),.no]= [some (Bi (Be M n)),some (.lst (T.map .int)),some (.dic kds),some (Cf p s m),some (.lst (kds.map (Ct s p))),none] from rfl,ec]
  rfl
 refine p_8 ?_;unfold ai_2;rw[Bg q1,Bg q2];cases hF:l_7 s p m T kds (Be M n) with
 |nil=>
  have e0:Dd (.lst []) (.lst [])=.ok (.sh (.bl true)):=aw_3 3 rfl;simp only[N0,resD];unfold Ag
  simp![Ao,Sl.any,e0]
 |cons a l=>
  have e0:Dd (.lst (.int a::l.map .int)) (.lst [])=.ok (.sh (.bl false)):=br_4 a l;have em:minL [.lst (.int a::l.map .int)]=.ok (.sh (.int (Dq a l))):=by
   show(match ag_9 ((a::l).map .int) with|some (i::is)=>R.ok (W.sh (.int (Dq i is)))|_=> .no)=_;rw[show ag_9 ((a::l).map .int)=some ((a::l).map λi=>i) from am_2 (λi=>i) (a::l)];simp
  have q3:Bx [5] (Ak (Af Dd (Aa 5) (Cd Ac))) (Az [] (eC (.str "stuck"))) Bc [.sh (Bi (Be M n)),.sh (.lst (T.map .int)),.sh (.dic kds),.sh (Cf p s m),.sh (.lst (kds.map (Ct s p))),.ow (.lst ((a::l).map .int))]=.nx [.sh (Bi (Be M n)),.sh (.lst (T.map .int)),.sh (.dic kds),.sh (Cf p s m),.sh (.lst (kds.map (Ct s p))),.ow (.lst ((a::l).map .int))]:=by
   simp![A8,Ao,Sl.any,e0]
  rw[Bg q3]
  simp![A8,Ao,Sl.any,em,resD]
end
section
variable{p s m:Int}{T U:List Int}{kds:List (Ae×D)}{ks:List D}{d:D}{v:Int}
def cx_2{a b m n:Int}(h1:a % m=n)(h2:b % m=n):∃k,a=b + m * k:=by
 have e1:=S4 a m;have e2:=S4 b m;exact⟨a / m - b / m,by rw[Int.mul_sub];omega⟩
def br_6(h:KOk kds ks)(hd:Bo d)(t:Told p s m T kds)(h':KOk (By kds (Aw d) (.int v)) (if Cn kds (Aw d)=true then ks else ks ++ [d]))(hs:Sat s p m U (By kds (Aw d) (.int v))):∀x∈ks,x≠d->∃k,Ax U (pA x s p) + Ax U (pB x s p)=Ax T (pA x s p) + Ax T (pB x s p) + m * k:=λx hx hn=>by
 have hk:=h.key x hx;obtain⟨n,en⟩:=h.get hx;have ne:Aw x≠Aw d:=λq=>hn (ad_3 hk hd q);have e1:=t.val x n hk en;rw[q_3]at e1;exact cx_2 (bj_2 h' hs hk (by rw[aj_0,if_neg ne];exact en)) e1
def cx_3(z:Szs p s m T)(h:KOk kds ks)(hd:Bo d)(v0:0<=v)(v1:v < m)(t:Told p s m T kds)(h':KOk (By kds (Aw d) (.int v)) (if Cn kds (Aw d)=true then ks else ks ++ [d])){B1:Bs}(s1:Srch (Cm (Dk ks d s p)) (pA d s p) (2 * p).toNat B1)(hb:pB d s p∈bK B1)(hv:¬o_7 T [pA d s p,pB d s p] % m=v):¬Sat s p m U (By kds (Aw d) (.int v)):=λhs=>by
 have hm:0 < m:=by have:=z.m0;omega
 have a:=z_4 d s z.p0;have b:=z_5 d s z.p0;obtain⟨k,ek⟩:=cx_0 z h hd (br_6 h hd t h' hs) s1 _ hb;rw[if_pos a,if_neg ()]at ek;have ev:=bj_2 h' hs hd (n:=v) (by rw[aj_0,if_pos rfl]);have em:=S4 (Ax U (pA d s p) + Ax U (pB d s p)) m;refine hv ?_;rw[q_3];have:Ax T (pA d s p) + Ax T (pB d s p)=v + m * (k + (Ax U (pA d s p) + Ax U (pB d s p)) / m):=by rw[Int.mul_add];omega
 rw[this,L1,O6 v0 v1]
def dw_3(z:Szs p s m T)(h:KOk kds ks)(hd:Bo d)(t:Told p s m T kds)(h':KOk (By kds (Aw d) (.int v)) (if Cn kds (Aw d)=true then ks else ks ++ [d]))(rU:Rng m U (2 * p).toNat){B1 B2:Bs}(s1:Srch (Cm (Dk ks d s p)) (pA d s p) (2 * p).toNat B1)(s2:Srch (Cm (Dk ks d s p)) (pB d s p) (2 * p).toNat B2)(l1:∀q∈bK B1,q < T.length)(l2:∀q∈bK B2,q < T.length)(hv:¬o_7 T [pA d s p,pB d s p] % m=v)(hs:Sat s p m U (By kds (Aw d) (.int v))):min B1.length B2.length<=Fz T U:=by
 have tl:=z.tl;have a:=z_4 d s z.p0;have b:=z_5 d s z.p0;have hT:=br_6 h hd t h' hs;have rT:Rng m T (2 * p).toNat:=⟨by omega,t.rng⟩;have k1:(bK B1).length=B1.length:=A3 ..;have k2:(bK B2).length=B2.length:=A3 ..
 by_cases hA:Ax T (pA d s p)=Ax U (pA d s p)
 ·have hB:Ax T (pB d s p)≠Ax U (pB d s p):=λe=>by
   have ev:=bj_2 h' hs hd (n:=v) (by rw[aj_0,if_pos rfl]);rw[<-hA,<-e]at ev;exact hv (by rw[q_3];exact ev)
  have:=dj_3 (T:=T) (U:=U) s2.g.nd λq hq=>⟨l2 q hq,bd_9 z rT rU h hd hT () s2 (λq hq=>by have:=l2 q hq;omega) hB q hq⟩;omega
 ·have:=dj_3 (T:=T) (U:=U) s1.g.nd λq hq=>⟨l1 q hq,bd_9 z rT rU h hd hT () s1 (λq hq=>by have:=l1 q hq;omega) hA q hq⟩;omega
def dr_0{a:Int}{l:List Int}{c:Int}(h1:c∈a::l)(h2:∀x∈a::l,c<=x):Dq a l=c:=by
 obtain⟨g1,g2⟩:=aq_7 l a;have g3:=au_6 l a;have i1:=h2 _ g3;rcases C6.mp h1 with e|e
 ·omega
 ·have:=g2 _ e;omega
def dr_1{M n:Nat}{T':List Int}{c:Int}{l:List (List Int)}(hT:T'∈l)(hs:Sat s p m T' kds)(hc:(Fz T T':Int)=c)(hm:∀U∈l,Sat s p m U kds->c<=(Fz T U:Int)):resD (l_7 s p m T kds l)=.int c:=by
 have mem:c∈l_7 s p m T kds l:=D3.mpr ⟨T',L4.mpr ⟨hT,hs⟩,hc⟩;have all:∀x∈l_7 s p m T kds l,c<=x:=λx hx=>by
  obtain⟨U,hU,rfl⟩:=D3.mp hx;obtain⟨u1,u2⟩:=L4.mp hU;exact hm U u1 u2
 cases hF:l_7 s p m T kds l with
 |nil=>rw[hF]at mem;cases mem
 |cons a r=>
  rw[hF]at mem all;show D.int (Dq a r)=_;rw[dr_0 mem all]
def cx_4{l:List (List Int)}(h:∀U∈l,¬Sat s p m U kds):resD (l_7 s p m T kds l)=.str "stuck" :=by
 have:l_7 s p m T kds l= []:=by
  unfold l_7;rw[List.filter_eq_nil_iff.mpr λU hU=>h U hU];rfl
 rw[this];rfl
def dj_4{t l m:Int}(t0:0<=t)(t1:t < m)(l0:l≠0)(a: -m < l)(b:l < m):t≠(t + l) % m:=by
 by_cases h1:t + l < 0
 ·rw[show t + l=(t + l + m) + m * (-1) by omega,L1,O6 () ()];omega
 ·by_cases h2:t + l < m
  ·rw[O6 () h2];omega
  ·rw[show t + l=(t + l - m) + m * 1 by omega,L1,O6 () ()];omega
def ax_4{T':List Int}{aa:List (Ae×D)}(e:Aj p s m T kds=Aj p s m T' aa):T=T':=by
 have e1:T.map D.int=T'.map D.int:=by
  unfold Aj at e;injection e with _ _ e
  injection e with _ e
  injection e with _ e
  injection e with _ e
  injection e with e _
  injection e with e
  injection e
 exact List.map_inj_right (λa b h=>by injection h) |>.mp e1
def ce_1{E:List Ed}{a M:Nat}{B:Bs}(s1:Srch (Cm E) a M B){n:Nat}(ha:a < n)(hE:∀e∈E,e.2.1 < n/\e.2.2 < n):∀q∈bK B,q < n:=
 s1.g.all (· < n) ha λq _ x hx=>by
  obtain⟨e,he,hx⟩:=ar_6 hx;rcases hx with⟨_,rfl⟩|⟨_,rfl⟩
  ·exact(hE e he).2
  ·exact(hE e he).1
def cx_5(z:Szs p s m T):∀e∈Dk ks d s p,e.2.1 < T.length/\e.2.2 < T.length:=λe he=>by
 unfold Dk at he;obtain⟨x,_,rfl⟩:=D3.mp he;have a:=z_4 x s z.p0;have b:=z_5 x s z.p0;have tl:=z.tl;exact⟨show pA x s p < T.length by omega,show pB x s p < T.length by omega⟩
def ck_6(z:Szs p s m T)(h:KOk kds ks)(t:Told p s m T kds)(hd:Bo d)(v0:0<=v)(v1:v < m)(hl:ks.length < 24){M:Nat}(hM:m=(M:Int)){B1 B2:Bs}(s1:Srch (Cm (Dk ks d s p)) (pA d s p) (2 * p).toNat B1)(s2:Srch (Cm (Dk ks d s p)) (pB d s p) (2 * p).toNat B2):
  (Cq p s m v T kds d B1 B2=.ex af_9 (Aj p s m T kds)/\resD (l_7 s p m T (By kds (Aw d) (.int v)) (Be M T.length))=.str "stuck")\/∃(c:Int) (T':List Int),T'.length=T.length/\Told p s m T' (By kds (Aw d) (.int v))/\Cq p s m v T kds d B1 B2=.ok (.int c) (Aj p s m T' (By kds (Aw d) (.int v)))/\resD (l_7 s p m T (By kds (Aw d) (.int v)) (Be M T.length))=.int c/\(Fz T T':Int)=c:=by
 have hm:0 < m:=by have:=z.m0;omega
 have tl:=z.tl;have a:=z_4 d s z.p0;have b:=z_5 d s z.p0;have h':=h.put (v:=v) hd hl;have pt:=cw_8 z h hd v0 v1 t s1 s2;have eL:=cx_5 (T:=T) (ks:=ks) (d:=d) z;have l1:=ce_1 s1 (show pA d s p < T.length by omega) eL;have l2:=ce_1 s2 (show pB d s p < T.length by omega) eL;have k1:(bK B1).length=B1.length:=A3 ..;have k2:(bK B2).length=B2.length:=A3 ..
 by_cases hst:pB d s p∈bK B1/\¬o_7 T [pA d s p,pB d s p] % m=v
 ·refine .inl ⟨?_,cx_4 λU _=>cx_3 z h hd v0 v1 t h' s1 hst.1 hst.2⟩;unfold Cq;rw[if_neg (by unfold Du;omega),if_pos hst.1]
 ·right;rcases pt with⟨c,T',tl',tt,er⟩|q
  ·have key:(Fz T T':Int)=c/\∀U∈Be M T.length,Sat s p m U (By kds (Aw d) (.int v))->c<=(Fz T U:Int):=by
    by_cases hz:o_7 T [pA d s p,pB d s p] % m=v
    ·have e0:Cq p s m v T kds d B1 B2=.ok (.int 0) (Aj p s m T (By kds (Aw d) (.int v))):=by
      unfold Cq;rw[if_pos (by unfold Du;omega)]
     rw[e0]at er;injection er with ec et
     injection ec with ec
     have et:=ax_4 et;subst ec et;refine⟨?_,λU _ _=>by omega⟩;rw[cx_1 (S:=[]) List.nodup_nil (λ_ h=>by cases h) λi _=>⟨λq=>absurd rfl q,λq=>by cases q⟩];rfl
    ·have hb:pB d s p∉bK B1:=λq=>hst ⟨q,hz⟩;have lk:Du T d s p m v≠0:=by unfold Du;omega
     have em0:=K2 (o_7 T [pA d s p,pB d s p]) (show m≠0 by omega);have em1:=F6 (o_7 T [pA d s p,pB d s p]) hm;have lb: -m < Du T d s p m v/\Du T d s p m v < m:=by unfold Du;omega
     have chg:∀(S:List Nat) (l1 l2:Int),l1≠0->l2≠0->(-m < l1/\l1 < m)->(-m < l2/\l2 < m)->∀i < T.length,(Ax T i≠Ax (Dx T S p m l1 l2) i↔i∈S):=λS l1 l2 n1 n2 b1 b2 i hi=>by
      rw[p_7 S l1 l2 hi];have hr:=t.rng (Ax T i) (K0 (ar_7 hi))
      by_cases hS:i∈S
      ·rw[if_pos hS];refine⟨λ_=>hS,λ_=> ?_⟩
       by_cases hp:(i:Int) < p
       ·rw[if_pos hp];exact dj_4 hr.1 hr.2 n1 b1.1 b1.2
       ·rw[if_neg hp];exact dj_4 hr.1 hr.2 n2 b2.1 b2.2
      ·rw[if_neg hS];exact⟨λq=>absurd rfl q,λq=>absurd q hS⟩
     have low:∀U∈Be M T.length,Sat s p m U (By kds (Aw d) (.int v))->min B1.length B2.length<=Fz T U:=λU hU hs=>by
      obtain⟨u1,u2⟩:=tabs_mem.mp hU;exact dw_3 z h hd t h' ⟨by omega,λx hx=>by rw[hM];exact u2 x hx⟩ s1 s2 l1 l2 hz hs
     unfold Cq at er;rw[if_neg lk,if_neg hb]at er
     split at er
     ·rename_i hle;injection er with ec et
      injection ec with ec
      have et:=ax_4 et;subst ec et;have:=cx_1 (T:=T) s1.g.nd l1 (chg (bK B1) (Du T d s p m v) (-Du T d s p m v) lk () lb ());exact⟨by rw[this,k1],λU hU hs=>by have:=low U hU hs;omega⟩
     ·rename_i hle;injection er with ec et
      injection ec with ec
      have et:=ax_4 et;subst ec et;have:=cx_1 (T:=T) s2.g.nd l2 (chg (bK B2) (-Du T d s p m v) (Du T d s p m v) () lk () lb);exact⟨by rw[this,k2],λU hU hs=>by have:=low U hU hs;omega⟩
   refine⟨c,T',tl',tt,er,dr_1 (M:=M) (n:=T.length) (tabs_mem.mpr ⟨tl',λx hx=>by have:=tt.rng x hx;omega⟩) (br_2 h' tt) key.1 key.2,key.1⟩
  ·exfalso;unfold Cq at q
   split at q
   ·cases q
   ·rename_i hz
    split at q
    ·rename_i hb;exact hst ⟨hb,λe=>hz (by unfold Du;omega)⟩
    ·split at q <;> cases q
end
section
variable{p s m:Int}{T:List Int}{kds:List (Ae×D)}{ks:List D}{d:D}{v:Int}
def bx_4{Δ:SE}(tl:T.length<=1000):Et [0] (Cg "table" 0 [("Living",b_3)] (Aa 0) Ac) (.lt (Aj p s m T kds)::Δ)=.ok (.lst (T.map .int)) (.lt (Aj p s m T kds)::Δ):=
 v_6 (w:=.ow (.lst (T.map .int))) ((met0 rfl nofun).trans (ab_6 tl)) (ai_9 (y_6 T))
def ck_7(h:KOk kds ks){Δ:SE}:Et [0] (Cg "kept" 0 [("Living",d_3)] (Aa 0) Ac) (.lt (Aj p s m T kds)::Δ)=.ok (.lst (r_8 kds ks)) (.lt (Aj p s m T kds)::Δ):=
 v_6 (w:=.ow (.lst (r_8 kds ks))) ((met0 rfl nofun).trans (bi_9 h)) (ai_9 (y_5 λx hx=>(bd_2 h x hx).1))
def ck_8(h:KOk kds ks):Di (Tn.of (.dic kds))=true:=by
 have all:∀l:List (Ae×D),(∀q∈l,q∈kds)->p_9 (l.map λp=>(p.1,Tn.sh p.2))=true:=λl=>by
  induction l with
  |nil=>intro _;simp only[N0,p_9]
  |cons q l ih=>
   intro hq;obtain⟨n,e⟩:=h.val q (hq q D5);simp only[A8,p_9,Di,e,Do,ih λx hx=>hq x (C7 _ hx),L9]
 show Di (.dic (kds.map λp=>(p.1,Tn.sh p.2)))=true;simp only[Di,all kds λ_ h=>h]
def bx_5(h:KOk kds ks):Dz (kds.map (Ct s p))=true:=y_5 λx hx=>by
 obtain⟨q,hq,rfl⟩:=D3.mp hx;obtain⟨n,e⟩:=h.val q hq;unfold Ct;rw[e];simp only[Do,Dz,L9]
def be_0{t:Tn}{Δ:SE}:j_0 [1] (.lt t:: .lt (Tn.of (.dic kds))::Δ)=true:=by
 show((Tn.of (.dic kds)).lends && true)=true;rw[bd_7];rfl
def dj_5{t:Tn}{Δ:SE}:x_9 [1] (.lt t:: .lt (Tn.of (.dic kds))::Δ)=none::some (.dic kds)::At Δ:=by
 show none::some (Tn.of (.dic kds)).d::v_1 [1] 2 Δ=_;rw[Tn.of_d,ax_1 [1] Δ 2 (by simp)]
def dr_2{f g:FS}{Δ Δ':SE}{x:D}(e:f Δ=.rv x Δ'):Ag f g Δ=.rv x Δ':=by
 unfold Ag;rw[e]
abbrev Dh(t:Tn)(K:List (Ae×D))(sz tb d:D)(v:Int)(a6 a7 a8 a9 a10 a11:Sl):SE:=[.lt t,.lt (Tn.of (.dic K)),.sh sz,.sh tb,.sh d,.sh (.int v),a6,a7,a8,a9,a10,a11]
def bj_3(z:Szs p s m T)(h:KOk kds ks)(t:Told p s m T kds)(hd:Bo d)(v0:0<=v)(v1:v < m)(hl:ks.length < 24){M:Nat}(hM:m=(M:Int))(hL:(Be M T.length).length<=531441):∃(T':List Int) (aa:List (Ae×D)) (ks':List D),g_0 (Aj p s m T kds) kds [Cf p s m,Bi (Be M T.length),d,.int v]=.ok (.bl true) (Aj p s m T' aa) aa/\Szs p s m T'/\KOk aa ks'/\Told p s m T' aa/\ks'.length<=ks.length + 1/\T'.length=T.length:=by
 have p1:=z.p1;have tl:=z.tl;have h':=h.put (v:=v) hd hl;have zk:kds.length < 16777216:=by rw[h.length];omega
 have hTm:T∈Be M T.length:=tabs_mem.mpr ⟨rfl,λx hx=>by have:=t.rng x hx;omega⟩;obtain⟨B1,B2,s1,s2,ep⟩:=bx_3 z h hd v0 v1;have pl:=ck_6 z h t hd v0 v1 hl hM s1 s2;have ef:=ck_5 z h' hM rfl hTm hL;have i2:Bk (Cf p s m) (.int 2)=.ok (.sh (.int m)):=rfl;generalize hres:resD (l_7 s p m T (By kds (Aw d) (.int v)) (Be M T.length))=res at pl ef;have fu:Bf res=true:=by
  rcases pl with⟨_,e⟩|⟨c,T',_,_,_,e,_⟩ <;> (rw[e];rfl)
 generalize hsz:Cf p s m=sz at ef i2⊢;generalize htb:Bi (Be M T.length)=tb at ef⊢
 let K':=By kds (Aw d) (.int v)
 let bf:Sl:=.sh (.lst (T.map .int))
 let hdS:Sl:=.sh (.lst (r_8 kds ks))
 have q1:v_3 (aq_9 12 (Aj p s m T kds) kds [sz,tb,d,.int v])=.nx (Dh (Aj p s m T kds) kds sz tb d v bf .no .no .no .no .no):=by
  show Ei 6 _ (.lt (Aj p s m T kds):: [.lt (Tn.of (.dic kds)),.sh sz,.sh tb,.sh d,.sh (.int v),.no,.no,.no,.no,.no,.no])=_;unfold Ei;rw[bx_4 ()];rfl
 have q2:o_2 (Dh (Aj p s m T kds) kds sz tb d v bf .no .no .no .no .no)=.nx (Dh (Aj p s m T kds) kds sz tb d v bf hdS .no .no .no .no):=by
  unfold o_2 Ei;rw[ck_7 h];rfl
 have q3:o_3 (Dh (Aj p s m T kds) kds sz tb d v bf hdS .no .no .no .no)=.nx (Dh (Aj p s m T kds) kds sz tb d v bf hdS (.ow (.dic kds)) .no .no .no):=by
  have pw:o_1 (.ow (.dic kds))=true:=ck_8 h;unfold o_3 cc_7;rw[be_0,if_pos rfl,dj_5,show∀δ:DE,An cu_3 #v[1] (none::some (.dic kds)::δ)=.ok (.ow (.dic kds)) from λ_=>rfl];simp only[pw,if_true];rfl
 have q4:v_4 (Dh (Aj p s m T kds) kds sz tb d v bf hdS (.ow (.dic kds)) .no .no .no)=.nx (Dh (Aj p s m T kds) kds sz tb d v bf hdS (.ow (.dic K')) .no .no .no):=by
  show(match Ee d with
   |some k'=>if kds.length < 16777216 then Fl.nx (Dh (Aj p s m T kds) kds sz tb d v bf hdS (.ow (.dic (By kds k' (.int v)))) .no .no .no) else .no
   |none=> .no)=_
  rw[u_2 hd];simp only[zk,if_true];rfl
 have q5:o_4 (Dh (Aj p s m T kds) kds sz tb d v bf hdS (.ow (.dic K')) .no .no .no)=.nx (Dh (Aj p s m T kds) kds sz tb d v bf hdS (.ow (.dic K')) (.sh res) .no .no):=by
  have f1:∀δ0 δ1 δ4 δ5 δ7 δ9 δ10 δ11,Bl 4 l_4 #v[3,6,8,2] [δ0,δ1,some sz,some tb,δ4,δ5,some (.lst (T.map .int)),δ7,some (.dic K'),δ9,δ10,δ11]=.ok (.sh res):=λ_ _ _ _ _ _ _ _=>ef;have f0:∀δ0 δ1 δ4 δ5 δ7 δ9 δ10 δ11,Bl 4 l_4 #v[3,6,8,2] [δ0,δ1,some sz,some tb,δ4,δ5,some (.lst (T.map .int)),δ7,none,δ9,δ10,δ11]=.no:=λ_ _ _ _ _ _ _ _=>rfl;unfold o_4 Al;rw[show At (Dh (Aj p s m T kds) kds sz tb d v bf hdS (.ow (.dic K')) .no .no .no)= [none,none,some sz,some tb,some d,some (.int v),some (.lst (T.map .int)),some (.lst (r_8 kds ks)),none,none,none,none] from rfl,f0,
   show Ba (Dh (Aj p s m T kds) kds sz tb d v bf hdS (.ow (.dic K')) .no .no .no)= [some (Aj p s m T kds).d,some (Tn.of (.dic kds)).d,some sz,some tb,some d,some (.int v),some (.lst (T.map .int)),some (.lst (r_8 kds ks)),some (.dic K'),none,none,none] from rfl,f1]
  exact(if_pos (show Bf (W.sh res).d=true from fu)).trans rfl
 have g1:=cw_2 (n:=2) (p:=p) (s:=s) (m:=m) (T:=T) (kds:=kds) (M:=n_7) (ga:=Bw (Aa 4) (Bw (Aa 5) Ff)) (Δ:=[.lt (Tn.of (.dic kds)),.sh sz,.sh tb,.sh d,.sh (.int v),bf,hdS,.ow (.dic K'),.sh res,.no,.no]) (ds:=[d,.int v]) rfl rfl;rw[ep]at g1;have q6:∀(x:D) (t':Tn),putS (Cq p s m v T kds d B1 B2)=.ok x t'->o_5 (Dh (Aj p s m T kds) kds sz tb d v bf hdS (.ow (.dic K')) (.sh res) .no .no)=.nx (Dh t' kds sz tb d v bf hdS (.ow (.dic K')) (.sh res) (.sh x) .no):=λx t' e1=>by
  rw[e1]at g1;unfold o_5 Ei k_3;rw[show gsome [4,5] (Dh (Aj p s m T kds) kds sz tb d v bf hdS (.ow (.dic K')) (.sh res) .no .no)=Dh (Aj p s m T kds) kds sz tb d v bf hdS (.ow (.dic K')) (.sh res) .no .no from rfl,g1];rfl
 have eT:Dd (.lst (T.map .int)) (.lst (T.map .int))=.ok (.sh (.bl true)):=aw_3 2 (F0.mpr λx hx=>by obtain⟨i,_,rfl⟩:=D3.mp hx;rfl);have eK:Dd (.lst (r_8 kds ks)) (.lst (r_8 kds ks))=.ok (.sh (.bl true)):=aw_3 2 (F0.mpr λx hx=>(bd_2 h x hx).2);unfold g_0 av_6 z_3;rw[Bg q1,Bg q2,Bg q3,Bg q4,Bg q5];rcases pl with⟨er,e⟩|⟨c,T',tl',tt,er,e,ec⟩
 ·subst e;rw[Bg (q6 (.str "stuck") _ (by rw[er];rfl))];have ne:Fa (.str "stuck") (.str "stuck")=.ok (.sh (.bl false)):=by rw[cb_0];simp
  have ee:Dd (.str "stuck") (.str "stuck")=.ok (.sh (.bl true)):=by rw[dc_7];simp
  have q7:i_3 (Dh (Aj p s m T kds) kds sz tb d v bf hdS (.ow (.dic K')) (.sh (.str "stuck")) (.sh (.str "stuck")) .no)=.nx (Dh (Aj p s m T kds) kds sz tb d v bf hdS (.ow (.dic K')) (.sh (.str "stuck")) (.sh (.str "stuck")) .no):=by
   simp![i_3,Ao,Sl.any,ne]
  have q8:i_4 (Dh (Aj p s m T kds) kds sz tb d v bf hdS (.ow (.dic K')) (.sh (.str "stuck")) (.sh (.str "stuck")) .no)=.rv (.bl true) (Dh (Aj p s m T kds) kds sz tb d v bf hdS (.ow (.dic K')) (.sh (.str "stuck")) (.sh (.str "stuck")) .no):=by
   have e1:∀δ,Cg "table" 0 [("Living",b_3)] (Aa 0) Ac (some (Cb p s m T kds)::δ)=.ok (.ow (.lst (T.map .int))):=λ δ=>(met0 rfl nofun).trans (ab_6 ());have e2:∀δ,Cg "kept" 0 [("Living",d_3)] (Aa 0) Ac (some (Cb p s m T kds)::δ)=.ok (.ow (.lst (r_8 kds ks))):=λ δ=>(met0 rfl nofun).trans (bi_9 h);unfold i_4 Bx
   simp![Ao,Sl.any,ee]
   unfold r_6;rw[v_6 (w:=.sh (.bl true)) (by simp![Ao,Sl.pub,bf,hdS,e1,e2,eT,eK]) rfl];rfl
  refine⟨T,kds,ks, ?_,z,h,t,L6 _,rfl⟩;rw[Bg q7,dr_2 q8];show(match unS (kds.map λp=>(p.1,Tn.sh p.2)) with|some k=>RR2.ok (.bl true) (Aj p s m T kds) k|none=> .no)=_;rw[am_5]
 ·subst e;have z':Szs p s m T':=⟨z.p0,z.p1,z.s0,z.s1,z.m0,z.m1,by rw[tl'];exact z.tl⟩;rw[Bg (q6 (.int c) _ (by rw[er];rfl))];have ne:Fa (.int c) (.int c)=.ok (.sh (.bl false)):=by rw[ah_2,D9 rfl];rfl
  have ee:=cw_9 c;have q7:i_3 (Dh (Aj p s m T' K') kds sz tb d v bf hdS (.ow (.dic K')) (.sh (.int c)) (.sh (.int c)) .no)=.nx (Dh (Aj p s m T' K') kds sz tb d v bf hdS (.ow (.dic K')) (.sh (.int c)) (.sh (.int c)) .no):=by
   simp![i_3,Ao,Sl.any,ne]
  have q8:i_4 (Dh (Aj p s m T' K') kds sz tb d v bf hdS (.ow (.dic K')) (.sh (.int c)) (.sh (.int c)) .no)=.nx (Dh (Aj p s m T' K') kds sz tb d v bf hdS (.ow (.dic K')) (.sh (.int c)) (.sh (.int c)) .no):=by
   simp![i_4,Ao,Sl.any,ee]
  have q9:o_6 (Dh (Aj p s m T' K') kds sz tb d v bf hdS (.ow (.dic K')) (.sh (.int c)) (.sh (.int c)) .no)=.nx (Dh (Aj p s m T' K') K' sz tb d v bf hdS (.ow (.dic K')) (.sh (.int c)) (.sh (.int c)) .no):=by
   have ax:Sl.dct (.lt (Tn.of (.dic kds)))=some (kds,true):=by
    show(unS (kds.map λp=>(p.1,Tn.sh p.2))).map _=_;rw[am_5];rfl
   unfold o_6 cc_6
   simp![Dh,O5,M7,Option.bind_some,ax,Ao,Sl.pub,u_2 hd,zk,if_true]
   rfl
  have q10:m_7 (Dh (Aj p s m T' K') K' sz tb d v bf hdS (.ow (.dic K')) (.sh (.int c)) (.sh (.int c)) .no)=.nx (Dh (Aj p s m T' K') K' sz tb d v bf hdS (.ow (.dic K')) (.sh (.int c)) (.sh (.int c)) (.sh (.lst (K'.map (Ct s p))))):=by
   subst hsz;have wc:=bd_8 (e1:=v_2) (n:=12) (i:=1) z h' (δ:=[none,some (.dic K'),some (Cf p s m),some tb,some d,some (.int v),some (.lst (T.map .int)),some (.lst (r_8 kds ks)),none,some (.int c),some (.int c),none]) rfl (λ_ _=>rfl) (λ_ _=>rfl);have pw:o_1 (.ow (.lst (K'.map (Ct s p))))=true:=ai_9 (bx_5 h');unfold m_7 bq_0;rw[be_0,if_pos rfl,dj_5,show At [.sh (Cf p s m),.sh tb,.sh d,.sh (.int v),bf,hdS,.ow (.dic K'),.sh (.int c),.sh (.int c),.no]= [some (Cf p s m),some tb,some d,some (.int v),some (.lst (T.map .int)),some (.lst (r_8 kds ks)),none,some (.int c),some (.int c),none] from rfl,wc];exact(if_pos pw).trans rfl
  rw[Bg q7,Bg q8,Bg q9,Bg q10];have q11:m_8 (Dh (Aj p s m T' K') K' sz tb d v bf hdS (.ow (.dic K')) (.sh (.int c)) (.sh (.int c)) (.sh (.lst (K'.map (Ct s p)))))=.rv (.bl true) (Dh (Aj p s m T' K') K' sz tb d v bf hdS (.ow (.dic K')) (.sh (.int c)) (.sh (.int c)) (.sh (.lst (K'.map (Ct s p))))):=by
   have e1:∀δ,Cg "table" 0 [("Living",b_3)] (Aa 0) Ac (some (Cb p s m T' K')::δ)=.ok (.ow (.lst (T'.map .int))):=λ δ=>(met0 rfl nofun).trans (ab_6 ());have ea:=br_0 (T:=T) (U:=T') tl' ();rw[ec]at ea;have et:h_8 [.lst (T'.map .int),.lst (K'.map (Ct s p)),.int m]=.ok (.sh (.bl true)):=by
    have e:=aj_2 z' h';rw[show(By kds (Aw d) (.int v)).all (okQ s p m T')=true from br_2 h' tt]at e;exact e
   have e0:Dd (.int c) (.int c)=.ok (.sh (.bl true)):=by rw[k_0];simp
   unfold m_8 r_6;rw[v_6 (w:=.sh (.bl true)) (by simp![Ao,Sl.pub,bf,hdS,e1,ea,e0,i2,et]) rfl];rfl
  rw[q11];refine⟨T',K',_, ?_,z',h',tt, ?_,tl'⟩
  ·show(match unS (K'.map λp=>(p.1,Tn.sh p.2)) with|some k=>RR2.ok (.bl true) (Aj p s m T' K') k|none=> .no)=_;rw[am_5]
  ·split
   ·omega
   ·rw[B8];simp only[B4,J8];omega
end
section
variable{p s m:Int}{T:List Int}{kds:List (Ae×D)}{ks:List D}{nsD c1 sz tb:D}{k:Int}{a3 a7 a8 a9 a10 a11 a12:Sl}
def dw_4{i n:Nat}{mn:Str}{M:Tn->List D->RR}{ga:SE->R (List D)}{Δ:SE}{ds:List D}(hb:(Δ[i]?).bind Sl.tree=some (Aj p s m T kds,false))(hm:lN.contains mn=false)(hg:ga Δ=.ok ds)(hl:ds.length=n):r_7 i n mn "Living" M ga Δ=goR i false Δ (M (Aj p s m T kds) ds):=by
 unfold r_7;rw[hb];unfold Aj;simp only[hm,ZC3,if_true,hg,hl]
def dh_6{i j n:Nat}(hij:i≠j){M:Tn->List (Ae×D)->List D->RR2}{ga:SE->R (List D)}{Δ:SE}{ds:List D}{k2:List (Ae×D)}(hb:(Δ[i]?).bind Sl.tree=some (Aj p s m T kds,false))(hb2:(Δ[j]?).bind Sl.dct=some (k2,false))(hg:ga Δ=.ok ds)(hl:ds.length=n):ai_0 i j n M ga Δ=goR2 i j false false Δ (M (Aj p s m T kds) k2 ds):=by
 unfold ai_0;rw[hb,hb2];unfold Aj;simp only[hg,hl,if_true,hij,T6]
abbrev Ds(nsD c1 sz:D)(a3:Sl)(t:Tn)(kds:List (Ae×D))(k:Int)(a7 a8 a9 a10 a11 a12:Sl):SE:=[.sh nsD,.sh c1,.sh sz,a3,.tr t,.ow (.dic kds),.sh (.int k),a7,a8,a9,a10,a11,a12]
def dr_3{t:Tn}:j_0 [5] (Ds nsD c1 sz a3 t kds k a7 a8 a9 a10 a11 a12)=true:=by
 show((Tn.of (.dic kds)).lends && true)=true;rw[bd_7];rfl
def dr_4:j_0 [4] (Ds nsD c1 sz a3 (Aj p s m T kds) kds k a7 a8 a9 a10 a11 a12)=true:=by
 show((Aj p s m T kds).lends && true)=true;rw[aw_6];rfl
def cx_6(ns:List Int)(hns:ns.length<=63)(hk0:0<=k)(hk1:k<=24)(z:Szs p s m T)(h:KOk kds ks)(t:Told p s m T kds)(hl:ks.length < 24){M n:Nat}(hM:m=(M:Int))(hn:T.length=n)(hL:(Be M n).length<=531441)(h3:a3=.ow (Bi (Be M n))\/a3=.sh (Bi (Be M n))):
  ∃(T':List Int) (aa:List (Ae×D)) (ks':List D) (b3 b9 b10 b11 b12:Sl),ar_1 (Ds (.lst (ns.map .int)) c1 (Cf p s m) a3 (Aj p s m T kds) kds k a7 a8 a9 a10 a11 a12)=.nx (Ds (.lst (ns.map .int)) c1 (Cf p s m) b3 (Aj p s m T' aa) aa k a7 a8 b9 b10 b11 b12)/\Szs p s m T'/\KOk aa ks'/\Told p s m T' aa/\ks'.length<=ks.length + 1/\T'.length=n/\(b3=.ow (Bi (Be M n))\/b3=.sh (Bi (Be M n))):=by
 have p1:=z.p1;have tl:=z.tl;obtain⟨b,d,v,ed,hb,hd,v0,v1⟩:=dh_3 (p:=p) (s:=s) ns k hk0 () () h z.m0 z.m1;have ed:l_0 [.lst (ns.map .int),.int 3,.int k,.dic kds,Cf p s m]=.ok (.sh (.tup [.int b,d,.int v])):=ed;have hkd:=u_2 hd;have edr:Cn kds (Aw d)=true->f_1 (Aj p s m T kds) [d]=.ok .non (Aj p s m T (Dn kds (Aw d))):=cv_8 hd;have ld:=λT' aa=>ab_5 (p:=p) (s:=s) (m:=m) (T:=T') (kds:=aa);subst hn;have pr:=bj_3 z h t hd v0 v1 hl hM hL;generalize hnD:D.lst (ns.map .int)=nD at *
 generalize hsz:Cf p s m=sz at *
 have q1:bp_5 (bc_0 [10,11,12]) (Et [5] (Bl 5 l_0 #v[0,eC (.int 3),6,5,2])) (Ds nD c1 sz a3 (Aj p s m T kds) kds k a7 a8 a9 a10 a11 a12)=.nx (Ds nD c1 sz a3 (Aj p s m T kds) kds k a7 a8 a9 (.sh (.int b)) (.sh d) (.sh (.int v))):=by
  have g1:∀δ3 δ7 δ8 δ9 δ10 δ11 δ12:Option D,Bl 5 l_0 #v[0,eC (.int 3),6,5,2] [some nD,some c1,some sz,δ3,none,some (.dic kds),some (.int k),δ7,δ8,δ9,δ10,δ11,δ12]=.ok (.sh (.tup [.int b,d,.int v])):=λ_ _ _ _ _ _ _=>by
   simp![Ao,ed]
  have pd:o_1 (.sh (.tup [.int b,d,.int v]))=true:=by
   show Do (.tup [.int b,d,.int v])=true;simp only[Do,Dz,am_7 hd,L9]
  unfold bp_5 Et;rw[dr_3,if_pos rfl,show x_9 [5] (Ds nD c1 sz a3 (Aj p s m T kds) kds k a7 a8 a9 a10 a11 a12)= [some nD,some c1,some sz,a3.pub,none,some (.dic kds),some (.int k),a7.pub,a8.pub,a9.pub,a10.pub,a11.pub,a12.pub] from rfl,g1];simp only[pd,if_true];rfl
 have q2:Ei 9 (Et [4] (Cg "table" 0 [("Living",b_3)] (Aa 4) Ac)) (Ds nD c1 sz a3 (Aj p s m T kds) kds k a7 a8 a9 (.sh (.int b)) (.sh d) (.sh (.int v)))=.nx (Ds nD c1 sz a3 (Aj p s m T kds) kds k a7 a8 (.sh (.lst (T.map .int))) (.sh (.int b)) (.sh d) (.sh (.int v))):=by
  have g1:∀δ3 δ7 δ8 δ9 δ10 δ11 δ12:Option D,Cg "table" 0 [("Living",b_3)] (Aa 4) Ac [some nD,some c1,some sz,δ3,some (Cb p s m T kds),none,some (.int k),δ7,δ8,δ9,δ10,δ11,δ12]=.ok (.ow (.lst (T.map .int))):=λ_ _ _ _ _ _ _=>(met0 rfl nofun).trans (ab_6 ());have hv:x_9 [4] (Ds nD c1 sz a3 (Aj p s m T kds) kds k a7 a8 a9 (.sh (.int b)) (.sh d) (.sh (.int v)))= [some nD,some c1,some sz,a3.pub,some (Cb p s m T kds),none,some (.int k),a7.pub,a8.pub,a9.pub,some (.int b),some d,some (.int v)]:=by
   rw[<-ld];rfl
  have pw:o_1 (.ow (.lst (T.map .int)))=true:=ai_9 (y_6 T);unfold Ei Et;rw[dr_4,if_pos rfl,hv,g1];simp only[pw,if_true];rfl
 have lk:Fo [.dic kds]=.ok (.sh (.int (kds.length:Int))):=rfl;have ht:∀g1 g2:FS,Bx [5,10,11] (Eb (Ak (Af (Dm false) (Aa 11) (Aa 5))) (tOrF (Ak (Af Dd (Aa 10) (eC (.int 1)))) (Ak (Af gtD (An Fo #v[5]) (eC (.int 8)))))) g1 g2 (Ds nD c1 sz a3 (Aj p s m T kds) kds k a7 a8 (.sh (.lst (T.map .int))) (.sh (.int b)) (.sh d) (.sh (.int v)))=if Cn kds (Aw d)=true/\(b=1\/(8:Int) < kds.length) then g1 (Ds nD c1 sz a3 (Aj p s m T kds) kds k a7 a8 (.sh (.lst (T.map .int))) (.sh (.int b)) (.sh d) (.sh (.int v))) else g2 (Ds nD c1 sz a3 (Aj p s m T kds) kds k a7 a8 (.sh (.lst (T.map .int))) (.sh (.int b)) (.sh d) (.sh (.int v))):=λg1 g2=>by
  cases hh:Cn kds (Aw d) with
  |false=>simp![Ao,Sl.any,Dm,hkd,hh,N6,false_and]
  |true=>
   rcases hb with rfl|rfl
   ·have n1:¬(0:Int)=1:=by decide
    by_cases h8:(8:Int) < kds.length
    ·simp![Ao,Sl.any,Dm,hkd,hh,k_0,n1,lk,cb_1,h8,true_and,false_or]
    ·simp![Ao,Sl.any,Dm,hkd,hh,k_0,n1,lk,cb_1,h8,true_and,false_or]
   ·simp![Ao,Sl.any,Dm,hkd,hh,k_0,true_and,true_or]
 unfold ar_1;rw[Bg q1,Bg q2,ht]
 by_cases hc:Cn kds (Aw d)=true/\(b=1\/(8:Int) < kds.length)
 ·rw[if_pos hc];have g1:=dw_4 (i:=4) (p:=p) (s:=s) (m:=m) (T:=T) (kds:=kds) (n:=1) (M:=f_1) (mn:= "drop") (ga:=Bw (Aa 11) Ff) (Δ:=Ds nD c1 sz a3 (Aj p s m T kds) kds k a7 a8 (.sh (.lst (T.map .int))) (.sh (.int b)) (.sh d) (.sh (.int v))) (ds:=[d]) rfl nofun rfl rfl;rw[edr hc.1]at g1;have q4:t_4 (k_3 [11] (r_7 4 1 "drop" "Living" f_1 (Bw (Aa 11) Ff))) (Ds nD c1 sz a3 (Aj p s m T kds) kds k a7 a8 (.sh (.lst (T.map .int))) (.sh (.int b)) (.sh d) (.sh (.int v)))=.nx (Ds nD c1 sz a3 (Aj p s m T (Dn kds (Aw d))) kds k a7 a8 (.sh (.lst (T.map .int))) (.sh (.int b)) (.sh d) (.sh (.int v))):=by
   unfold t_4 k_3;rw[show gsome [11] (Ds nD c1 sz a3 (Aj p s m T kds) kds k a7 a8 (.sh (.lst (T.map .int))) (.sh (.int b)) (.sh d) (.sh (.int v)))=Ds nD c1 sz a3 (Aj p s m T kds) kds k a7 a8 (.sh (.lst (T.map .int))) (.sh (.int b)) (.sh d) (.sh (.int v)) from rfl,g1];rfl
  have q5:cc_1 5 (Aa 11) (Ds nD c1 sz a3 (Aj p s m T (Dn kds (Aw d))) kds k a7 a8 (.sh (.lst (T.map .int))) (.sh (.int b)) (.sh d) (.sh (.int v)))=.nx (Ds nD c1 sz a3 (Aj p s m T (Dn kds (Aw d))) (Dn kds (Aw d)) k a7 a8 (.sh (.lst (T.map .int))) (.sh (.int b)) (.sh d) (.sh (.int v))):=by
   show(match Ee d with
    |some k'=>if(Bh kds k').isSome=true then Fl.nx (Ds nD c1 sz a3 (Aj p s m T (Dn kds (Aw d))) (Dn kds k') k a7 a8 (.sh (.lst (T.map .int))) (.sh (.int b)) (.sh d) (.sh (.int v))) else .no
    |none=> .no)=_
   rw[hkd];have:=hc.1;unfold Cn at this;simp only[this,if_true]
  have q6:Bx [4,9] (Ak (Af Fa (Cg "table" 0 [("Living",b_3)] (Aa 4) Ac) (Aa 9))) (Az [] (eC (.bl false))) Bc (Ds nD c1 sz a3 (Aj p s m T (Dn kds (Aw d))) (Dn kds (Aw d)) k a7 a8 (.sh (.lst (T.map .int))) (.sh (.int b)) (.sh d) (.sh (.int v)))=.nx (Ds nD c1 sz a3 (Aj p s m T (Dn kds (Aw d))) (Dn kds (Aw d)) k a7 a8 (.sh (.lst (T.map .int))) (.sh (.int b)) (.sh d) (.sh (.int v))):=by
   have e1:∀δ0 δ1 δ2 δ3 δ,Cg "table" 0 [("Living",b_3)] (Aa 4) Ac (δ0::δ1::δ2::δ3::some (Cb p s m T (Dn kds (Aw d)))::δ)=.ok (.ow (.lst (T.map .int))):=λ_ _ _ _ _=>(met0 rfl nofun).trans (ab_6 ());have nT:Fa (.lst (T.map .int)) (.lst (T.map .int))=.ok (.sh (.bl false)):=cu_5 2 (F0.mpr λx hx=>by obtain⟨i,_,rfl⟩:=D3.mp hx;rfl)
   simp![Ao,Sl.any,ld,e1,nT]
  exact⟨T,_,_,a3,_,_,_,_,(Bg q4).trans ((Bg q5).trans q6),z,h.drop,ck_3 t,C5 (P4 _ _) (L6 _),rfl,h3⟩
 ·rw[if_neg hc];have ht2:∀g1 g2:FS,Bx [5,11] (tOrF (Ak (Af ltD (An Fo #v[5]) (eC (.int 8)))) (Ak (Af (Dm false) (Aa 11) (Aa 5)))) g1 g2 (Ds nD c1 sz a3 (Aj p s m T kds) kds k a7 a8 (.sh (.lst (T.map .int))) (.sh (.int b)) (.sh d) (.sh (.int v)))=if(kds.length:Int) < 8\/Cn kds (Aw d)=true then g1 (Ds nD c1 sz a3 (Aj p s m T kds) kds k a7 a8 (.sh (.lst (T.map .int))) (.sh (.int b)) (.sh d) (.sh (.int v))) else g2 (Ds nD c1 sz a3 (Aj p s m T kds) kds k a7 a8 (.sh (.lst (T.map .int))) (.sh (.int b)) (.sh d) (.sh (.int v))):=λg1 g2=>by
   by_cases h8:(kds.length:Int) < 8
   ·simp![Ao,Sl.any,lk,Ez,h8,true_or]
   ·cases hh:Cn kds (Aw d) with
    |false=>simp![Ao,Sl.any,lk,Ez,h8,Dm,hkd,hh,N6,or_self]
    |true=>simp![Ao,Sl.any,lk,Ez,h8,Dm,hkd,hh,or_true]
  rw[ht2]
  by_cases hc2:(kds.length:Int) < 8\/Cn kds (Aw d)=true
  ·rw[if_pos hc2];obtain⟨T',aa,ks',e,z',h',t',l',tl'⟩:=pr;have g1:=dh_6 (i:=4) (j:=5) ⋯ (p:=p) (s:=s) (m:=m) (T:=T) (kds:=kds) (k2:=kds) (n:=4) (M:=g_0) (ga:=Bw (Aa 2) (Bw (Aa 3) (Bw (Aa 11) (Bw (Aa 12) Ff)))) (Δ:=Ds nD c1 sz (.sh (Bi (Be M T.length))) (Aj p s m T kds) kds k a7 a8 (.sh (.lst (T.map .int))) (.sh (.int b)) (.sh d) (.sh (.int v))) (ds:=[sz,Bi (Be M T.length),d,.int v]) rfl rfl rfl rfl;rw[e]at g1;refine⟨T',aa,ks',.sh (Bi (Be M T.length)),.sh (.lst (T.map .int)),.sh (.int b),.sh d,.sh (.int v), ?_,z',h',t',l',tl',.inr rfl⟩;have gs:gsome [2,3,11,12] (Ds nD c1 sz a3 (Aj p s m T kds) kds k a7 a8 (.sh (.lst (T.map .int))) (.sh (.int b)) (.sh d) (.sh (.int v)))=Ds nD c1 sz (.sh (Bi (Be M T.length))) (Aj p s m T kds) kds k a7 a8 (.sh (.lst (T.map .int))) (.sh (.int b)) (.sh d) (.sh (.int v)):=by
    rcases h3 with rfl|rfl <;> rfl
   unfold sIfM mNot cc_0 k_3;rw[gs,g1];rfl
  ·rw[if_neg hc2];exact⟨T,kds,ks,a3,_,_,_,_,rfl,z,h,t,L6 _,rfl,h3⟩
end
def cx_7{n k:Nat}{d:D}(e:(Ga 0 n)[k]? =some d):d=.int (k:Int)/\k < n:=by
 obtain⟨h,rfl⟩:=ak_5 e;exact⟨by rw[Int.zero_add],h⟩
def dh_7(ns:List Int)(hn:ns.length<=63):∃z:Int,p_5 [.lst (ns.map .int),.int 3,.int 24]=.ok (.sh (.int z))/\0<=z/\z<=24:=by
 have ec:=ai_6 ns 2 ⋯ ⋯;refine⟨min 24 (max (max 0 ((ns.length:Int) - 3)) (Fs ns 2 % 25)), ?_,by omega,by omega⟩
 simp![p_5,av_8,Ao,s_0,A3,ae_9,k_7,cq_7,do_5,Cy (show(0:Int) < 25 by decide),ec,show(3:Int) - 1=2 from rfl,show(24:Int) + 1=25 from rfl]
abbrev pmD(a b:Int):D:=.tup [.int a,.int b]
def pick(c:Int):∃P M:Nat,Bk (.lst [pmD 1 2,pmD 1 9,pmD 2 2,pmD 2 3,pmD 2 4,pmD 3 2,pmD 3 2,pmD 2 3]) (.int (c % 8))=.ok (.sh (pmD (P:Int) (M:Int)))/\1<=P/\P<=3/\2<=M/\M<=9:=by
 have h:c % 8=0\/c % 8=1\/c % 8=2\/c % 8=3\/c % 8=4\/c % 8=5\/c % 8=6\/c % 8=7:=by omega
 rcases h with h|h|h|h|h|h|h|h <;> rw[h]
 ·exact⟨1,2,rfl,by decide,by decide,by decide,by decide⟩
 ·exact⟨1,9,rfl,by decide,by decide,by decide,by decide⟩
 ·exact⟨2,2,rfl,by decide,by decide,by decide,by decide⟩
 ·exact⟨2,3,rfl,by decide,by decide,by decide,by decide⟩
 ·exact⟨2,4,rfl,by decide,by decide,by decide,by decide⟩
 ·exact⟨3,2,rfl,by decide,by decide,by decide,by decide⟩
 ·exact⟨3,2,rfl,by decide,by decide,by decide,by decide⟩
 ·exact⟨2,3,rfl,by decide,by decide,by decide,by decide⟩
def cx_8(ns:List Int)(hn:ns.length<=63):∃v,di_9 [.lst (ns.map .int)]=.ok v/\v.d=.bl true:=by
 obtain⟨p9,s,m9,es,_,_,s0,s1,_,_⟩:=cu_9 ns;have ec:=ai_6 ns 1 ⋯ ⋯;have em:=af_5 (Fs ns 1) 9 ⋯ ⋯;generalize mixZ (Fs ns 1) 9=c at em;obtain⟨P,M,ep,P0,P1,M0,M1⟩:=pick c;have ei:=dg_8 (p:=(P:Int)) (s:=s) (m:=(M:Int)) () ();obtain⟨w,ew,hw0,hw⟩:=dh_7 ns hn;have at_:=az_3 (n:=2 * P) (m:=M) M1 ();have z0:Szs (P:Int) s (M:Int) (List.replicate (2 * (P:Int)).toNat 0):=⟨by omega,by omega,s0,by omega,by omega,by omega,by rw[K6];omega⟩;have hL:(Be M (2 * P)).length<=531441:=by
  rw[aj_1];exact C5 (Nat.pow_le_pow_left M1 _) (C5 (Nat.pow_le_pow_right ⋯ (show 2 * P<=6 by omega)) ⋯)
 have k0:KOk [] []:=⟨λ_ h=>(T3 h).elim,List.nodup_nil,rfl,λ_ h=>(T3 h).elim,by decide⟩;have t0:Told (P:Int) s (M:Int) (List.replicate (2 * (P:Int)).toNat 0) []:=⟨λt ht=>by rw[List.eq_of_mem_replicate ht];omega,λd n _ e=>by cases e⟩
 let sz:D:=Cf (P:Int) s (M:Int)
 let tb:D:=Bi (Be M (2 * P))
 let I:Nat->SE->Prop:=λi Δ=>∃(T:List Int) (kds:List (Ae×D)) (ks:List D) (a3 a6 a9 a10 a11 a12:Sl),Δ= [.sh (.lst (ns.map .int)),.sh (.int c),.sh sz,a3,.tr (Aj (P:Int) s (M:Int) T kds),.ow (.dic kds),a6,.sh (.int (P:Int)),.sh (.int (M:Int)),a9,a10,a11,a12]/\Szs (P:Int) s (M:Int) T/\KOk kds ks/\Told (P:Int) s (M:Int) T kds/\ks.length<=i/\T.length=2 * P/\(a3=.ow tb\/a3=.sh tb)
 obtain⟨n,hn24,en⟩:∃n:Nat,n<=24/\w.toNat=n:=⟨w.toNat,by omega,rfl⟩;obtain⟨s3,h3,e4⟩:∃s3:Sl,(s3=.ow tb\/s3=.sh tb)/\ar_2 [.sh (.lst (ns.map .int)),.sh (.int c),.sh sz,.no,.no,.no,.no,.sh (.int (P:Int)),.sh (.int (M:Int)),.no,.no,.no,.no]=.nx [.sh (.lst (ns.map .int)),.sh (.int c),.sh sz,s3,.no,.no,.no,.sh (.int (P:Int)),.sh (.int (M:Int)),.no,.no,.no,.no]:=by
  have m2:=k_1 (m_6 (i:=2) (j:=(P:Int)) ⋯ ⋯);have e2:((2 * P:Nat):Int)=2 * (P:Int):=by omega
  rw[e2]at at_;rcases at_ with e|e
  ·exact⟨.ow tb,.inl rfl,by simp![ar_2,Ao,Sl.pub,m2,e,tb]⟩
  ·exact⟨.sh tb,.inr rfl,by simp![ar_2,Ao,Sl.pub,m2,e,tb]⟩
 obtain⟨Δ',e,T,kds,ks,a3,a6,a9,a10,a11,a12,rfl,z,h,t,_,_,_⟩:=s_6 (gV 6) ar_1 I (ds:=Ga 0 n) (Δ:=[.sh (.lst (ns.map .int)),.sh (.int c),.sh sz,s3,.tr (Aj (P:Int) s (M:Int) (List.replicate (2 * (P:Int)).toNat 0) []),.ow (.dic []),.no,.sh (.int (P:Int)),.sh (.int (M:Int)),.no,.no,.no,.no])
  ⟨_,[],[],s3,.no,.no,.no,.no,.no,rfl,z0,k0,t0,B5 _,by rw[K6];omega,h3⟩ (λi d Δ hd ⟨T,kds,ks,a3,a6,a9,a10,a11,a12,e,z,h,t,hl,hT,h3⟩=>by
   subst e;obtain⟨rfl,hi⟩:=cx_7 hd;obtain⟨T',aa,ks',b3,b9,b10,b11,b12,e,z',h',t',l',hT',h3'⟩:=cx_6 (c1:=.int c) (a7:=.sh (.int (P:Int))) (a8:=.sh (.int (M:Int))) (a9:=a9) (a10:=a10) (a11:=a11) (a12:=a12) (k:=(i:Int)) ns hn () () z h t () rfl hT hL h3;exact⟨_,rfl,_,.inl e,T',aa,ks',b3,_,b9,b10,b11,b12,rfl,z',h',t',by omega,hT',h3'⟩)
 have e1:bh_8 (Bb 13 [.lst (ns.map .int)])=.nx [.sh (.lst (ns.map .int)),.sh (.int c),.no,.no,.no,.no,.no,.no,.no,.no,.no,.no,.no]:=by
  simp![bh_8,Ao,ec,em]
 have e2:bh_9 [.sh (.lst (ns.map .int)),.sh (.int c),.no,.no,.no,.no,.no,.no,.no,.no,.no,.no,.no]=.nx [.sh (.lst (ns.map .int)),.sh (.int c),.no,.no,.no,.no,.no,.sh (.int (P:Int)),.sh (.int (M:Int)),.no,.no,.no,.no]:=by
  simp![bh_9,sUnp,Ao,Sl.pub,Cy (show(0:Int) < 8 by decide),ep,gP]
 have e3:bi_0 [.sh (.lst (ns.map .int)),.sh (.int c),.no,.no,.no,.no,.no,.sh (.int (P:Int)),.sh (.int (M:Int)),.no,.no,.no,.no]=.nx [.sh (.lst (ns.map .int)),.sh (.int c),.sh sz,.no,.no,.no,.no,.sh (.int (P:Int)),.sh (.int (M:Int)),.no,.no,.no,.no]:=by
  have i1:Bk (.tup [.int p9,.int s,.int m9]) (.int 1)=.ok (.sh (.int s)):=rfl
  simp![bi_0,Ao,Sl.pub,es,i1,sz,Cf]
 have i0:Bk (Cf (P:Int) s (M:Int)) (.int 0)=.ok (.sh (.int (P:Int))):=rfl;have i1:Bk (Cf (P:Int) s (M:Int)) (.int 1)=.ok (.sh (.int s)):=rfl;have i2:Bk (Cf (P:Int) s (M:Int)) (.int 2)=.ok (.sh (.int (M:Int))):=rfl;have e5:bi_1 [.sh (.lst (ns.map .int)),.sh (.int c),.sh sz,s3,.no,.no,.no,.sh (.int (P:Int)),.sh (.int (M:Int)),.no,.no,.no,.no]=.nx [.sh (.lst (ns.map .int)),.sh (.int c),.sh sz,s3,.tr (Aj (P:Int) s (M:Int) (List.replicate (2 * (P:Int)).toNat 0) []),.no,.no,.sh (.int (P:Int)),.sh (.int (M:Int)),.no,.no,.no,.no]:=by
  simp![bi_1,Ao,cs_7,sz,i0,i1,i2,ei]
  rfl
 have e6:cd_0 [.sh (.lst (ns.map .int)),.sh (.int c),.sh sz,s3,.tr (Aj (P:Int) s (M:Int) (List.replicate (2 * (P:Int)).toNat 0) []),.no,.no,.sh (.int (P:Int)),.sh (.int (M:Int)),.no,.no,.no,.no]=.nx [.sh (.lst (ns.map .int)),.sh (.int c),.sh sz,s3,.tr (Aj (P:Int) s (M:Int) (List.replicate (2 * (P:Int)).toNat 0) []),.ow (.dic []),.no,.sh (.int (P:Int)),.sh (.int (M:Int)),.no,.no,.no,.no]:=rfl;have e7:bi_2 [.sh (.lst (ns.map .int)),.sh (.int c),.sh sz,s3,.tr (Aj (P:Int) s (M:Int) (List.replicate (2 * (P:Int)).toNat 0) []),.ow (.dic []),.no,.sh (.int (P:Int)),.sh (.int (M:Int)),.no,.no,.no,.no]=.nx [.sh (.lst (ns.map .int)),.sh (.int c),.sh sz,a3,.tr (Aj (P:Int) s (M:Int) T kds),.ow (.dic kds),a6,.sh (.int (P:Int)),.sh (.int (M:Int)),a9,a10,a11,a12]:=by
  have hi:Bv Cr #v[Bl 3 p_5 #v[0,eC (.int 3),eC (.int 24)]] (At [.sh (.lst (ns.map .int)),.sh (.int c),.sh sz,s3,.tr (Aj (P:Int) s (M:Int) (List.replicate (2 * (P:Int)).toNat 0) []),.ow (.dic []),.no,.sh (.int (P:Int)),.sh (.int (M:Int)),.no,.no,.no,.no])=.ok (Ga 0 n):=by
   have hr:=ah_3 (j:=w) () ()
   simp![Ao,Sl.pub,ew,hr,en]
  unfold bi_2 Fu;rw[hi];exact e
 have ld:=ab_5 (p:=(P:Int)) (s:=s) (m:=(M:Int)) (T:=T) (kds:=kds);have e8:bi_3 [.sh (.lst (ns.map .int)),.sh (.int c),.sh sz,a3,.tr (Aj (P:Int) s (M:Int) T kds),.ow (.dic kds),a6,.sh (.int (P:Int)),.sh (.int (M:Int)),a9,a10,a11,a12]=.rt (.sh (.bl true)):=by
  have ek:∀δ0 δ1 δ2 δ3 δ,Cg "kept" 0 [("Living",d_3)] (Aa 4) Ac (δ0::δ1::δ2::δ3::some (Cb (P:Int) s (M:Int) T kds)::δ)=.ok (.ow (.lst (r_8 kds ks))):=λ_ _ _ _ _=>(met0 rfl nofun).trans (bi_9 h);have kl:(r_8 kds ks).length=kds.length:=cw_1 h;have lk:Fo [.dic kds]=.ok (.sh (.int (kds.length:Int))):=rfl;have el:Dd (.int (kds.length:Int)) (.int (kds.length:Int))=.ok (.sh (.bl true)):=by rw[k_0];simp
  simp![bi_3,Ao,Sl.any,ld,ek,s_0,kl,lk,el]
 refine⟨.sh (.bl true),p_8 ?_,rfl⟩;unfold di_8;rw[Bg e1,Bg e2,Bg e3,Bg e4,Bg e5,Bg e6,Bg e7,e8]
end My
set_option maxHeartbeats 20000000
namespace My
open PySem PyProof.Rows L2 L3
local macro_rules|`(#v[])=>`(As)|`(#v[$n:num])=>`(Ah (Ad $n) As)|`(#v[$x])=>`(Ah $x As)|`(#v[$n:num,$xs,*])=>`(Ah (Ad $n) #v[$xs,*])|`(#v[$x,$xs,*])=>`(Ah $x #v[$xs,*])
def Bm(i:Nat):Stmt:=PySem.Challenge.pw_lodge_k72_fewest_changes.main.body.getD i (.Pass ⟨0,0,0,0⟩)
def am_9:Stmt->List Stmt
 | .ClassDef (body:=b) .. =>b
 |_=> []
def Fx(i j:Nat):Stmt:=(am_9 (Bm i)).getD j (.Pass ⟨0,0,0,0⟩)
abbrev AH(P:Program)(w:World)(K:Frag)(p:Str->Option Value)(r:Heap)(f:Addr)(u:FuncData)(x:Str)(i k:Nat)(ps:List Str)(n:Nat)(g:List D->R W):Prop:=Fun K x x (Bm i) f u->FnX P w K p r true k f u ps (Ca K n g)
abbrev AI(P:Program)(w:World)(K:Frag)(p:Str->Option Value)(r:Heap)(f:Addr)(u:FuncData)(x:Str)(q:Str)(i j k:Nat)(ps:List Str)(n:Nat)(g:List D->R W):Prop:=Fun K x q (Fx i j) f u->FnX P w K p r true k f u ps (Ca K n g)
section
variable{P:Program}{w:World}{K:Frag}{p:AB}{r:Heap}{f:Addr}{u:FuncData}
abbrev TF(c:Bool)(x:Str)(k:Nat)(ps:List Str)(F:AF)(P:Program)(w:World)(K:Frag)(p:AB)(r:Heap):Prop:=FnD P w K p r c x k ps F
abbrev be_1:=TF true "_law_mix" 1 ["_law_cell_here","_law_k"] g_9
abbrev Lo:List Str:=["_law_script","_law_k"]
abbrev ax_5:=TF true "_law_cell" 2 Lo h_2
abbrev ao_7:=TF true "_law_sizes" 3 ["_law_script","_law_most"] q_6
abbrev x_0:=TF true "_law_all_tables" 1 ["_law_places_here","_law_modulus"] j_1
abbrev Lx:List Str:=["_law_script","_law_start","_law_most"]
abbrev ax_6:=TF true "_law_many" 3 Lx p_5
abbrev be_2:=TF true "_law_raw" 3 Lo p_6
abbrev ax_7:=TF true "_law_text" 1 ["_law_cell_here"] t_7
abbrev be_3:=TF true "_law_key" 2 ["_law_cell_here"] l_3
abbrev Lf:List Str:=["_law_script","_law_start","_law_k","_law_kept","_law_sizes_here"]
abbrev ax_8:=TF true "_law_deed" 4 Lf l_0
abbrev ao_8:=TF true "_law_stamp" 1 ["_law_key_here"] n_3
abbrev L10:List Str:=["_law_number","_law_salt","_law_size"]
abbrev ao_9:=TF true "_law_mixed" 1 L10 n_4
abbrev aj_3:=TF true "_law_places" 2 ["_law_key_here","_law_sizes_here"] k_4
abbrev Lr:List Str:=["_law_table","_law_wanted","_law_modulus"]
abbrev z_6:=TF true "_law_tells_all" 1 Lr h_8
abbrev L12:List Str:=["_law_one","_law_other"]
abbrev ap_0:=TF true "_law_apart" 1 L12 n_5
abbrev Li:List Str:=["_law_tables","_law_before","_law_kept","_law_sizes_here"]
abbrev aj_4:=TF true "_law_fewest" 3 Li l_4
abbrev ax_9:=TF true "is_below" 1 ["number","limit"] i_6
abbrev ay_0:=TF true "steps_to" 1 ["start","ways"] k_5
abbrev L16:List Str:=["number","modulus"]
abbrev ap_1:=TF true "remainder" 1 L16 n_6
abbrev ae_6:=TF true "is_key_text" 1 ["text"] m_0
abbrev br_7:=TF true "is_key" 2 ["thing"] w_8
abbrev ce_2:=TF true "worth" 1 ["text"] ai_3
abbrev ce_3:=TF true "stamp" 3 ["key"] l_5
abbrev ce_4:=TF true "mixed" 1 ["number","salt","size"] ai_4
abbrev ap_2:=TF true "places_of" 4 ["key","salt","kind","part"] q_7
abbrev br_8:=TF true "summed" 2 ["table","places","modulus"] ab_1
abbrev be_4:=TF true "ways_at" 1 ["places_by_key"] ad_2
def bn1:= @Fun.binds1
def bn2:= @Fun.binds2
def bn3:= @Fun.binds3
def bn4:= @Fun.binds4
def bn5:= @Fun.binds5
def bn6:= @Fun.binds6
abbrev u_3:Stmt:=(am_9 (Bm 4)).getD 0 (.Pass ⟨0,0,0,0⟩)
abbrev Ly:List Str:=["self","at"]
def ap_6:FnScope Ly Ly (Cc u_3):=⟨rfl,rfl,rfl,by decide +kernel,rfl,by decide +kernel,by decide +kernel⟩
def ap_7{C f:Addr}{u:FuncData}(F:Fun K "__init__" "NoValue.__init__" u_3 f u)(xc:XCls K C)(hn:findIn K (.ref C) "at" =some none):FnX P w K p r false 1 f u Ly (al_5 C "at"):=
 cb_4 (k:=0) F ap_6 λzp A outer s H E=>be_6 (cb_2 xc hn (Fh rfl (.inl rfl)) (Fh rfl (.inl rfl)))
abbrev y_7:Stmt:=(am_9 (Bm 3)).getD 0 (.Pass ⟨0,0,0,0⟩)
def az_4:FnScope Ly Ly (Cc y_7):=⟨rfl,rfl,rfl,by decide +kernel,rfl,by decide +kernel,by decide +kernel⟩
def az_5{C f:Addr}{u:FuncData}(F:Fun K "__init__" "NoKey.__init__" y_7 f u)(xc:XCls K C)(hn:findIn K (.ref C) "at" =some none):FnX P w K p r false 1 f u Ly (al_5 C "at"):=
 cb_4 (k:=0) F az_4 λzp A outer s H E=>be_6 (cb_2 xc hn (Fh rfl (.inl rfl)) (Fh rfl (.inl rfl)))
def bx_6:AH P w K p r f u "_law_mix" 30 1 ["_law_cell_here","_law_k"] 2 g_9:=λF=>Df (N:=["_law_cell_here","_law_k","_law_first"]) F λzq m d a o=>(Av (Bp (i:=2) [0,1] (Ap Co (Ap Ea (Ap Cj (Ad 0) Am) (Ap Cj Am (Ap Ea Am (Ad 1)))) Am) a)
  (Bd (Ck [1,2] (Ap Co (Ap Cj (Ap Cj (Ap Ea (Ap l_1 (Ad 2) Am) Am) (Ap Ea (Ad 2) (Ap Cj (Ap Ea (Ad 1) (Ad 1)) Am))) (Ad 1)) Am))))
variable(d7:be_1 P w K p r)(d8:p "len" =none)
abbrev Lw:List Str:=["_law_script","_law_k","_law_cell_here"]
def br_9:AH P w K p r f u "_law_cell" 31 2 Lo 2 h_2:=λF=>Df (N:= Lw) F λzq m d a o=>(Av (Bp (i:=2) [] Am a)
  (Av (Ec [0,1] (Dl at_3 (Ad 1) (Es j_9 rfl d8 F7 #v[0]) (Dt _))
   (Bd (Bp (i:=2) [0,1] (Ap Co (Dv (Ad 0) (Ad 1)) Am) a))
   Eh)
  (Bd (Ck [1,2] (Ce m o d7 #v[2,Ap Cj (Ad 1) Am])))))
variable(d6:ax_5 P w K p r)
def bj_4:AH P w K p r f u "_law_sizes" 38 3 ["_law_script","_law_most"] 2 q_6:=λF=>Df (N:=["_law_script","_law_most","_law_cell_here","_law_part","_law_salt","_law_other","_law_modulus"]) F λzq m d a o=>(Av (Bp (i:=2) [0] (Ce m o d6 #v[0,Am]) a)
  (Av (Bp (i:=3) [1,2] (Ap Cj Am (Ap Co (Ad 2) (Ad 1))) a)
  (@Av _ _ _ _ _ _ (Bp (i:=4) [2] (@Dv _ _ _ _ _ _ _ (@p_0 _ _ _ _ _ (@Ah _ _ _ _ _ _ Am (@Ah _ _ _ _ _ _ Am (@Ah _ _ _ _ _ _ (Ap Co (Ap l_1 (Ad 2) Am) Am) #v[Ap Cj (Ap bz_4 Am Am) (Ad 2)] rfl) rfl) rfl)) (Ap Co (Ap l_1 (Ad 2) Am) Am) (λ_ _=>rfl)) a)
  (Av (Bp (i:=5) [2] (Ce m o d7 #v[2,Am]) a)
  (@Av _ _ _ _ _ _ (Bp (i:=6) [5] (@Dv _ _ _ _ _ _ _ (@p_0 _ _ _ _ _ (@Ah _ _ _ _ _ _ Am (@Ah _ _ _ _ _ _ Am (@Ah _ _ _ _ _ _ (Ap Cj Am (Ap Co (Ap l_1 (Ad 5) Am) Am)) (@Ah _ _ _ _ _ _ Am (@Ah _ _ _ _ _ _ Am (@Ah _ _ _ _ _ _ Am (@Ah _ _ _ _ _ _ (Ap Cj Am (Ap Co (Ap l_1 (Ad 5) Am) Am)) #v[Am] rfl) rfl) rfl) rfl) rfl) rfl) rfl)) (Ap Co (Ad 5) Am) (λ_ _=>rfl)) a)
  (Bd (Ck [3,4,6] (j_7 #v[3,4,6]))))))))
variable(i8:p "range" =none)
def aj_5:AH P w K p r f u "_law_all_tables" 42 1 ["_law_places_here","_law_modulus"] 2 j_1:=λF=>Df (N:=["_law_places_here","_law_modulus","_law_found","_law_k","_law_more","_law_table"]) F λzq m d a o=>(Av (Bp (i:=2) [] (p_0 #v[p_0 As]) a)
  (Av (x_6 [0] h_1 zq (w_4 i8 #v[0]) (ac_5 (i:=3) a)
   (Av (Bp (i:=4) [] (p_0 As) a)
  (Av (x_6 [2] h_1 zq (Fp (Ad 2)) (ac_5 (i:=5) a)
   (Bd (Bp (i:=4) [1,4,5] (Ap Cj (Ad 4) (x_7 (N':=["_law_places_here","_law_modulus","_law_found","_law_k","_law_more","_law_table","_law_number"]) zq (srcL (w_4 i8 #v[1])) ⟨rfl,by rfl',rfl,λC s0 H0 fp pn=>⟨(gcM (i:=6)),ak_6,(Ap Cj (Ad 5) (p_0 #v[6]))⟩⟩)) a)))
  (Bd (Bp (i:=2) [4] (Ad 4) a)))))
  (Bd (ac_3 2))))
variable(aa2:p "max" =none)(ab1:p "min" =none)
def bs_0:AH P w K p r f u "_law_many" 39 3 Lx 3 p_5:=λF=>Df (N:=["_law_script","_law_start","_law_most","_law_cells"]) F λzq m d a o=>(Av (Bp (i:=3) [0,1] (Es (ak_4 zq) rfl aa2 V6 #v[Am,Ap x_3 (Es j_9 rfl d8 F7 #v[0]) (Ad 1)]) a)
  (Bd (Ck [0,1,2,3] (Es (cg_9 zq) rfl ab1 PyProof.Rows.boot_min #v[2,Es (ak_4 zq) rfl aa2 V6 #v[3,Ap Co (Ce m o d6 #v[0,Ap x_3 (Ad 1) Am]) (Ap Cj (Ad 2) Am)]]))))
def bx_7:AH P w K p r f u "_law_raw" 37 3 Lo 2 p_6:=λF=>Df (N:= Lw) F λzq m d a o=>(Av (Bp (i:=2) [] Am a)
  (Av (Ec [0,1] (Dl at_3 (Ad 1) (Es j_9 rfl d8 F7 #v[0]) (Dt _))
   (Bd (Bp (i:=2) [0,1] (Dv (Ad 0) (Ad 1)) a))
   Eh)
  (Av (Ec [0] (Dl (p_1 d) (Ap Co (Ce m o d6 #v[0,Am]) Am) Am (Dt _))
   (Bd (ac_3 2))
   Eh)
  (Bd (Ck [1,2] (Ce m o d7 #v[Ce m o d7 #v[Ap Co (Ad 2) Am,Ap Cj (Ad 1) Am],1]))))))
def bs_1:AH P w K p r f u "_law_text" 35 1 ["_law_cell_here"] 1 t_7:=λF=>Df (N:=["_law_cell_here","_law_found","_law_rest","_law_k"]) F λzq m d a o=>(Av (Bp (i:=1) [] aj_9 a)
  (Av (Bp (i:=2) [0] (Ap l_1 (Ad 0) Am) a)
  (Av (x_6 [0] h_1 zq (w_4 i8 #v[Ap Co (Ad 0) Am]) (ac_5 (i:=3) a)
   (Av (Bp (i:=1) [1,2] (Ap Cj (Ad 1) (Dv aj_9 (Ap Co (Ad 2) Am))) a)
  (Bd (Bp (i:=2) [2] (Ap l_1 (Ad 2) Am) a))))
  (Bd (ac_3 1)))))
variable(o7:ax_7 P w K p r)
def bx_8:AH P w K p r f u "_law_key" 36 2 ["_law_cell_here"] 1 l_3:=λF=>Df (N:=["_law_cell_here","_law_rest"]) F λzq m d a o=>(Av (Bp (i:=1) [0] (Ap l_1 (Ad 0) Am) a)
  (Av (Ec [0] (Dl (p_1 d) (Ap Co (Ad 0) Am) Am (Dt _))
   (Bd (Ck [1] (Ap Co (Ad 1) (Ap bz_4 Am Am))))
   Eh)
  (Av (Ec [0] (Dl (p_1 d) (Ap Co (Ad 0) Am) Am (Dt _))
   (Bd (Ck [1] (Ce m o o7 #v[1])))
   Eh)
  (Bd (Ck [0,1] (Ap Co (Ad 1) (Dv (p_0 #v[Am,Am]) (Ap x_3 (Ap Co (Ad 0) Am) Am))))))))
variable(v5:be_2 P w K p r)(u6:be_3 P w K p r)(y8:p "list" =none)
def bs_2:AH P w K p r f u "_law_deed" 40 4 Lf 5 l_0:=λF=>Df (N:=["_law_script","_law_start","_law_k","_law_kept","_law_sizes_here","_law_cell_here","_law_way","_law_rest","_law_value","_law_key_here"]) F λzq m d a o=>(Av (Bp (i:=5) [0,1,2] (Ce m o v5 #v[0,Ap Cj (Ad 1) (Ap Co (Ad 2) (Es (ak_4 zq) rfl aa2 V6 #v[Am,Ap x_3 (Es j_9 rfl d8 F7 #v[0]) (Ad 1)]))]) a)
  (Av (Ec [0] (Dl (p_1 d) (Ap Co (Ce m o d6 #v[0,Am]) Am) Am (Dt _))
   (Bd (Bp (i:=5) [2,5] (Ce m o d7 #v[Ap Co (Ad 5) Am,2]) a))
   Eh)
  (Av (Bp (i:=6) [5] (Ap Co (Ad 5) Am) a)
  (Av (Bp (i:=7) [5] (Ap l_1 (Ad 5) Am) a)
  (Av (Bp (i:=8) [4,7] (Ap Co (Ad 7) (Dv (Ad 4) Am)) a)
  (Av (Bp (i:=9) [4,7] (Ce m o u6 #v[Ap l_1 (Ad 7) (Dv (Ad 4) Am)]) a)
  (Av (Ec [3,6] (td_w (cn_2 (Dl bu_3 (Ad 6) Am (Dt _)) (bz_1 (Dl (ct_0 d) (Ad 3) aq_3 (Dt _)))))
   (Bd (Bp (i:=9) [3,4,7] (Dv (ct_1 zq y8 (Ad 3)) (Ap Co (Ap l_1 (Ad 7) (Dv (Ad 4) Am)) (Es n_1 rfl d8 F7 #v[3]))) a))
   Eh)
  (@Bd _ _ _ _ (@Ck _ _ _ _ _ [6,8,9] (@j_7 _ _ _ _ _ _ (@Ah _ _ _ _ _ _ (@Dv _ _ _ _ _ _ _ (@p_0 _ _ _ _ _ (@Ah _ _ _ _ _ _ Am (@Ah _ _ _ _ _ _ Am (@Ah _ _ _ _ _ _ Am (@Ah _ _ _ _ _ _ Am (@Ah _ _ _ _ _ _ Am #v[Am,Am,Am] rfl) rfl) rfl) rfl) rfl)) (Ad 6) (λ_ _=>rfl)) #v[9,8] rfl)))))))))))
variable(b7:p "isinstance" =none)(ab2:p "int" =none)(o8:KitT K "int")
def bj_5:AH P w K p r f u "_law_stamp" 32 1 ["_law_key_here"] 1 n_3:=λF=>Df (N:=["_law_key_here","_law_worth","_law_sign"]) F λzq m d a o=>(Av (Ec [0] (n_8 (ae_8 o8 (Ad 0) b7 ab2 PyProof.Rows.boot_int))
   (Bd (Ck [0] (Ap Ea Am (Ad 0))))
   Eh)
  (Av (Bp (i:=1) [] Am a)
  (Av (x_6 [0] h_1 zq (Fp (Ad 0)) (ac_5 (i:=2) a)
   (Bd (Bp (i:=1) [1,2] (Ap Cj (Ap Cj (Ap Ea Am (Ad 1)) Am) (bz_8 ZB4 PySem.F.slot_str_index PySem.F.type_str_index ch_6 aj_9 #v[2])) a)))
  (Bd (Ck [1] (Ap Cj (Ap Ea Am (Ad 1)) Am))))))
def bj_6:AH P w K p r f u "_law_mixed" 33 1 L10 3 n_4:=λF=>Df (N:=["_law_number","_law_salt","_law_size","_law_prime","_law_factor","_law_first"]) F λzq m d a o=>(Av (Bp (i:=3) [] Am a)
  (Av (Bp (i:=4) [1,3] (Ap Cj Am (Ap Co (Ap Cj (Ap Ea Am (Ad 1)) Am) (Ap x_3 (Ad 3) Am))) a)
  (Av (Bp (i:=5) [0,1,3,4] (Ap Co (Ap Cj (Ap Ea (Ad 4) (Ad 0)) (Ap Co (Ap Cj (Ap Ea (Ap Ea Am (Ad 1)) (Ad 1)) (Ap Ea Am (Ad 1))) (Ad 3))) (Ad 3)) a)
  (Bd (Ck [2,5] (Ap Co (Ap Cj (Ad 5) (Ap l_1 (Ad 5) Am)) (Ad 2)))))))
variable(m8:ao_8 P w K p r)(k7:ao_9 P w K p r)
def az_6:AH P w K p r f u "_law_places" 34 2 ["_law_key_here","_law_sizes_here"] 2 k_4:=λF=>Df (N:=["_law_key_here","_law_sizes_here","_law_number","_law_part","_law_salt","_law_modulus"]) F λzq m d a o=>(Av (cq_1 [1] (Ad 1) (cb_7 zq (ad_0 (i:=3) a (ad_0 (i:=4) a (ad_0 (i:=5) a cr_9)))))
  (Av (Bp (i:=2) [0] (Ce m o m8 #v[0]) a)
  (Bd (Ck [2,3,4] (j_7 #v[Ce m o k7 #v[2,Ap Ea Am (Ad 4),3],Ap Cj (Ad 3) (Ce m o k7 #v[2,Ap Cj (Ap Ea Am (Ad 4)) Am,3])])))))
def an_0:AH P w K p r f u "_law_tells_all" 44 1 Lr 3 h_8:=λF=>Df (N:=["_law_table","_law_wanted","_law_modulus","_law_first","_law_second","_law_value"]) F λzq m d a o=>(Av (x_6 [1] h_1 zq (Fp (Ad 1)) (cp_8 (i:=3) (j:=4) (l:=5) zq a)
   (Bd (Ec [0,2,3,4,5] (Dl (ak_3 d) (Ap Co (Ap Cj (Dv (Ad 0) (Ad 3)) (Dv (Ad 0) (Ad 4))) (Ad 2)) (Ad 5) (Dt _))
   (Bd (Ck [] bb_1))
   Eh)))
  (Bd (Ck [] bb_1)))
variable(j2:p "enumerate" =none)
def bj_7:AH P w K p r f u "_law_apart" 43 1 L12 2 n_5:=λF=>Df (N:= L12) F λzq m d a o=>(Bd (Ck [0,1] (Es j_9 rfl d8 F7 #v[(x_7 (N':=["_law_one","_law_other","_law_k","_law_number"]) zq (srcL (db_7 j2 (Ad 0))) ⟨rfl,by rfl',rfl,λC s0 H0 fp pn=>⟨(bv_4 (i:=2) (j:=3) (ak_8 zq) (show List.Nodup [("_law_one" :Str),("_law_other" :Str),("_law_k" :Str),("_law_number" :Str)] from by decide +kernel)),(bf_9 (Dl (ak_3 d) (Ad 3) (Dv (Ad 1) (Ad 2)) (Dt _))),(Ad 2)⟩⟩)])))
variable(g9:aj_3 P w K p r)(f8:z_6 P w K p r)(j3:ap_0 P w K p r)
def az_7:AH P w K p r f u "_law_fewest" 45 3 Li 4 l_4:=λF=>Df (N:=["_law_tables","_law_before","_law_kept","_law_sizes_here","_law_wanted","_law_found"]) F λzq m d a o=>(Av (Bp (i:=4) [2,3] (x_7 (N':=["_law_tables","_law_before","_law_kept","_law_sizes_here","_law_wanted","_law_found","_law_key_here","_law_value"]) zq (bc_6 (Ad 2)) ⟨rfl,by rfl',rfl,λC s0 H0 fp pn=>⟨(bv_4 (i:=6) (j:=7) (ak_8 zq) (show List.Nodup [("_law_tables" :Str),("_law_before" :Str),("_law_kept" :Str),("_law_sizes_here" :Str),("_law_wanted" :Str),("_law_found" :Str),("_law_key_here" :Str),("_law_value" :Str)] from by decide +kernel)),ak_6,(Ap cb_5 (Ce (p_2 m) x_4 g9 #v[6,3]) (j_7 #v[7]))⟩⟩) a)
  (Av (bz_7 (i:=5) [0,1,3,4] (N':=["_law_tables","_law_before","_law_kept","_law_sizes_here","_law_wanted","_law_found","_law_table"]) zq (srcL (Fp (Ad 0))) ⟨rfl,by rfl',rfl,λC s0 H0 fp pn=>⟨(gcM (i:=6)),(bf_9 (n_8 (Ce (p_2 m) x_4 f8 #v[6,4,Dv (Ad 3) Am]))),(Ce (p_2 m) x_4 j3 #v[1,6])⟩⟩ a)
  (Av (Ec [5] (Dl (p_1 d) (Ad 5) (p_0 As) (Dt _))
   (Bd (Ck [] aj_9))
   Eh)
  (Bd (Ck [5] (Es (ci_7 zq) rfl ab1 PyProof.Rows.boot_min #v[5]))))))
variable(n8:p "bool" =none)(j8:KitT K "bool")
def bs_3:AH P w K p r f u "is_below" 8 1 ["number","limit"] 2 i_6:=λF=>Df (N:=["number","limit"]) F λzq m d a o=>(Bd (Ck [0,1] (as_7 (dm_7 (ae_8 j8 (Ad 0) b7 n8 ak_7)) (as_6 (bk_6 at_4 at_3 Am (Ad 0) (Ad 1))))))
def bs_4:AH P w K p r f u "steps_to" 27 1 ["start","ways"] 2 k_5:=λF=>Df (N:=["start","ways","steps","waiting","place","key","other"]) F λzq m d a o=>(Av (Bp (i:=2) [0] (df_5 (Ad 0) dm_6) a)
  (Av (Bp (i:=3) [0] (p_0 #v[0]) a)
  (Av (co_5 [3] 3000 h_1 (Dl bu_3 (Es j_9 rfl d8 F7 #v[3]) Am (Dt _))
   (Av (df_6 (i:=4) (j:=3) Am a)
  (Bd (x_6 [1,4] h_1 zq (Fp (dc_3 d (Ad 1) (Ad 4) (p_0 As))) (bu_9 (i:=5) (j:=6) zq a)
   (Bd (Ec [2,6] (Dl (bb_6 d) (Ad 6) (Ad 2) (by with_unfolding_all rfl))
   (Av (ca_6 (i:=2) [4,5] d (j_7 #v[5,4]) (Ad 6))
  (Bd (co_9 (i:=3) (Ad 6))))
   Eh))))))
  (Bd (ac_3 2)))))
def bj_8:AH P w K p r f u "remainder" 10 1 L16 2 n_6:=λF=>Df (N:= L16) F λzq m d a o=>(Bd (Ck [0,1] (cn_6 (Dl (p_1 d) (Ad 1) Am (Dt _)) Am (Ap Co (Ad 0) (Ad 1)))))
variable(i9:ap_1 P w K p r)(f9:OFld K ["Living"] "listed")(l7:OFld K ["Living"] "part")(f7:OFld K ["Living"] "modulus")
def ap_8(F:Fun K "shift" "Living.shift" (Fx 28 9) f u):FnX P w K p r true 2 f u ["self","tied","in_first_part","in_second_part"] (spR K 3 d_2):=
 bp_7 (n:=3) (N:=["self","tied","in_first_part","in_second_part","numbers","place","number","more"]) F ⋯ ⋯ λzq m d a o=>(Av (Bp (i:=4) [] (p_0 As) a)
  (Av (df_1 h_1 zq j2 (q_0 [0] (p_3 f9 (Ad 0))) (bu_9 (i:=5) (j:=6) zq a)
   (Av (s_1 (i:=7) (q_0 [0] (cn_6 (Dl at_3 (Ad 5) (p_3 l7 (Ad 0)) (Dt _)) (Ad 2) (Ad 3))) a)
  (Bd (co_9 (i:=4) (cn_6 (Dl (bg_2 d) (Ad 5) (Ad 1) (by with_unfolding_all rfl)) (Ce m o i9 #v[Ap Cj (Ad 6) (Ad 7),p_3 f7 (Ad 0)]) (Ad 6))))))
  (Bd (de_6 (i:=0) [4] f9 (Ad 4)))))
variable(l9:ay_0 P w K p r)(g8:MethR P w K p r true 2 3 "shift" "Living" d_2){g7:Addr}(y1:XC0 K p "Stuck" g7)
def ay_1(F:Fun K "mend" "Living.mend" (Fx 28 8) f u):FnX P w K p r true 3 f u ["self","places","lacking","ways"] (spR K 3 g_8):=
 bp_7 (n:=3) (N:=["self","places","lacking","ways","first","second"]) F ⋯ ⋯ λzq m d a o=>(Av (Bp (i:=4) [1,3] (Ce m o l9 #v[Dv (Ad 1) Am,3]) a)
  (Av (Bp (i:=5) [1,3] (Ce m o l9 #v[Dv (Ad 1) Am,3]) a)
  (Av (Ec [1,4] (Dl (bg_2 d) (Dv (Ad 1) Am) (Ad 4) (by with_unfolding_all rfl))
   (Bd (bb_8 y1 (RoomC.mono m ⋯) aq_6))
   Eh)
  (Av (Ec [4,5] (Dl at_4 (Es n_1 rfl d8 F7 #v[4]) (Es n_1 rfl d8 F7 #v[5]) (Dt _))
   (Av (au_7 (t_6 [2,4] (ah_7 (i:=0) g8 m o (f_4 (Ad 4) (f_4 (Ad 2) (f_4 (cp_6 (Ad 2)) af_2))))))
  (Bd (y_0 (ah_8 [4] (Es n_1 rfl d8 F7 #v[4])))))
   Eh)
  (Av (au_7 (t_6 [2,5] (ah_7 (i:=0) g8 m o (f_4 (Ad 5) (f_4 (cp_6 (Ad 2)) (f_4 (Ad 2) af_2))))))
  (Bd (y_0 (ah_8 [5] (Es n_1 rfl d8 F7 #v[5])))))))))
variable(ae6:p "all" =none){aa6:Tok}(l4:p "MOST_SIGNS" =some (.int 11 aa6)){ae9:Tok}(r6:p "SIGNS" =some (.str "abcdefghijklmnopqrstuvwxyz0123456789-_ " ae9))
def ay_2:AH P w K p r f u "is_key_text" 17 1 ["text"] 1 m_0:=λF=>Df (N:=["text"]) F λzq m d a o=>(Bd (Ck [0] (as_7 (ak_0 at_4 (Es j_9 rfl d8 F7 #v[0]) (x_2 rfl l4) (Dt _)) (as_6 (Es (ch_5 zq) rfl ae6 PyProof.Rows.boot_all #v[(x_7 (N':=["text","sign"]) zq (srcL (Fp (Ad 0))) ⟨rfl,by rfl',rfl,λC s0 H0 fp pn=>⟨(gcM (i:=1)),ak_6,(ak_0 dn_4 (Ad 1) (bz_0 rfl r6) (by with_unfolding_all rfl))⟩⟩)])))))
variable(k8:ae_6 P w K p r)(ab0:p "str" =none)(p5:KitT K "str"){p7:Tok}(i6:p "GREATEST_NUMBER" =some (.int 999999999999999999 p7))
def ck_9:AH P w K p r f u "is_key" 18 2 ["thing"] 1 w_8:=λF=>Df (N:=["thing"]) F λzq m d a o=>(Av (Ec [0] (n_8 (ae_8 j8 (Ad 0) b7 n8 ak_7))
   (Bd (Ck [] bb_1))
   Eh)
  (Av (Ec [0] (n_8 (ae_8 o8 (Ad 0) b7 ab2 PyProof.Rows.boot_int))
   (Bd (Ck [0] (bk_6 at_4 at_4 Am (Ad 0) (x_2 rfl i6))))
   Eh)
  (Bd (Ck [0] (as_7 (ae_8 p5 (Ad 0) b7 ab0 PyProof.Rows.boot_str) (as_6 (Ce m o k8 #v[0])))))))
def cx_9:AH P w K p r f u "worth" 19 1 ["text"] 1 ai_3:=λF=>Df (N:=["text","total","sign"]) F λzq m d a o=>(Av (Bp (i:=1) [] Am a)
  (Av (x_6 [0] h_1 zq (Fp (Ad 0)) (ac_5 (i:=2) a)
   (Bd (Bp (i:=1) [1,2] (Ap Cj (Ap Cj (Ap Ea Am (Ad 1)) (bz_8 ZB4 PySem.F.slot_str_find PySem.F.type_str_find cp_1 (bz_0 rfl r6) #v[2])) Am) a)))
  (Bd (ac_3 1))))
variable(z6:br_7 P w K p r)(aa7:ce_2 P w K p r){n5:Addr}(aa4:XC P w K p r "NoKey" "at" n5)
def cy_0:AH P w K p r f u "stamp" 20 3 ["key"] 1 l_5:=λF=>Df (N:=["key"]) F λzq m d a o=>(Av (Ec [0] (cn_5 (n_8 (Ce m o z6 #v[0])))
   (Bd (bo_2 [] aa4 (RoomC.mono m ⋯) aq_6 Am))
   Eh)
  (Av (Ec [0] (n_8 (ae_8 p5 (Ad 0) b7 ab0 PyProof.Rows.boot_str))
   (Bd (Ck [0] (Ap Cj (Ap Ea Am (Ce m o aa7 #v[0])) Am)))
   Eh)
  (Bd (Ck [0] (Ap Ea Am (Ad 0))))))
variable{af0:Tok}(o9:p "PRIME" =some (.int 2305843009213693951 af0))
def cy_1:AH P w K p r f u "mixed" 21 1 ["number","salt","size"] 3 ai_4:=λF=>Df (N:=["number","salt","size","factor","shift","first"]) F λzq m d a o=>(Av (Ec [2] (Dl (p_1 d) (Ad 2) Am (Dt _))
   (Bd (Ck [] Am))
   Eh)
  (Av (Bp (i:=3) [1] (Ap Cj Am (Ap Co (Ap Cj (Ap Ea Am (Ad 1)) Am) (Ap x_3 (x_2 rfl o9) Am))) a)
  (Av (Bp (i:=4) [1] (Ap Co (Ap Cj (Ap Ea (Ap Ea Am (Ad 1)) (Ad 1)) (Ap Ea Am (Ad 1))) (x_2 rfl o9)) a)
  (Av (Bp (i:=5) [0,3,4] (Ap Co (Ap Cj (Ap Ea (Ad 3) (Ad 0)) (Ad 4)) (x_2 rfl o9)) a)
  (Bd (Ck [2,5] (Ap Co (Ap Cj (Ad 5) (Ap l_1 (Ad 5) Am)) (Ad 2))))))))
variable(l8:ce_3 P w K p r)(aa5:ce_4 P w K p r)(aa8:p "tuple" =none)
def bj_9:AH P w K p r f u "places_of" 23 4 ["key","salt","kind","part"] 4 q_7:=λF=>Df (N:=["key","salt","kind","part","number"]) F λzq m d a o=>(Av (Bp (i:=4) [0] (Ce m o l8 #v[0]) a)
  (Bd (Ck [1,2,3,4] (ak_1 bu_5 rfl aa8 PyProof.Rows.boot_tuple #v[(x_7 (N':=["key","salt","kind","part","number","turn"]) zq (srcL (w_4 i8 #v[2])) ⟨rfl,by rfl',rfl,λC s0 H0 fp pn=>⟨(gcM (i:=5)),ak_6,(Ap Cj (Ap Ea (Ad 5) (Ad 3)) (Ce (p_2 m) x_4 aa5 #v[4,Ap Cj (Ap Ea Am (Ad 1)) (Ad 5),3]))⟩⟩)]))))
variable(m7:ap_2 P w K p r)(j9:OFld K ["Living"] "by_salt"){af6:Tok}(y9:p "KIND" =some (.int 2 af6))
abbrev Lh:List Str:=["self","key"]
def an_1:AI P w K p r f u "places" "Living.places" 28 4 5 Lh 2 c_2:=λF=>Df (N:= Lh) F λzq m d a o=>(Bd (Ck [0,1] (Ce m o m7 #v[1,p_3 j9 (Ad 0),x_2 rfl y9,p_3 l7 (Ad 0)])))
variable(k4:ax_9 P w K p r)(ae4:p "sum" =none)
def cl_0:AH P w K p r f u "summed" 11 2 ["table","places","modulus"] 3 ab_1:=λF=>Df (N:=["table","places","modulus","found"]) F λzq m d a o=>(Av (bz_7 (i:=3) [0,1] (N':=["table","places","modulus","found","place"]) zq (srcL (Fp (Ad 1))) ⟨rfl,by rfl',rfl,λC s0 H0 fp pn=>⟨(gcM (i:=4)),(bf_9 (n_8 (Ce (p_2 m) x_4 k4 #v[4,Es j_9 rfl d8 F7 #v[0]]))),(Dv (Ad 0) (Ad 4))⟩⟩ a)
  (Bd (Ck [2,3] (Ce m o i9 #v[Es (ch_7 zq) rfl ae4 PyProof.Rows.boot_sum #v[3],2]))))
variable(y3:br_8 P w K p r)(c9:MethT P w K p r true 5 1 "places" [("Living",c_2)])
def ap_9:AI P w K p r f u "value" "Living.value" 28 1 6 Lh 2 e_8:=λF=>Df (N:= Lh) F λzq m d a o=>(Bd (Ck [0,1] (Ce m o y3 #v[p_3 f9 (Ad 0),ah_1 c9 m o (Ad 0) #v[1],p_3 f7 (Ad 0)])))
def bx_9:AH P w K p r f u "ways_at" 26 1 ["places_by_key"] 1 ad_2:=λF=>Df (N:=["places_by_key","ways","key","places"]) F λzq m d a o=>(Av (Bp (i:=1) [] aq_3 a)
  (Av (x_6 [0] h_1 zq (Fp (Ad 0)) (bu_9 (i:=2) (j:=3) zq a)
   (Av (cs_8 (i:=1) (Dv (Ad 3) Am) (j_7 #v[2,Dv (Ad 3) Am]))
  (Bd (cs_8 (i:=1) (Dv (Ad 3) Am) (j_7 #v[2,Dv (Ad 3) Am])))))
  (Bd (ac_3 1))))
variable(v6:be_4 P w K p r)(d5:OFld K ["Living"] "by_key")
def y_8:AI P w K p r f u "ways_without" "Living.ways_without" 28 5 6 Lh 2 b_2:=λF=>Df (N:= Lh) F λzq m d a o=>(Bd (Ck [0,1] (Ce m o v6 #v[(x_7 (N':=["self","key","other"]) zq (cr_8 (p_3 d5 (Ad 0))) ⟨rfl,by rfl',rfl,λC s0 H0 fp pn=>⟨(gcM (i:=2)),(bf_9 (Dl (ak_3 d) (Ad 2) (Ad 1) (Dt _))),(j_7 #v[2,ah_1 c9 (p_2 m) x_4 (Ad 0) #v[2]])⟩⟩)])))
variable(k6:MethR P w K p r true 3 3 "mend" "Living" g_8)(j5:MethT P w K p r true 6 1 "value" [("Living",e_8)])(f6:MethT P w K p r true 6 1 "ways_without" [("Living",b_2)]){j6:Addr}(u3:XC P w K p r "NoValue" "at" j6)
def az_8(F:Fun K "put" "Living.put" (Fx 28 7) f u):FnX P w K p r true 7 f u ["self","key","value"] (spR K 2 i_2):=
 bp_7 (n:=2) (N:=["self","key","value","places","lacking","changed"]) F ⋯ ⋯ λzq m d a o=>(Av (s_1 (i:=3) (q_0 [0] (ah_1 c9 m (Lk.lend o) (Ad 0) #v[1])) a)
  (Av (Ec [0,2] (cn_5 (n_8 (Ce m o k4 #v[2,p_3 f7 (Ad 0)])))
   (Bd (bo_2 [] u3 (RoomC.mono m ⋯) aq_6 Am))
   Eh)
  (Av (s_1 (i:=4) (q_0 [0] (Ap x_3 (Ad 2) (ah_1 j5 m (Lk.lend o) (Ad 0) #v[1]))) a)
  (Av (Bp (i:=5) [] Am a)
  (Av (Ec [4] (Dl (ak_3 d) (Ad 4) Am (Dt _))
   (Bd (s_1 (i:=5) (t_6 [1,3,4] (ah_7 (i:=0) k6 m o (f_4 (Ad 3) (f_4 (Ad 4) (de_3 [0] (ah_1 f6 m (Lk.lend o) (Ad 0) #v[1]) af_2))))) a))
   Eh)
  (Av (de_4 (i:=0) d d5 (Ad 2) (Ad 1))
  (Bd (y_0 (ah_8 [5] (Ad 5))))))))))
variable(k9:MethR P w K p r true 7 2 "put" "Living" i_2)(p6:p "Stuck" =some (.ref g7))(z9:Catches K g7 L49)
abbrev Lg:List Str:=["_law_living","_law_key_here","_law_value"]
def by_0(F:Fun K "_law_put" "_law_put" (Bm 41) f u):FnX P w K p r true 8 f u Lg (spR K 2 n_7):=
 bp_7 (n:=2) (N:=["_law_living","_law_key_here","_law_value","_law_found"]) F ⋯ ⋯ λzq m d a o=>(Av (dd_5 a rfl rfl (λzd W EXB lkB=>(Bd (s_1 (i:=3) (t_6 [1,2] (ah_7 (i:=0) k9 (cr_2 m) lkB (f_4 (Ad 1) (f_4 (Ad 2) af_2)))) a))) (HOk3.bare p6 z9 (λe=>(Bd (Bp (i:=3) [] aj_9 a))) .nil))
  (Bd (y_0 (ah_8 [3] (Ad 3)))))
def aq_0:AI P w K p r f u "table" "Living.table" 28 3 1 ["self"] 1 b_3:=λF=>Df (N:=["self"]) F λzq m d a o=>(Bd (Ck [0] (ak_1 bl_4 rfl y8 ZB3 #v[p_3 f9 (Ad 0)])))
variable(z8:p "sorted" =none)
def ay_3:AI P w K p r f u "kept" "Living.kept" 28 2 5 ["self"] 1 d_3:=λF=>Df (N:=["self"]) F λzq m d a o=>(Bd (Ck [0] (x_7 (N':= Lh) zq (srcL (Fp (ct_4 (cr_3 zq) (cr_1 m) z8 l8 (p_3 d5 (Ad 0))))) ⟨rfl,by rfl',rfl,λC s0 H0 fp pn=>⟨(gcM (i:=1)),ak_6,(j_7 #v[1,dc_2 d (p_3 d5 (Ad 0)) (Ad 1)])⟩⟩)))
variable(l6:aj_4 P w K p r)(u5:FnRd P w K p r true "_law_put" 8 2 Lg n_7)(b8:MethT P w K p r true 1 0 "table" [("Living",b_3)])(d9:MethT P w K p r true 5 0 "kept" [("Living",d_3)])(ab4:p "dict" =none)
abbrev La:List Str:=["_law_living","_law_kept","_law_sizes_here","_law_tables","_law_key_here","_law_value"]
def an_2(F:Fun K "_law_put_right" "_law_put_right" (Bm 46) f u):FnX P w K p r true 9 f u La (spR2 K 4 g_0):=
 dq_1 (n:=4) (N:=["_law_living","_law_kept","_law_sizes_here","_law_tables","_law_key_here","_law_value","_law_before","_law_held","_law_after","_law_due","_law_found","_law_wanted"]) F ⋯ ⋯ λzq m d a o=>(Av (s_1 (i:=6) (q_0 [0] (n_9 b8 m (Lk.lend o) (Ad 0))) a)
  (Av (s_1 (i:=7) (q_0 [0] (n_9 d9 m (Lk.lend o) (Ad 0))) a)
  (Av (dg_0 (i:=8) [1] (ak_1 bw_4 rfl ab4 PyProof.Rows.boot_dict #v[1]) a)
  (Av (ca_6 (i:=8) [5] d (Ad 5) (Ad 4))
  (Av (Bp (i:=9) [2,3,6,8] (Ce m o l6 #v[3,6,8,2]) a)
  (Av (s_1 (i:=10) (t_6 [4,5] (cs_6 (i:=0) m o u5 (f_4 (Ad 4) (f_4 (Ad 5) af_2)))) a)
  (Av (Ec [9,10] (td_w (cn_3 (Dl (ak_3 d) (Ad 10) (Ad 9) (Dt _)) (bu_0 (n_8 (ae_8 j8 (Ad 10) b7 n8 ak_7)))))
   (Bd (y_0 (ah_8 [] bb_1)))
   Eh)
  (Av (Ec [10] (Dl (p_1 d) (Ad 10) aj_9 (Dt _))
   (Bd (y_0 (q_0 [0] (as_7 (ak_0 (p_1 d) (n_9 b8 m (Lk.lend o) (Ad 0)) (Ad 6) (Dt _)) (as_6 (ak_0 (p_1 d) (n_9 d9 m (Lk.lend o) (Ad 0)) (Ad 7) (Dt _)))))))
   Eh)
  (Av (df_9 (i:=1) d (Ad 5) (Ad 4))
  (Av (cu_4 (i:=11) [1] (N':=["_law_living","_law_kept","_law_sizes_here","_law_tables","_law_key_here","_law_value","_law_before","_law_held","_law_after","_law_due","_law_found","_law_wanted","_law_one","_law_number"]) zq (bc_6 (Ad 1)) ⟨rfl,by rfl',rfl,λC s0 H0 fp pn=>⟨(bv_4 (i:=12) (j:=13) (ak_8 zq) (show List.Nodup [("_law_living" :Str),("_law_kept" :Str),("_law_sizes_here" :Str),("_law_tables" :Str),("_law_key_here" :Str),("_law_value" :Str),("_law_before" :Str),("_law_held" :Str),("_law_after" :Str),("_law_due" :Str),("_law_found" :Str),("_law_wanted" :Str),("_law_one" :Str),("_law_number" :Str)] from by decide +kernel)),ak_6,(Ap cb_5 (Ce (p_2 m) x_4 g9 #v[12,2]) (j_7 #v[13]))⟩⟩ a)
  (Bd (y_0 (q_0 [0] (as_7 (ak_0 (p_1 d) (Ce m (Lk.lend o) j3 #v[6,n_9 b8 m (Lk.lend o) (Ad 0)]) (Ad 10) (Dt _)) (as_6 (Ce m (Lk.lend o) f8 #v[n_9 b8 m (Lk.lend o) (Ad 0),11,Dv (Ad 2) Am]))))))))))))))))
variable{l3:Addr}(v7:XC0 K p "NoSuch" l3)
def ay_4(F:Fun K "drop" "Living.drop" (Fx 28 10) f u):FnX P w K p r true 4 f u Lh (spR K 1 f_1):=
 bp_7 (n:=1) (N:= Lh) F ⋯ ⋯ λzq m d a o=>(Av (db_2 [1] (Ce m o l8 #v[1]))
  (Av (Ec [0,1] (Dl (bb_6 d) (Ad 1) (p_3 d5 (Ad 0)) (by with_unfolding_all rfl))
   (Bd (bb_8 v7 (RoomC.mono m ⋯) aq_6))
   Eh)
  (Bd (de_5 (i:=0) d5 (Ad 1)))))
def ag_0(F:Fun K "__init__" "Living.__init__" (Fx 28 0) f u){CI:Addr}(hCI:ClsAt K "Living" CI):FnX P w K p r true 1 f u ["self","part","salt","modulus"] (spJ K CI "Living" 3 w_9):=
 dv_3 (n:=3) (cn:= "Living") (N:=["self","part","salt","modulus"]) F hCI ⋯ ⋯ λzq m d a o=>(Av (aq_5 (i:=0) [1] l7 (Ad 1))
  (Av (aq_5 (i:=0) [2] j9 (Ad 2))
  (Av (aq_5 (i:=0) [3] f7 (Ad 3))
  (Av (aq_5 (i:=0) [1] f9 (do_1 #v[Am] (Ap Ea (x_2 rfl y9) (Ad 1))))
  (Bd (de_8 (i:=0) d5 aq_3))))))
variable(m6:ao_7 P w K p r)(i7:x_0 P w K p r)(n6:ax_6 P w K p r)(n9:ax_8 P w K p r)(j4:cc_5 P w K p r true "_law_put_right" 9 4 La g_0)(j7:MethR P w K p r true 4 1 "drop" "Living" f_1)(v9:MakJ P w K p r true "Living" 1 3 w_9)
def dr_5:AH P w K p r f u "law" 47 10 ["_law_script"] 1 di_9:=λF=>Df (N:=["_law_script","_law_cell_here","_law_sizes_here","_law_tables","_law_living","_law_kept","_law_k","_law_part","_law_modulus","_law_before","_law_deed_here","_law_key_here","_law_value"]) F λzq m d a o=>(Av (Bp (i:=1) [0] (Ce m o d7 #v[Ce m o d6 #v[0,Am],Am]) a)
  (@Av _ _ _ _ _ _ (@cq_1 _ _ _ _ _ [1] _ _ (@Dv _ _ _ _ _ _ _ (@p_0 _ _ _ _ _ (@Ah _ _ _ _ _ _ (j_7 #v[Am,Am]) (@Ah _ _ _ _ _ _ (j_7 #v[Am,Am]) (@Ah _ _ _ _ _ _ (j_7 #v[Am,Am]) (@Ah _ _ _ _ _ _ (j_7 #v[Am,Am]) (@Ah _ _ _ _ _ _ (j_7 #v[Am,Am]) (@Ah _ _ _ _ _ _ (j_7 #v[Am,Am]) (@Ah _ _ _ _ _ _ (j_7 #v[Am,Am]) #v[j_7 #v[Am,Am]] rfl) rfl) rfl) rfl) rfl) rfl) rfl)) (Ap Co (Ad 1) Am) (λ_ _=>rfl)) (dc_0 (i:=7) (j:=8) zq a) rfl rfl rfl)
  (Av (Bp (i:=2) [0,7,8] (j_7 #v[7,Dv (Ce m o m6 #v[0,Am]) Am,8]) a)
  (Av (Bp (i:=3) [7,8] (Ce m o i7 #v[Ap Ea Am (Ad 7),8]) a)
  (Av (Bp (i:=4) [2] (de_9 m o v9 #v[Dv (Ad 2) Am,Dv (Ad 2) Am,Dv (Ad 2) Am]) a)
  (Av (Bp (i:=5) [] aq_3 a)
  (Av (x_6 [0] h_1 zq (w_4 i8 #v[Ce m o n6 #v[0,Am,Am]]) (ac_5 (i:=6) a)
   (Av (df_0 (q_0 [5] (Ce m (Lk.lend o) n9 #v[0,Am,6,5,2])) (cb_7 zq (ad_0 (i:=10) a (ad_0 (i:=11) a (ad_0 (i:=12) a cr_9)))))
  (Av (s_1 (i:=9) (q_0 [4] (n_9 b8 m (Lk.lend o) (Ad 4))) a)
  (Bd (Ec [5,10,11] (td_w (cn_2 (Dl (bg_2 d) (Ad 11) (Ad 5) (by with_unfolding_all rfl)) (bz_1 (td_w (cn_3 (Dl (p_1 d) (Ad 10) Am (Dt _)) (bu_0 (Dl bu_3 (Es n_1 rfl d8 F7 #v[5]) Am (Dt _))))))))
   (Av (au_7 (t_6 [11] (ah_7 (i:=4) j7 m o (f_4 (Ad 11) af_2))))
  (Av (df_2 (i:=5) (Ad 11))
  (Bd (Ec [4,9] (Dl (ak_3 d) (n_9 b8 m o (Ad 4)) (Ad 9) (Dt _))
   (Bd (Ck [] bb_1))
   Eh))))
   (Bd (Ec [5,11] (td_w (cn_3 (Dl at_3 (Es n_1 rfl d8 F7 #v[5]) Am (Dt _)) (bu_0 (Dl (bg_2 d) (Ad 11) (Ad 5) (by with_unfolding_all rfl)))))
   (Bd (dp_5 (dp_4 (dv_2 (t_6 [2,3,11,12] (cj_2 (i:=4) (j:=5) m o j4 (f_4 (Ad 2) (f_4 (Ad 3) (f_4 (Ad 11) (f_4 (Ad 12) af_2))))))))
   (Bd (Ck [] bb_1))
   Eh))
   Eh)))))))
  (Bd (Ck [4,5] (ak_0 (p_1 d) (Es j_9 rfl d8 F7 #v[n_9 d9 m o (Ad 4)]) (Es n_1 rfl d8 F7 #v[5]) (Dt _)))))))))))
abbrev ay_5:Stmt:=Bm 47
end
def dr_6{l:PySem.W.OpenLaw}{w:World}{K:Frag}{h:Heap}{p:AB}{fa:Addr}(X:K.In h)(G:h.Ns mainGlobals p)(hfa:p "law" =some (.ref fa))
  {c7 n5 j6 g7 l3:Addr}
  {f39:Addr} {ah3 ag7:Option Addr} {ah5:Array (Option Value)} {ah4 ag9 ag2 ag5 af9 ag6:Value}
  {aa1 ae2 o6 ae3 af4:Tok}
  (c6:nsIn K mainGlobals "Living" =some (some (.ref c7)))
  (c8:Cls K c7)
  (ad0:makesIn K c7=true)
  (ad6:keepIn K (.ref c7)=true)
  (u9:NoAttr K c7 "listed")
  (y0:NoAttr K c7 "part")
  (t7:NoAttr K c7 "modulus")
  (p8:NoAttr K c7 "by_salt")
  (t8:NoAttr K c7 "by_key")
  (w1:FnTop K "_law_mix" (Bm 30))
  (w2:FnTop K "_law_cell" (Bm 31))
  (w3:FnTop K "_law_sizes" (Bm 38))
  (w4:FnTop K "_law_all_tables" (Bm 42))
  (w5:FnTop K "_law_many" (Bm 39))
  (w6:FnTop K "_law_raw" (Bm 37))
  (w7:FnTop K "_law_text" (Bm 35))
  (w8:FnTop K "_law_key" (Bm 36))
  (w9:FnTop K "_law_deed" (Bm 40))
  (w10:FnTop K "_law_stamp" (Bm 32))
  (w11:FnTop K "_law_mixed" (Bm 33))
  (w12:FnTop K "_law_places" (Bm 34))
  (w13:FnTop K "_law_tells_all" (Bm 44))
  (w14:FnTop K "_law_apart" (Bm 43))
  (w15:FnTop K "_law_fewest" (Bm 45))
  (w16:FnTop K "is_below" (Bm 8))
  (w17:FnTop K "steps_to" (Bm 27))
  (w18:FnTop K "remainder" (Bm 10))
  (w19:FnMet K c7 "shift" "Living.shift" (Fx 28 9))
  (w20:FnMet K c7 "mend" "Living.mend" (Fx 28 8))
  (w21:FnTop K "is_key_text" (Bm 17))
  (w22:FnTop K "is_key" (Bm 18))
  (w23:FnTop K "worth" (Bm 19))
  (w24:FnTop K "stamp" (Bm 20))
  (w25:FnTop K "mixed" (Bm 21))
  (w26:FnTop K "places_of" (Bm 23))
  (w27:FnMet K c7 "places" "Living.places" (Fx 28 4))
  (w28:FnTop K "summed" (Bm 11))
  (w29:FnMet K c7 "value" "Living.value" (Fx 28 1))
  (w30:FnTop K "ways_at" (Bm 26))
  (w31:FnMet K c7 "ways_without" "Living.ways_without" (Fx 28 5))
  (w32:FnMet K c7 "put" "Living.put" (Fx 28 7))
  (w33:FnTop K "_law_put" (Bm 41))
  (w34:FnMet K c7 "table" "Living.table" (Fx 28 3))
  (w35:FnMet K c7 "kept" "Living.kept" (Fx 28 2))
  (w36:FnTop K "_law_put_right" (Bm 46))
  (w37:FnMet K c7 "drop" "Living.drop" (Fx 28 10))
  (w38:FnMet K c7 "__init__" "Living.__init__" (Fx 28 0))
  (a39:nsIn K mainGlobals "law" =some (some (.ref f39))) (l39:K.lookup f39=some ⟨ah4,ah3,.func (fnOf "law" "law" (i_8 ay_5) (Ey ay_5) (Cc ay_5) .none ag9 ag2 ag5 ag7 af9 ag6),ah5⟩) (c39:codeIn K af9 "law" =true) (k39:keepIn K (.ref f39)=true)
  (ah1:nsIn K mainGlobals "len" =some none)
  (af3:nsIn K mainGlobals "range" =some none)
  (ah2:nsIn K mainGlobals "max" =some none)
  (ag8:nsIn K mainGlobals "min" =some none)
  (af7:nsIn K mainGlobals "list" =some none)
  (aa9:nsIn K mainGlobals "isinstance" =some none)
  (ah0:nsIn K mainGlobals "int" =some none)
  (ab3:nsIn K mainGlobals "enumerate" =some none)
  (af5:nsIn K mainGlobals "bool" =some none)
  (ag4:nsIn K mainGlobals "all" =some none)
  (ag3:nsIn K mainGlobals "str" =some none)
  (af1:nsIn K mainGlobals "tuple" =some none)
  (ag1:nsIn K mainGlobals "sum" =some none)
  (ae7:nsIn K mainGlobals "sorted" =some none)
  (ag0:nsIn K mainGlobals "dict" =some none)
  (ad2:kitOne K (.type "NoneType") (.type "int")=some false)
  (ae0:kitOne K (.type "bool") (.type "int")=some true)
  (ad1:kitOne K (.type "int") (.type "int")=some true)
  (ac5:kitOne K (.type "str") (.type "int")=some false)
  (ac4:kitOne K (.type "list") (.type "int")=some false)
  (ad7:kitOne K (.type "tuple") (.type "int")=some false)
  (ac1:kitOne K (.type "NoneType") (.type "bool")=some false)
  (ac7:kitOne K (.type "bool") (.type "bool")=some true)
  (ab9:kitOne K (.type "int") (.type "bool")=some false)
  (ab8:kitOne K (.type "str") (.type "bool")=some false)
  (ac0:kitOne K (.type "list") (.type "bool")=some false)
  (ab6:kitOne K (.type "tuple") (.type "bool")=some false)
  (ad3:kitOne K (.type "NoneType") (.type "str")=some false)
  (ad8:kitOne K (.type "bool") (.type "str")=some false)
  (ad5:kitOne K (.type "int") (.type "str")=some false)
  (ac9:kitOne K (.type "str") (.type "str")=some true)
  (ac3:kitOne K (.type "list") (.type "str")=some false)
  (ad4:kitOne K (.type "tuple") (.type "str")=some false)
  (aa3:nsIn K mainGlobals "MOST_SIGNS" =some (some (.int 11 aa1)))
  (ae8:nsIn K mainGlobals "SIGNS" =some (some (.str "abcdefghijklmnopqrstuvwxyz0123456789-_ " ae2)))
  (r9:nsIn K mainGlobals "GREATEST_NUMBER" =some (some (.int 999999999999999999 o6)))
  (af2:nsIn K mainGlobals "PRIME" =some (some (.int 2305843009213693951 ae3)))
  (af8:nsIn K mainGlobals "KIND" =some (some (.int 2 af4)))
  (y6:nsIn K mainGlobals "NoKey" =some (some (.ref n5)))
  (o5:nsIn K mainGlobals "NoValue" =some (some (.ref j6)))
  (aa0:nsIn K mainGlobals "Stuck" =some (some (.ref g7)))
  (t9:nsIn K mainGlobals "NoSuch" =some (some (.ref l3)))
  (ad9:XB K n5 "NoKey.__init__" "at" y_7)
  (z7:exmOne K (.ref n5) (.ref g7)=some false)
  (ab5:XB K j6 "NoValue.__init__" "at" u_3)
  (u7:exmOne K (.ref j6) (.ref g7)=some false)
  (ae5:XB9 K g7)
  (y4:exmOne K (.ref g7) (.ref g7)=some true)
  (ac2:XB9 K l3)
  (x0:exmOne K (.ref l3) (.ref g7)=some false):
  ∃u:FuncData,(∀(s:Shared) (v:Value),BindsTo s u ⟨[v],[]⟩ [("_law_script",v)])/\∀r:Heap,K.In r->r.Ns mainGlobals p->FnOk l.prog w K p r CX0 10 fa u ["_law_script"] (at_8 K):=by
 have ac8:=mg_of X G c6;have f9:OFld K ["Living"] "listed" :=(.one c6 c8 u9 .nil);have l7:OFld K ["Living"] "part" :=(.one c6 c8 y0 .nil);have f7:OFld K ["Living"] "modulus" :=(.one c6 c8 t7 .nil);have j9:OFld K ["Living"] "by_salt" :=(.one c6 c8 p8 .nil);have d5:OFld K ["Living"] "by_key" :=(.one c6 c8 t8 .nil);have ae1:=mg_of X G y6;have ab7:=mg_of X G o5;have p6:=mg_of X G aa0;have ac6:=mg_of X G t9;have y1:XC0 K p "Stuck" g7:=cs_1 aa0 p6 ae5;have v7:XC0 K p "NoSuch" l3:=cs_1 t9 ac6 ac2;have z9:Catches K g7 L49:=(.one y6 z7 (.one t9 x0 (.one o5 u7 (.one aa0 y4 .nil))));have e:=hfa.symm.trans (mg_of X G a39);cases e;have d8:=M3 X G ah1;have i8:=M3 X G af3;have aa2:=M3 X G ah2;have ab1:=M3 X G ag8;have y8:=M3 X G af7;have b7:=M3 X G aa9;have ab2:=M3 X G ah0;have j2:=M3 X G ab3;have n8:=M3 X G af5;have ae6:=M3 X G ag4;have ab0:=M3 X G ag3;have aa8:=M3 X G af1;have ae4:=M3 X G ag1;have z8:=M3 X G ae7;have ab4:=M3 X G ag0;have o8:KitT K "int" :=⟨ad2,ae0,ad1,ac5,ac4,ad7⟩;have j8:KitT K "bool" :=⟨ac1,ac7,ab9,ab8,ac0,ab6⟩;have p5:KitT K "str" :=⟨ad3,ad8,ad5,ac9,ac3,ad4⟩;have l4:=mg_of X G aa3;have r6:=mg_of X G ae8;have i6:=mg_of X G r9;have o9:=mg_of X G af2;have y9:=mg_of X G af8;have F39:=bt_8 (st:=ay_5) l39 c39 k39;refine⟨fnOf "law" "law" (i_8 ay_5) (Ey ay_5) (Cc ay_5) .none ag9 ag2 ag5 ag7 af9 ag6,λs v=> .of_eq rfl,λr _ _=> ?_⟩
 let lMd:=MethD l.prog w K p r true
 let lMt:=MethT l.prog w K p r true
 let lMk:=MakD l.prog w K p r true
 let lXC:=XC l.prog w K p r
 let lT:=λt:Program->World->Frag->(AB)->Heap->Prop=>t l.prog w K p r
 have aa4:lXC "NoKey" "at" n5:=di_5 y6 ae1 ad9 λF y z=>⟨az_5 F y z,bn2 F⟩;have u3:lXC "NoValue" "at" j6:=di_5 o5 ab7 ab5 λF y z=>⟨ap_7 F y z,bn2 F⟩;have d7:lT be_1:=Ef X G w1 λF=>⟨bx_6 F,bn2 F⟩;have d6:lT ax_5:=Ef X G w2 λF=>⟨br_9 d7 d8 F,bn2 F⟩;have m6:lT ao_7:=Ef X G w3 λF=>⟨bj_4 d7 d6 F,bn2 F⟩;have i7:lT x_0:=Ef X G w4 λF=>⟨aj_5 i8 F,bn2 F⟩;have n6:lT ax_6:=Ef X G w5 λF=>⟨bs_0 d8 d6 aa2 ab1 F,bn3 F⟩;have v5:lT be_2:=Ef X G w6 λF=>⟨bx_7 d7 d8 d6 F,bn2 F⟩;have o7:lT ax_7:=Ef X G w7 λF=>⟨bs_1 i8 F,bn1 F⟩;have u6:lT be_3:=Ef X G w8 λF=>⟨bx_8 o7 F,bn1 F⟩;have n9:lT ax_8:=Ef X G w9 λF=>⟨bs_2 d7 d8 d6 aa2 v5 u6 y8 F,bn5 F⟩;have m8:lT ao_8:=Ef X G w10 λF=>⟨bj_5 b7 ab2 o8 F,bn1 F⟩;have k7:lT ao_9:=Ef X G w11 λF=>⟨bj_6 F,bn3 F⟩;have g9:lT aj_3:=Ef X G w12 λF=>⟨az_6 m8 k7 F,bn2 F⟩;have f8:lT z_6:=Ef X G w13 λF=>⟨an_0 F,bn3 F⟩;have j3:lT ap_0:=Ef X G w14 λF=>⟨bj_7 d8 j2 F,bn2 F⟩;have l6:lT aj_4:=Ef X G w15 λF=>⟨az_7 ab1 g9 f8 j3 F,bn4 F⟩;have k4:lT ax_9:=Ef X G w16 λF=>⟨bs_3 b7 n8 j8 F,bn2 F⟩;have l9:lT ay_0:=Ef X G w17 λF=>⟨bs_4 d8 F,bn2 F⟩;have i9:lT ap_1:=Ef X G w18 λF=>⟨bj_8 F,bn2 F⟩;have g8:MethR l.prog w K p r true 2 3 "shift" "Living" d_2:=cc_2 c6 c8 w19 λF=>⟨ap_8 j2 i9 f9 l7 f7 F,bn4 F⟩;have k6:MethR l.prog w K p r true 3 3 "mend" "Living" g_8:=cc_2 c6 c8 w20 λF=>⟨ay_1 d8 l9 g8 y1 F,bn4 F⟩;have k8:lT ae_6:=Ef X G w21 λF=>⟨ay_2 d8 ae6 l4 r6 F,bn1 F⟩;have z6:lT br_7:=Ef X G w22 λF=>⟨ck_9 b7 ab2 o8 n8 j8 k8 ab0 p5 i6 F,bn1 F⟩;have aa7:lT ce_2:=Ef X G w23 λF=>⟨cx_9 r6 F,bn1 F⟩;have l8:lT ce_3:=Ef X G w24 λF=>⟨cy_0 b7 ab0 p5 z6 aa7 aa4 F,bn1 F⟩;have aa5:lT ce_4:=Ef X G w25 λF=>⟨cy_1 o9 F,bn3 F⟩;have m7:lT ap_2:=Ef X G w26 λF=>⟨bj_9 i8 l8 aa5 aa8 F,bn4 F⟩;have u4:lMd 5 1 "places" "Living" c_2:=bo_5 c6 c8 w27 λF=>⟨an_1 l7 m7 j9 y9 F,bn2 F⟩;have y3:lT br_8:=Ef X G w28 λF=>⟨cl_0 d8 i9 k4 ae4 F,bn3 F⟩;have c9:lMt 5 1 "places" [("Living",c_2)]:=(mto u4 mtn);have x8:lMd 6 1 "value" "Living" e_8:=bo_5 c6 c8 w29 λF=>⟨ap_9 f9 f7 y3 c9 F,bn2 F⟩;have v6:lT be_4:=Ef X G w30 λF=>⟨bx_9 F,bn1 F⟩;have l5:lMd 6 1 "ways_without" "Living" b_2:=bo_5 c6 c8 w31 λF=>⟨y_8 c9 v6 d5 F,bn2 F⟩;have j5:lMt 6 1 "value" [("Living",e_8)]:=(mto x8 mtn);have f6:lMt 6 1 "ways_without" [("Living",b_2)]:=(mto l5 mtn);have k9:MethR l.prog w K p r true 7 2 "put" "Living" i_2:=cc_2 c6 c8 w32 λF=>⟨az_8 f7 k4 c9 d5 k6 j5 f6 u3 F,bn3 F⟩;have u5:FnRd l.prog w K p r true "_law_put" 8 2 Lg n_7:=df_3 X G w33 λF=>⟨by_0 k9 p6 z9 F,bn3 F⟩;have x9:lMd 1 0 "table" "Living" b_3:=bo_5 c6 c8 w34 λF=>⟨aq_0 y8 f9 F,bn1 F⟩;have y7:lMd 5 0 "kept" "Living" d_3:=bo_5 c6 c8 w35 λF=>⟨ay_3 l8 d5 z8 F,bn1 F⟩;have b8:lMt 1 0 "table" [("Living",b_3)]:=(mto x9 mtn);have d9:lMt 5 0 "kept" [("Living",d_3)]:=(mto y7 mtn);have j4:cc_5 l.prog w K p r true "_law_put_right" 9 4 La g_0:=ct_8 X G w36 λF=>⟨an_2 b7 g9 f8 j3 n8 j8 l6 u5 b8 d9 ab4 F,bn6 F⟩;have j7:MethR l.prog w K p r true 4 1 "drop" "Living" f_1:=cc_2 c6 c8 w37 λF=>⟨ay_4 l8 d5 v7 F,bn2 F⟩;have v9:MakJ l.prog w K p r true "Living" 1 3 w_9:=dp_7 c6 ac8 ad0 ad6 w38 λF=>⟨ag_0 f9 l7 f7 j9 y9 d5 F c6,bn4 F⟩;exact do_0 (dr_5 (P:=l.prog) (w:=w) (r:=r) d7 d8 d6 i8 b8 d9 m6 i7 n6 n9 j4 j7 v9 F39) cx_8
end My


open PySem PySem.W PyProof.Rows
set_option maxRecDepth 100000 in
set_option maxHeartbeats 0 in
theorem PySem.Challenge.cw_lodge_k72_fewest_changes_holds : PySem.Challenge.rw_lodge_k72_fewest_changes.Holds := by
 w_on; o_law; k_head; (case hw => w_witness2)
 k_fill
 refine L3.du_8 (l := PySem.Challenge.rw_lodge_k72_fewest_changes) (x := "_law_script") (k := 10) rfl rfl ⟨rfl, by decide, by decide⟩ (λw h Y => PySem.W.kIn_of Y) ?F
 case F =>
  intro w mg fa h KX G hmg
  refine' My.dr_6 KX G hmg ?c1 ?c2 ?c3 ?c4 ?c5 ?c6 ?c7 ?c8 ?c9 ?c10 ?c11 ?c12 ?c13 ?c14 ?c15 ?c16 ?c17 ?c18 ?c19 ?c20 ?c21 ?c22 ?c23 ?c24 ?c25 ?c26 ?c27 ?c28 ?c29 ?c30 ?c31 ?c32 ?c33 ?c34 ?c35 ?c36 ?c37 ?c38 ?c39 ?c40 ?c41 ?c42 ?c43 ?c44 ?c45 ?c46 ?c47 ?c48 ?c49 ?c50 ?c51 ?c52 ?c53 ?c54 ?c55 ?c56 ?c57 ?c58 ?c59 ?c60 ?c61 ?c62 ?c63 ?c64 ?c65 ?c66 ?c67 ?c68 ?c69 ?c70 ?c71 ?c72 ?c73 ?c74 ?c75 ?c76 ?c77 ?c78 ?c79 ?c80 ?c81 ?c82 ?c83 ?c84 ?c85 ?c86 ?c87 ?c88 ?c89 ?c90 ?c91 ?c92 ?c93 ?c94 ?c95 ?c96 ?c97 ?c98 ?c99 ?c100 ?c101
  (case c1|c3|c4|c48|c49|c50|c51|c52|c53|c54|c55|c56|c57|c58|c59|c60|c61|c62|c63|c64|c65|c66|c85|c86|c87|c88|c89|c90|c91|c92|c93=>k_is)
  (case c2=>(refine' L2.Cls.mk ?z0 ?z1 ?z2 ?z3;(case z0=>k_is);(case z1=>k_is);(case z2=>k_is);(case z3=>k_is)))
  (case c5|c6|c7|c8|c9=>(refine' L3.NoAttr.mk ?z0;(case z0=>k_is)))
  (case c10|c11|c12|c13|c14|c15|c16|c17|c18|c19|c20|c21|c22|c23|c24|c25|c26|c27|c30|c31|c32|c33|c34|c35|c37|c39|c42|c45=>(refine' L3.FnTop.mk ?a ?l ?c ?k;(case a=>k_is);(case l=>k_is);(case c=>k_is);(case k=>k_is)))
  (case c28|c29|c36|c38|c40|c41|c43|c44|c46|c47=>(refine' L3.FnMet.mk ?a ?l ?c ?k ?i;(case a=>k_is);(case l=>k_is);(case c=>k_is);(case k=>k_is);(case i=>k_is)))
  (case c67|c68|c69|c70|c71|c72|c73|c74|c75|c76|c77|c78|c79|c80|c81|c82|c83|c84=>kit_is)
  (case c94|c96=>(refine' L3.XB.mk ?z0 ?z1 ?z2 ?z3 ?z4 ?z5 ?z6 ?z7 ?z8 ?z9 ?z10 ?z11 ?z12 ?z13 ?z14;(case z0=>k_is);(case z1=>k_is);(case z2=>k_is);(case z3=>rfl);(case z4=>rfl);(case z5=>k_is);(case z6=>k_is);(case z7=>rfl);(case z8=>rfl);(case z9=>k_is);(case z10=>k_is);(case z11=>k_is);(case z12=>k_is);(case z13=>k_is);(case z14=>k_is)))
  (case c95|c97|c99|c101=>kts_exm)
  (case c98|c100=>(refine' L3.XB0 ?z0 ?z1 ?z2 ?z3 ?z4 ?z5 ?z6 ?z7 ?z8;(case z0=>k_is);(case z1=>k_is);(case z2=>rfl);(case z3=>rfl);(case z4=>k_is);(case z5=>k_is);(case z6=>rfl);(case z7=>rfl);(case z8=>k_is)))

end
