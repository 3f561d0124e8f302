import PyProof.Rows.All
import Wide.All
import OpenK.AllK
import Wide.FinOn
import Lean
import PyProof.EqAt
import PyProof.EqKinds
import PyProof.TupleCall
import PySem.Challenge.RW_lodge_k73_rings_and_stuck
set_option Elab.async false
set_option linter.all false
set_option maxRecDepth 100000
set_option genSizeOf false
def A3:=@List.length_map
def A4:=@PySem.Heap.get?_push_of_some
def A5:=@PySem.Heap.lt_size
def A6:=@Bool.false_ne_true
def A7:=@PySem.wpAny_bind
def A8:=@List.getElem?_map
def A9:=@List.length_cons
def B3:=@List.map_cons
def B4:=@List.getElem?_eq_some_iff
def B5:=@Nat.le_refl
def B6:=@List.mem_append_right
def B7:=@List.length_append
def B8:=@PySem.Heap.get?_push_size
def B9:=@List.getElem?_eq_getElem
def C1:=@decide_eq_false
def C4:=@List.mem_cons_of_mem
def C5:=@Nat.lt_of_lt_of_le
def C6:=@List.mem_cons
def C7:=@List.getElem?_set_ne
def C8:=@List.mem_cons_self
def C9:=@List.mem_singleton
def D4:=@Nat.le_trans
def D5:=@List.size_toArray
def D6:=@decide_eq_true
def D7:=@Nat.ne_of_lt
def D8:=@List.append_nil
def D9:=@Bool.and_eq_true
def E4:=@List.getElem?_append_left
def E7:=@Option.map_eq_some_iff
def E8:=@List.mem_append_left
def E9:=@List.map_append
def F0:=@PySem.wpAny_pure
def F1:=@PySem.sizeLine_eq
def F2:=@List.mem_append
def F3:=@PySem.wpAny_mono
def F4:=@Nat.lt_irrefl
def F5:=@List.lookup_cons
def F6:=@Option.some.inj
def F7:=@List.mem_map
def F8:=@PySem.boot_len
def F9:=@List.length_nil
def G6:=@List.length_set
def J6:=@Int.emod_lt_of_pos
def J7:=@List.getElem?_set_self
def J8:=@List.append_assoc
def J9:=@List.getElem?_append_right
def K0:=@Option.bind_eq_some_iff
def K1:=@List.nodup_cons
def K2:=@PySem.Heap.get?_update_other
def K3:=@Int.emod_nonneg
def K4:=@List.getElem?_replicate
def K5:=@congrArg
def K6:=@Nat.zero_le
def K7:=@List.all_eq_true
def K8:=@List.replicate_succ
def K9:=@Option.map_some
def L0:=@PySem.Calls.callWith_builtin
def L1:=@List.length_replicate
def L4:=@List.length_filter_le
def L5:=@List.getElem?_eq_none
def L6:=@Option.isSome_iff_exists
def L7:=@Bool.and_self
def L8:=@List.map_map
def L9:=@PySem.W.mg_none_of
def M0:=@PySem.Calls.spliced_cons
def M3:=@PySem.wpAny_Call_Name_kw
def M4:=@List.contains_cons
def M5:=@List.zip_cons_cons
def M6:=@List.mem_of_getElem?
def M7:=@Nat.le_succ
def M8:=@beq_self_eq_true
def M9:=@List.getElem?_cons_zero
def N0:=@PyProof.Rows.callWith_type1
def N1:=@beq_iff_eq
def N2:=@PySem.Heap.size_push
def N3:=@PySem.wpAny_loadPart_at
def N4:=@of_decide_eq_true
def N5:=@List.getD_eq_getElem?_getD
def N6:=@PySem.mem_of_lookup
def N7:=@List.map_nil
def N8:=@List.flatten_cons
def N9:=@PySem.F.plainAttrs_dict
def O0:=@List.getElem?_cons_succ
def O4:=@beq_eq_false_iff_ne
def O5:=@Array.getElem?_eq_some_iff
def O6:=@List.pairwise_cons
def O7:=@List.mem_filter
def O8:=@PySem.wpAny_passesOwn
def O9:=@List.find?_cons
def P0:=@Nat.le_of_lt
def P1:=@PySem.Heap.get?_none_of_le
def P2:=@PySem.wpAny_truthy_bool
def P3:=@PySem.Calls.spliced_nil
def P4:=@List.all_cons
def P5:=@List.any_cons
def P6:=@PySem.wpAny_standAt
def P7:=@PySem.wpAny_comprehension_free
def P8:=@Array.length_toList
def P9:=@List.cons_append
def Q0:=@List.filter_cons
def Q1:=@PySem.F.plainAttrs_list
def Q2:=@Option.getD_some
def Q3:=@List.mem_flatMap
def Q4:=@PySem.codeAny_mono
def Q5:=@PySem.tupleKind_room_in1
def Q6:=@Bool.false_eq_true
def Q7:=@List.find?_cons_of_pos
def Q8:=@List.find?_cons_of_neg
def Q9:=@Bool.eq_iff_iff
def R0:=@PySem.wpAny_loadPart'
def R1:=@List.nil_append
def R3:=@List.cons.injEq
def R4:=@PySem.Heap.get?_update_self
def R5:=@List.contains_iff_mem
def R6:=@List.mem_range
def R7:=@PySem.Calls.evalArgs_plain
def R8:=@Int.add_mul_emod_self_left
def R9:=@Nat.mod_two_eq_zero_or_one
def S3:=@Nat.le_of_eq
def S4:=@Nat.lt_succ_self
def S5:=@Nat.zero_add
def S6:=@List.take_length
def S7:=@List.not_mem_nil
def S8:=@List.filter_eq_self
def S9:=@if_false
def T3:=@PySem.wpAny_execs_nil
def T4:=@Bool.or_eq_true
def T5:=@List.mem_filterMap
def T6:=@PySem.Code.quiet_builtin
def T7:=@PySem.wpAny_Call_method0_late
def T8:=@PySem.wpAny_assign_Name
def T9:=@PySem.call_meetsIn
def U1:=@List.ext_getElem?
def U2:=@List.length_range
def U3:=@List.drop_eq_nil_of_le
def U4:=@PySem.wpAny_pyIter_enum
def U5:=@Nat.lt_succ_of_lt
def U6:=@PyProof.Rows.boot_list
def U7:=@List.take_add_one
def U8:=@PySem.plainObj_wpAny_Assign_Attribute
def U9:=@Array.getElem?_toList
def V0:=@PySem.Obj.isFreed_of_fields
def V1:=@PySem.F.slot_dict_get
def V2:=@PyProof.Rows.boot_max
def V3:=@List.length_take
def V4:=@PyProof.Rows.callWith_builtin1
def V5:=@PySem.wpAny_call
def V6:=@List.perm_middle
def V7:=@PySem.Paired.length
def V8:=@PySem.wpAny_holding
def V9:=@List.eq_nil_of_length_eq_zero
def W0:=@Bool.or_eq_false_iff
def W1:=@decide_true
def W2:=@List.of_mem_zip
def W3:=@List.length_zip
def W4:=@PySem.F.slot_dict_setdefault
def W5:=@List.filterMap_cons
def W6:=@PySem.evalArgs_none
def W7:=@PySem.wpAny_isSubtype_exc
def W8:=@List.getElem?_range
def W9:=@List.mem_map_of_mem
def X0:=@Nat.ne_of_gt
def X1:=@decide_false
def X2:=@PySem.W.callWith_K
def X3:=@PySem.Calls.Name_function_global
def X4:=@PySem.Obj.data_mapFields
def X5:=@PySem.wpAny_letOwnedTupleGo_enum
def X6:=@PySem.F.excBase_ValueError
def X7:=@List.set_cons_zero
def X8:=@PySem.codeAny_call_builtin_code
def X9:=@PySem.wpAny_check_type_call_sub
def Y0:=@PySem.wpAny_newObj_type
def Y1:=@Option.isSome_map
def Y2:=@PySem.wpAny_Call_method
def Y3:=@PySem.wpAny_pyIter_list
def Y4:=@PySem.F.slot_list_append
def Y5:=@PySem.F.type_list_append
def Y6:=@Nat.succ_le_succ
def Y7:=@PySem.codeAny_call_builtin_at
def Y8:=@PySem.F.args_dict_get_3
def Y9:=@PySem.wpAny_pyNext_enum_itemD
def Z0:=@List.getElem_mem
def Z1:=@List.filter_cons_of_neg
def Z2:=@List.filter_cons_of_pos
def Z3:=@PySem.F.plain_list_iadd
def Z4:=@PySem.F.slot_dict_items
def Z5:=@List.any_eq_true
def Z6:=@and_self
def Z7:=@decide_eq_decide
def Z8:=@PyProof.Rows.subscriptTail_builtinR
def Z9:=@PySem.call_meets
def ZA0:=@PySem.F.entry_dict_get
def ZA1:=@PySem.wpAny_pyNext_enum_endD
def ZA2:=@Nat.min_self
def ZA3:=@Nat.not_lt
def ZA4:=@PySem.F.slot_dict_keys
def ZA5:=@PySem.F.plainAttrs_str
def ZA6:=@List.foldl_cons
def ZA7:=@PySem.W.cellsFrom_some
def ZA8:=@PySem.W.looks_clsIn
def ZA9:=@PySem.W.plainGet_of
def ZB0:=@PySem.wpAny_setField
def ZB1:=@PySem.wpAny_field
def ZB2:=@Bool.not_false
def ZB3:=@PySem.W.methodCall_KW
def ZB4:=@Bool.not_true
def ZB5:=@PySem.W.Looks.here
def ZB6:=@PySem.W.looks_findIn
def ZB7:=@Bool.or_true
def ZB8:=@List.all_nil
local macro_rules|`(tactic|trivial)=>`(tactic|first|exact Or.inl rfl|exact Or.inr rfl|exact Or.inr (Or.inl rfl)|exact Or.inr (Or.inr rfl))
namespace PySem.W.Fast
def tw17517662901652644969:=0
def tw10827062245868713535:=0
def tw4931436654959493713:=0
def tw17902122327093906842:=0
def tw3302224714541942940:=0
def tw8119629200430544028:=0
def tw2057219061652453850:=0
def tw7703708993897008112:=0
def tw11278125504843961883:=0
def tw13584840144394811356:=0
def tw9275256278419811072:=0
def tw10221218914840934939:=0
def tw8461270891598734902:=0
def tw12663810499465148247:=0
def tw2121180656712792235:=0
def tw18337244621812436914:=0
def tw873969710686403114:=0
def tw8636707470395378192:=0
def tw4552587108182015054:=0
def tw7230389410413795357:=0
def tw17454709148135795290:=0
def tw353624237392592932:=0
def tw16908886934944824511:=0
def tw9434448100483927924:=0
def tw12301180456243919514:=0
def tw14568085865576926910:=0
def tw643855855506717863:=0
def tw12026309380783735960:=0
def tw11485901593393743844:=0
def tw8779667894654624468:=0
def tw1532003772797854900:=0
def tw14257540368501962271:=0
def tw6212611954642733900:=0
def tw3847615537041867370:=0
def tw15723836088453160032:=0
def tw99999930078259161:=0
def tw9929801135580862212:=0
def tw1993635055856868616:=0
def tw15466290973440308340:=0
def tw1629496039273384171:=0
def tw6062911035401948466:=0
def tw18114007480557095460:=0
def tw18371740100052963807:=0
def tw3813812883156286172:=0
def tw2840992265289002242:=0
def tw1398982965262648638:=0
def tw16834081362460257602:=0
def tw5689372518641791225:=0
def tw10974268401417279533:=0
def tw13105282719101975037:=0
def tw6620453910743599493:=0
def tw1221737780049954480:=0
def tw14255113593880749481:=0
def tw4060693824700326280:=0
def tw11730289319190362146:=0
def tw1176025585843742303:=0
def tw7073620664085944289:=0
def tw6809052660798661447:=0
def tw5532941443760941989:=0
def tw579314866741454770:=0
def tw12234687647630653426:=0
def tw18230557405613312555:=0
def tw15010876659681256803:=0
def tw15542871326742709392:=0
def tw14282102143414571678:=0
def tw10674517767722297440:=0
def tw7695760286554729901:=0
def tw12787225629652112372:=0
def tw13633965316321134667:=0
def tw16862749546757403713:=0
def tw14451596464981060298:=0
def tw8681037794530514093:=0
def tw333400652581589469:=0
def tw1894939977537833723:=0
def tw16150346960430275945:=0
def tw4797768353864969289:=0
def tw2067757461083979979:=0
def tw9091484956093440696:=0
def tw5640272270433084172:=0
def tw17462739476423252713:=0
def tw13380922475462854995:=0
def tw3641835005052346018:=0
def tw1716785115173856502:=0
def tw12996509452864001662:=0
def tw10029458248703159396:=0
def tw5330871215296362242:=0
def tw17973541431808607912:=0
def tw2712508647145460739:=0
def tw15735812234794194660:=0
def tw4189950469554076284:=0
def tw2322043775529776746:=0
def tw11508465842622989691:=0
def tw15408376112963862189:=0
def tw12703063523920894563:=0
def tw8647392800659950621:=0
def tw3186108905248126198:=0
def tw3620353318290102349:=0
def tw8164670245645268399:=0
def tw222314577048843373:=0
def tw3366707672652036531:=0
def tw4442969155676546957:=0
def tw13574414327527542314:=0
def tw12889309607830746782:=0
def tw11452366853722754130:=0
def tw4068554322103706968:=0
def tw8672982477979258756:=0
def tw17097368579097839623:=0
def tw10761432168233359692:=0
def tw8221908246443399872:=0
def tw1119095043813983207:=0
def tw17988145302739113024:=0
def tw5163892552062871393:=0
def tw12206353370120579482:=0
def tw600866770493755739:=0
def tw4065017422139223332:=0
def tw4282446599175587067:=0
def tw11065025261339656699:=0
def tw7234773130364265377:=0
def tw15780199981081501843:=0
def tw6990349517744485955:=0
def tw10261826456671399978:=0
def tw1884098015419261935:=0
def tw2496164822344388882:=0
def tw60129770657947411:=0
def tw2274948969490846977:=0
def tw14966869088312632989:=0
def tw14545178925074829485:=0
def tw5329001692586903226:=0
def tw16338184130862254964:=0
def tw8952298855475752595:=0
def tw4068504076091817919:=0
def tw2307827742073218513:=0
def tw17462901605525051298:=0
def tw7188398097634269480:=0
def tw5599105900901411282:=0
def tw14102341701300687602:=0
def tw13264793252996817279:=0
def tw7031338526178297182:=0
def tw12134590840116506455:=0
def tw12605877606059536831:=0
def tw13571302395914129911:=0
def tw6090715287870573771:=0
def tw12571611556550599402:=0
def tw9627040359262524922:=0
def tw1958106340158380964:=0
def tw964900154595842580:=0
def tw8541289294302379311:=0
def tw1536352454006094095:=0
def tw18034833661599975224:=0
def tw17651209813620105497:=0
def tw15246381338508261371:=0
def tw13557307819856691518:=0
def tw8760695639704176837:=0
def tw462312720832847413:=0
def tw14011796331856593233:=0
def tw4517373254559292516:=0
def tw15060490353431902134:=0
def tw9640999558910220798:=0
def tw9067269860387744341:=0
def tw11373730527219250275:=0
def tw678881974164032170:=0
def tw5241986968769353387:=0
def tw9874578397311021603:=0
def tw9040215861873545759:=0
def tw5571886302932425866:=0
def tw6722689194976289459:=0
def tw14993245015996517555:=0
def tw6442890200138086179:=0
def tw17081450276348618826:=0
def tw9829924279084453845:=0
def tw6709537029773899283:=0
def tw11736010658905908410:=0
def tw6568601928132395298:=0
def tw15964898395928152823:=0
def tw11615122347777793560:=0
def tw10460743514362652060:=0
def tw10285089795906355692:=0
def tw12445198945097443376:=0
def tw15642405959245540312:=0
def tw9922074869850949795:=0
def tw17096700401238229015:=0
def tw12014813687049392958:=0
def tw7764326995788837219:=0
def tw5077087746808414018:=0
def tw9153050155027165082:=0
def tw6008804955534928403:=0
def tw15744882523609308810:=0
def tw7168622573704873223:=0
def tw16830682754898485898:=0
def tw126955870393406707:=0
def tw481716263583087198:=0
def tw9080795315954861552:=0
def tw11339119890004310670:=0
def tw8633749118472740600:=0
def tw2463302983934428649:=0
def tw11017339289064861656:=0
def tw12538327660691355591:=0
def tw10492444575160592613:=0
def tw4788095056879617944:=0
def tw7232951777358046664:=0
def tw7833774883060625792:=0
def tw10446004095555875054:=0
def tw4517040391125411535:=0
def tw17581424499093956070:=0
def tw13579474976908206569:=0
def tw15561934293853569944:=0
def tw15470191534992562008:=0
def tw7437122253178942930:=0
def tw17330677484227811080:=0
def tw5893632728804214581:=0
def tw5335946831726050976:=0
def tw5455157178456100232:=0
def tw18007433475239004632:=0
def tw15874079237682494179:=0
def tw9843604758829993225:=0
def tw11191489504955032848:=0
def tw521161671445203951:=0
def tw8515270733351485900:=0
def tw2472691575705998199:=0
def tw17937983999922671314:=0
def tw13369006297964430064:=0
def tw201816807576102968:=0
def tw5613586283340871742:=0
def tw17045993127315352151:=0
def tw15052529261420668082:=0
def tw14887118531248216625:=0
def tw9630418560260571135:=0
def tw7694159940302206270:=0
def tw7281338540812898816:=0
def tw16823950949603390794:=0
def tw7306894605602629481:=0
def tw8777951399246592371:=0
def tw7809726024455727396:=0
def tw15339723004582277454:=0
def tw14771945343796692989:=0
def tw510693310600145039:=0
def tw12339054004219471202:=0
def tw12319477348613256817:=0
def tw12015799752326309951:=0
def tw10292761987284522101:=0
def tw2655939603361721178:=0
def tw9325520123130528682:=0
def tw11417549432690038893:=0
def tw18388424602980699084:=0
def tw3939166721184579382:=0
def tw4984419902027360689:=0
def tw17589161657592067985:=0
def tw4508845431774639506:=0
def tw11580182723158063994:=0
def tw14467011445974100155:=0
def tw13498386907038808453:=0
def tw8239625979562676284:=0
def tw7034514290069811493:=0
def tw11599602137205241602:=0
def tw3510611380224539305:=0
def tw7573254243886128718:=0
def tw17640812972963688619:=0
def tw3353976726481215927:=0
def tw4105514070434265991:=0
end PySem.W.Fast
noncomputable section
open PySem.W (Frag InitBack InstAt KdlKeysView Looks any_some bind_fn callWith_K callWith_K0 cellsFrom_some check_slot clsIn codeIn codeRec_of emptyDict eq_bytes exmOne exm_one findCls findIn findObj_own fnOf get_value handedIn hasDictIn hideAll hideAll_get hideAll_none hideAll_size instObj isFn kcp_self kdl_call kdl_dict kdl_keys kdl_meets_keys keepIn keq_ne kia_one kitOne kitx_bool kitx_int kitx_list kitx_none kitx_str kitx_tuple kun_itemsOf lookIn looks_clsIn looks_findIn looks_mroIn make_core makesIn makes_of methodCall_KW methodObj method_fn mg_none_of mg_of mroIn ne_bytes nsIn of_hideAll osa_eq osa_open plainGet plainGet_of plainOver readsIn set_plain specialIn takerIn takesIn truthy_bytes typeIn)
local macro_rules
 | `(tactic| rfl') => `(tactic| kernel_rfl)
local macro_rules
 | `(tactic| simp![$xs,*] $[$l:location]?) => `(tactic| simp only[Nat.reduceAdd, Nat.reduceSub, Nat.reduceLeDiff, ↓reduceIte, reduceCtorEq, $xs,*] $[$l:location]?)
local macro_rules|`(())=>`(by omega)
local macro_rules|`(⋯)=>`(by decide)|`(nofun)=>`(by decide +kernel)|`(∅)=>`(by rfl')
abbrev AG(x:PySem.Str):Prop:=(x==("__debug__" :PySem.Str))=false
abbrev AE:=List (PySem.Addr×PySem.Obj)
abbrev AB:=PySem.Str->Option PySem.Value
abbrev AA:=PySem.Value->PySem.Shared->Prop
namespace L2
open PySem PySem.Spec PyProof.Rows
abbrev Af:=Sum Int Str
def bb_2:Af->Value->Bool
 | .inl k,v=>Value.isInt k v
 | .inr x,v=>Value.isStrOf x v
def keyH(w:World):Af->Int
 | .inl k=>hashInt k
 | .inr x=>hashStr w x
def h_7:∀{k:Af} {v:Value},bb_2 k v=true->(∃i t,k=Sum.inl i/\v=Value.int i t)\/(∃x t,k=Sum.inr x/\v=Value.str x t)
 | .inl i,v,h=>by
  obtain⟨t,e⟩:=Value.isInt_shape (k:=i) (v:=v) h;exact .inl ⟨i,t,rfl,e⟩
 | .inr x,v,h=>by
  obtain⟨t,e⟩:=Value.isStrOf_shape (x:=x) (v:=v) h;exact .inr ⟨x,t,rfl,e⟩
def ce_8(i:Int)(t:Tok):bb_2 (.inl i) (.int i t)=true:=by simp[bb_2,Value.isInt]
def ce_9(x:Str)(t:Tok):bb_2 (.inr x) (.str x t)=true:=by simp[bb_2,Value.isStrOf]
def dj_1(a b:Int):decide ((Sum.inl a:Af)=Sum.inl b)=(a ==b):=by
 by_cases e:a=b
 ·subst e;simp
 ·have h:¬(Sum.inl a:Af)=Sum.inl b:=λq=>e (Sum.inl.inj q);rw[C1 h];exact(O4.mpr e).symm
def dj_2(a b:Str):decide ((Sum.inr a:Af)=Sum.inr b)=decide (a=b):=by
 by_cases e:a=b
 ·subst e;simp
 ·have h:¬(Sum.inr a:Af)=Sum.inr b:=λq=>e (Sum.inr.inj q);rw[C1 h,C1 e]
def dj_3(a:Int)(b:Str):decide ((Sum.inl a:Af)=Sum.inr b)=false:=C1 (λq=>nomatch q)
def dj_4(a:Str)(b:Int):decide ((Sum.inr a:Af)=Sum.inl b)=false:=C1 (λq=>nomatch q)
def Dx(prog:Program)(w:World):PySem.KeyKind prog w Af where
 is:=bb_2
 hash:=keyH w
 inj:=λv a b ha hb=>by
  rcases h_7 ha with⟨i,t,rfl,rfl⟩|⟨x,t,rfl,rfl⟩
  ·rcases h_7 hb with⟨j,u,rfl,e⟩|⟨y,u,rfl,e⟩
   ·injection e with e1 _;rw[e1]
   ·exact nomatch e
  ·rcases h_7 hb with⟨j,u,rfl,e⟩|⟨y,u,rfl,e⟩
   ·exact nomatch e
   ·injection e with e1 _;rw[e1]
 byValue:=λk v h=>by
  rcases h_7 h with⟨i,t,rfl,rfl⟩|⟨x,t,rfl,rfl⟩ <;> rfl
 pyHash:=λhv h=>by
  rcases h_7 hv with⟨i,t,rfl,rfl⟩|⟨x,t,rfl,rfl⟩
  ·exact wpAny_pyHash_int h
  ·exact wpAny_pyHash_str h
 eqBool:=λhu hv h=>by
  rcases h_7 hu with⟨i,t,rfl,rfl⟩|⟨x,t,rfl,rfl⟩
  ·rcases h_7 hv with⟨j,u,rfl,rfl⟩|⟨y,u,rfl,rfl⟩
   ·rw[dj_1]at h;exact wpAny_eqBool_int h
   ·rw[dj_3]at h;exact SeqAt.EqAt.int_str i t y u _ _ _ _ h
  ·rcases h_7 hv with⟨j,u,rfl,rfl⟩|⟨y,u,rfl,rfl⟩
   ·rw[dj_4]at h;exact SeqAt.EqAt.str_int x t j u _ _ _ _ h
   ·rw[dj_2]at h;exact wpAny_eqBool_str h
 «strs»:=λk x t v h=>by
  rcases h_7 h with⟨i,u,rfl,e⟩|⟨y,u,rfl,e⟩
  ·exact nomatch e
  ·injection e with e1 _
   subst e1;cases v <;> rfl
def bl_7(prog:Program)(w:World)(i:Int)(t:Tok):(Dx prog w).is (.inl i) (.int i t)=true:=ce_8 i t
def bl_8(prog:Program)(w:World)(x:Str)(t:Tok):(Dx prog w).is (.inr x) (.str x t)=true:=ce_9 x t
inductive V where
 |non|bl (b:Bool)|int (i:Int)|str (x:Str)|byt (b:Array UInt8)|flt (b:UInt64)|ref (a:Addr)|ty (n:String)
 deriving DecidableEq
def RelV:V->Value->Prop
 | .non,u=>u=Value.none
 | .bl b,u=>u=Value.bool b
 | .int i,u=>∃t,u=Value.int i t
 | .str x,u=>∃t,u=Value.str x t
 | .byt b,u=>∃t,u=Value.bytes b t
 | .flt b,u=>∃t,u=Value.float b t
 | .ref a,u=>u=Value.ref a
 | .ty n,u=>u=Value.type n
abbrev Vals:List V->List Value->Prop:=Paired RelV
theorem Vals.length{xs:List V}{us:List Value}(r:Vals xs us):xs.length=us.length:=V7 r
theorem Vals.get:∀{xs:List V} {us:List Value} {i:Nat} {x:V},Vals xs us->xs[i]? =some x->∃u,us[i]? =some u/\RelV x u
 |_,_,_,_,.nil,e=>by simp at e
 |_,_,0,_,.cons r _,e=>by simp at e;subst e;exact⟨_,rfl,r⟩
 |_,_,i + 1,x,.cons _ t,e=>by
  obtain⟨u,h1,h2⟩:=Vals.get (i:=i) (x:=x) t (by simpa using e);exact⟨u,by simpa using h1,h2⟩
theorem Vals.set{x:V}{u:Value}(r:RelV x u):∀{xs:List V} {us:List Value} (i:Nat),Vals xs us->Vals (xs.set i x) (us.set i u)
 |_,_,_,.nil=> .nil
 |_,_,0,.cons _ t=> .cons r t
 |_,_,i + 1,.cons q t=> .cons q (Vals.set r i t)
theorem Vals.append:∀{xs ys:List V} {us ws:List Value},Vals xs us->Vals ys ws->Vals (xs ++ ys) (us ++ ws)
 |_,_,_,_,.nil,s=>s
 |_,_,_,_,.cons r t,s=> .cons r (Vals.append t s)
theorem Vals.take:∀{xs:List V} {us:List Value} (n:Nat),Vals xs us->Vals (xs.take n) (us.take n)
 |_,_,0,_=> .nil
 |_,_,_ + 1,.nil=> .nil
 |_,_,n + 1,.cons r t=> .cons r (Vals.take n t)
def RelO:Option V->Option Value->Prop
 |some v,some u=>RelV v u
 |none,none=>True
 |_,_=>False
def KV{κ:Type}:List (κ×V)->List (κ×Value)->Prop:=Paired λ(p:κ×V) (q:κ×Value)=>p.1=q.1/\RelV p.2 q.2
def kV:Af->V
 | .inl i=> .int i
 | .inr x=> .str x
inductive HO where
  |lst (xs:List V)
  |tup (xs:List V)
  |dK (kvs:List (Af×V))|dT (kvs:List (List Af×V))
  |set (S:Int->Bool) (n:Nat)
  |ins (C dx:Addr) (fs:List (Str×V))
  |own (x:Addr)
  |xd (fs:List (Str×V))
  |met (f x:Addr)
  |rng (lo hi:Int)
  |frz (o:Obj) (u:HO)
  |tbl (ps:Array Value)
  |ext (φ:Heap->Prop)
abbrev Hp:=Addr->Option HO
def upd(H:Hp)(a:Addr)(o:HO):Hp:=λb=>if b=a then some o else H b
def Bk{H:Hp}{a:Addr}{o:HO}:upd H a o a=some o:=by unfold upd;rw[if_pos rfl]
def Ao{H:Hp}{a b:Addr}{o:HO}(h:b≠a):upd H a o b=H b:=by unfold upd;rw[if_neg h]
def dq_9{H:Hp}{a b:Addr}{o u:HO}(h:H a=some o)(h':H b=some u)(d:o≠u):a≠b:=by
 intro e;subst e;rw[h]at h';exact d (F6 h')
def Et{H:Hp}{a b:Addr}{o:HO}(h:H a=some o)(h':H b=none):a≠b:=by
 intro e;subst e;rw[h]at h';cases h'
section
variable(P:Program)(w:World)
def ObjOk(H:Hp)(h:Heap)(a:Addr):HO->Prop
 | .lst xs=>xs.length<=sizeLine/\∃(its:List Value) (n:Nat),Vals xs its/\h.get? a=some {cls:=.type "list",data:=.seq its.toArray n}
 | .tup xs=>xs.length<=sizeLine/\∃its:List Value,Vals xs its/\IsTup h a its.toArray
 | .dK kvs=>kvs.length<=sizeLine/\(a ==sysModules)=false/\∃vs,KV kvs vs/\h.DictOf (Dx P w) a vs
 | .dT kvs=>kvs.length<=sizeLine/\(a ==sysModules)=false/\∃xs:List (List Af×Addr×Value),
   Paired (λ(p:List Af×V) (q:List Af×Addr×Value)=>p.1=q.1/\H q.2.1=some (.tup (p.1.map kV))/\RelV p.2 q.2.2) kvs xs/\
   ∃o es ep,h.get? a=some o/\o.ExactDict/\o.data=.dict es ep/\es.toList=xs.map (entryOfKey (tupleKind (Dx P w)))/\(xs.map (·.1)).Nodup
 | .set S n=>h.SetOf (intKind P w) a S n
 | .ins C dx fs=>H dx=some (.own a)/\fs.length<=1000/\dx≠a/\h.get? a=some (instObj C dx)/\
   ∃mA,h.Ns1 dx mA/\(∀f,RelO (fs.lookup f) (mA f))/\PySem.Within mA (fs.map (·.1))
 | .own _=>∃o,h.get? a=some o
 | .xd fs=>∃mA,h.Ns1 a mA/\∀f,RelO (fs.lookup f) (mA f)
 | .rng lo hi=>∃t u v,h.get? a=some {cls:=.type "range",data:=.fields #[.int lo t,.int hi u,.int 1 v]}
 | .frz o u=>h.get? a=some o/\ObjOk H h a u
 | .tbl ps=>h.get? a=some {cls:=.none,data:=.fields ps}
 | .met f x=>h.get? a=some (methodObj (.ref f) (.ref x))
 | .ext φ=>φ h/\(∃o,h.get? a=some o)/\∀h1 h2:Heap,φ h1->(∀o,h1.get? a=some o->h2.get? a=some o)->φ h2
def HOk(H:Hp)(h:Heap):Prop:=∀a o,H a=some o->ObjOk P w H h a o
end
section
variable{P:Program}{w:World}{H H':Hp}{h h':Heap}{a:Addr}{o:HO}
theorem ObjOk.lt(x:ObjOk P w H h a o):a < h.objs.size:=by
 cases o with
 |lst xs=>obtain⟨_,_,_,_,e⟩:=x;exact A5 e
 |tup xs=>obtain⟨_,_,_,p⟩:=x;exact p.lt
 |dK kvs=>obtain⟨_,_,_,_,o,_,_,e,_⟩:=x;exact A5 e
 |dT kvs=>obtain⟨_,_,_,_,o,_,_,e,_⟩:=x;exact A5 e
 |set S n=>obtain⟨o,_,_,_,e,_⟩:=x;exact A5 e
 |ins C dx fs=>obtain⟨_,_,_,e,_⟩:=x;exact A5 e
 |own y=>obtain⟨_,e⟩:=x;exact A5 e
 |xd fs=>obtain⟨_,⟨_,_,_,e,_⟩,_⟩:=x;exact A5 e
 |rng lo hi=>obtain⟨_,_,_,e⟩:=x;exact A5 e
 |frz ob u=>obtain⟨e,_⟩:=x;exact A5 e
 |tbl ps=>exact A5 (show h.get? a=some _ from x)
 |met f y=>exact A5 (show h.get? a=some _ from x)
 |ext φ=>obtain⟨_,⟨_,e⟩,_⟩:=x;exact A5 e
theorem Paired.mapP{α β:Type}{F G:α->β->Prop}:∀{l₁:List α} {l₂:List β},Paired F l₁ l₂->(∀a b,F a b->G a b)->Paired G l₁ l₂
 |_,_,.nil,_=> .nil
 |_,_,.cons r t,f=> .cons (f _ _ r) (Paired.mapP t f)
def ObjOk.stay(x:ObjOk P w H h a o)(k:∀b u,(b=a\/H b=some (.own a))->h.get? b=some u->h'.get? b=some u)
  (ho:∀b,H b=some (.own a)->H' b=some (.own a)) (ht:∀b xs,H b=some (.tup xs)->H' b=some (.tup xs)):ObjOk P w H' h' a o:=by
 induction o with
 |lst xs=>obtain⟨z,its,n,r,e⟩:=x;exact⟨z,its,n,r,k _ _ (.inl rfl) e⟩
 |tup xs=>obtain⟨z,its,r,ob,e,c⟩:=x;exact⟨z,its,r,ob,k _ _ (.inl rfl) e,c⟩
 |dK kvs=>obtain⟨z,y,vs,r,ob,es,ep,e,c⟩:=x;exact⟨z,y,vs,r,ob,es,ep,k _ _ (.inl rfl) e,c⟩
 |dT kvs=>
  obtain⟨z,y,xs,r,ob,es,ep,e,c⟩:=x;exact⟨z,y,xs,Paired.mapP r λp q z=>⟨z.1,ht _ _ z.2.1,z.2.2⟩,ob,es,ep,k _ _ (.inl rfl) e,c⟩
 |set S n=>obtain⟨ob,es,ep,t,e,c⟩:=x;exact⟨ob,es,ep,t,k _ _ (.inl rfl) e,c⟩
 |ins C dx fs=>
  obtain⟨d,z,ne,e,mA,⟨od,es,ep,e2,c⟩,r⟩:=x;exact⟨ho _ d,z,ne,k _ _ (.inl rfl) e,mA,⟨od,es,ep,k _ _ (.inr d) e2,c⟩,r⟩
 |own y=>obtain⟨ob,e⟩:=x;exact⟨ob,k _ _ (.inl rfl) e⟩
 |xd fs=>obtain⟨mA,⟨od,es,ep,e,c⟩,r⟩:=x;exact⟨mA,⟨od,es,ep,k _ _ (.inl rfl) e,c⟩,r⟩
 |rng lo hi=>obtain⟨t,u,v,e⟩:=x;exact⟨t,u,v,k _ _ (.inl rfl) e⟩
 |frz ob u ih=>obtain⟨e,q⟩:=x;exact⟨k _ _ (.inl rfl) e,ih q⟩
 |tbl ps=>
  have e:h.get? a=some {cls:=.none,data:=.fields ps}:=x;show h'.get? a=some {cls:=.none,data:=.fields ps};exact k a _ (.inl rfl) e
 |met f y=>
  have e:h.get? a=some (methodObj (.ref f) (.ref y)):=x;show h'.get? a=some (methodObj (.ref f) (.ref y));exact k a _ (.inl rfl) e
 |ext φ=>obtain⟨p,⟨o,e⟩,st⟩:=x;exact⟨st _ _ p λo q=>k _ _ (.inl rfl) q,⟨o,k _ _ (.inl rfl) e⟩,st⟩
theorem HOk.lt(x:HOk P w H h)(e:H a=some o):a < h.objs.size:=(x a o e).lt
def HOk.fresh(x:HOk P w H h)(e:h.objs.size<=a):H a=none:=by
 cases q:H a with
 |none=>rfl
 |some u=>exact absurd (C5 (x.lt q) e) (F4 _)
def HOk.kept(x:HOk P w H h)(k:∀b u,h.get? b=some u->h'.get? b=some u):HOk P w H h':=λa o e=>
 (x a o e).stay (λb u _ q=>k b u q) (λ_ q=>q) λ_ _ q=>q
def HOk.laid(x:HOk P w H h)(k:∀b u,h.get? b=some u->h'.get? b=some u)(hp:h.objs.size<=a)(new:ObjOk P w (upd H a o) h' a o):HOk P w (upd H a o) h':=λb u e=>by
 have hn:=x.fresh hp
 by_cases hb:b=a
 ·subst hb;rw[Bk]at e;cases e;exact new
 ·rw[Ao hb]at e;exact(x b u e).stay (λc v _ q=>k c v q) (λc q=>by rw[Ao (Et q hn)];exact q) λc xs q=>by rw[Ao (Et q hn)];exact q
end
def Rd(H:Hp)(a:Addr)(u:HO):Prop:=H a=some u\/∃o,H a=some (.frz o u)
def Rd.ok{P:Program}{w:World}{H:Hp}{h:Heap}{a:Addr}{u:HO}(r:Rd H a u)(x:HOk P w H h):ObjOk P w H h a u:=by
 rcases r with r|⟨o,r⟩
 ·exact x a u r
 ·obtain⟨_,q⟩:=x a _ r;exact q
def Mut:Option HO->Prop
 |some (.lst _)=>True
 |some (.dK _)=>True
 |some (.dT _)=>True
 |some (.set _ _)=>True
 |some (.ins _ _ _)=>True
 |some (.ext _)=>True
 |_=>False
section
variable{P:Program}{w:World}{H:Hp}{h h':Heap}{x e:Addr}{o':HO}
def HOk.write(ok:HOk P w H h)(mu:Mut (H x))(he:e=x\/H e=some (.own x))(k:∀b u,b≠e->h.get? b=some u->h'.get? b=some u)(heo:∃u,h'.get? e=some u)
  (new:ObjOk P w (upd H x o') h' x o'):HOk P w (upd H x o') h':=λb u q=>by
 have cz:∀c y,H c=some (.own y)->c≠x:=λc y r z=>by subst z;rw[r]at mu;exact mu
 have fm:∀c xs,H c=some (.tup xs)->c≠x:=λc xs r z=>by subst z;rw[r]at mu;exact mu
 by_cases hb:b=x
 ·subst hb;rw[Bk]at q;cases q;exact new
 ·rw[Ao hb]at q
  by_cases hbe:b=e
  ·have q':H b=some (.own x):=by
    rcases he with z|z
    ·exact absurd (hbe.trans z) hb
    ·rw[hbe];exact z
   rw[q]at q';cases q';obtain⟨v,hv⟩:=heo;exact⟨v,by rw[hbe];exact hv⟩
  ·refine(ok b u q).stay (λc v hc r=>k c v ?_ r) (λc r=>by rw[Ao (cz c b r)];exact r) λc xs r=>by rw[Ao (fm c xs r)];exact r
   rcases hc with rfl|hc
   ·exact hbe
   ·rintro rfl
    rcases he with z|z
    ·exact cz c b hc z
    ·rw[hc]at z;cases z;exact hb rfl
end
structure Un(fs ex:List Addr)(H H':Hp)(h h':Heap):Prop where
 keep:∀b o,h.get? b=some o->H b=none->b∉fs->b∉ex->h'.get? b=some o
 slot:∀b o,h.get? b=some o->H b=none->b∈fs->b∉ex->∃sl,h'.get? b=some {o with slots:=sl}
 free:∀b o,h.get? b=some o->H b=none->b∉ex->H' b=none
 there:∀b o,h.get? b=some o->b∉ex->∃o',h'.get? b=some o'
 tups:∀b xs,H b=some (.tup xs)->H' b=some (.tup xs)
 frzs:∀b o u,H b=some (.frz o u)->H' b=some (.frz o u)
 tbls:∀b ps,H b=some (.tbl ps)->∃more,H' b=some (.tbl (ps ++ more))
section
variable{fs fs' ex ex':List Addr}{H H1 H2:Hp}{h h1 h2 h':Heap}{a x e:Addr}{o:HO}
def Un.any(u:Un fs ex H H1 h h1){b:Addr}{ob:Obj}(q:h.get? b=some ob)(n:H b=none)(hx:b∉ex):∃sl,h1.get? b=some {ob with slots:=sl}:=by
 by_cases hb:b∈fs
 ·exact u.slot b ob q n hb hx
 ·exact⟨ob.slots,u.keep b ob q n hb hx⟩
def Un.kept(k:∀b u,h.get? b=some u->h'.get? b=some u):Un fs ex H H h h':=
 ⟨λb ob q _ _ _=>k b ob q,λb ob q _ _ _=>⟨ob.slots,k b ob q⟩,λ_ _ _ n _=>n,λb ob q _=>⟨ob,k b ob q⟩,λ_ _ q=>q,λ_ _ _ q=>q,λ_ ps q=>⟨#[],by rw[q];simp⟩⟩
def Un.refl:Un fs ex H H h h:=Un.kept λ_ _ q=>q
def Un.laid(k:∀b u,h.get? b=some u->h'.get? b=some u)(hp:h.objs.size<=a)(hn:H a=none):Un fs ex H (upd H a o) h h' where
 keep:=λb u q _ _ _=>k b u q
 slot:=λb u q _ _ _=>⟨u.slots,k b u q⟩
 free:=λb u q n _=>by rw[Ao (D7 (C5 (A5 q) hp))];exact n
 there:=λb u q _=>⟨u,k b u q⟩
 tups:=λb xs q=>by rw[Ao (Et q hn)];exact q
 frzs:=λb u xs q=>by rw[Ao (Et q hn)];exact q
 tbls:=λb ps q=>⟨#[],by rw[Ao (Et q hn),q];simp⟩
def Un.write(mu:Mut (H x))(he:e=x\/H e=some (.own x))(k:∀b u,b≠e->h.get? b=some u->h'.get? b=some u)(heo:∃u,h'.get? e=some u):Un fs ex H (upd H x o) h h':=by
 have hx:∀b,H b=none->b≠x:=λb n z=>by subst z;rw[n]at mu;exact mu
 have hb:∀b,H b=none->b≠e:=λb n z=>by
  subst z;rcases he with r|r
  ·exact hx b n r
  ·rw[n]at r;cases r
 have hm:∀b u,H b=some u->¬Mut (some u)->b≠x:=λb u q nm z=>by subst z;rw[q]at mu;exact nm mu
 refine⟨λb u q n _ _=>k b u (hb b n) q,λb u q n _ _=>⟨u.slots,k b u (hb b n) q⟩,λb u q n _=>by rw[Ao (hx b n)];exact n,λb u q _=> ?_,
  λb xs q=>by rw[Ao (hm b _ q λz=>z)];exact q,λb u xs q=>by rw[Ao (hm b _ q λz=>z)];exact q,λb ps q=>⟨#[],by rw[Ao (hm b _ q λz=>z),q];simp⟩⟩
 by_cases hbe:b=e
 ·subst hbe;exact heo
 ·exact⟨u,k b u hbe q⟩
end
def trk(h:Heap)(H:Hp):List Addr:=(List.range h.objs.size).filter λa=>(H a).isSome
def hidT(h:Heap)(H:Hp):Heap:=hideAll h (trk h H)
def cf_0(h:Heap)(H:Hp):(hidT h H).objs.size=h.objs.size:=hideAll_size _ _
def cl_1{h:Heap}{H:Hp}{b:Addr}{o:Obj}(e:h.get? b=some o)(n:H b=none):(hidT h H).get? b=some o:=
 hideAll_get _ e λhm=>by
  have q:(H b).isSome=true:=(O7.mp hm).2;rw[n]at q;simp at q
def cx_7{h:Heap}{H:Hp}{b:Addr}{o:Obj}(e:(hidT h H).get? b=some o):h.get? b=some o/\H b=none:=by
 have e':h.get? b=some o:=of_hideAll (trk h H) e;refine⟨e', ?_⟩;cases q:H b with
 |none=>rfl
 |some x=>
  have hm:b∈trk h H:=O7.mpr ⟨R6.mpr (A5 e'),by simp[q]⟩;have z:(hidT h H).get? b=none:=hideAll_none (trk h H) hm;rw[z]at e;cases e
def cx_8(g h:Heap)(L:Addr):AE:=(List.range h.objs.size).filterMap λa=>if a=L\/(g.get? a).isSome=true then none else(h.get? a).map λo=>(a,o)
def z_9(g h:Heap)(L d:Addr):AE:=(cx_8 g h L).filter λp=>decide (p.1≠d)
structure Mod(K:Frag)(mg:AB)(base:Heap):Prop where
 kin:K.In base
 glob:base.Ns mainGlobals mg
 blt:∃mb,base.Ns builtinsNs mb/\∀x:Str,x≠ "__name__" ->mb x=bootBuiltins x
 nolimit:base.NoLimit
structure Cx where
 prog:Program
 w:World
 K:Frag
 mg:Str->Option Value
 base:Heap
 A:Around
 N:List Str
 s₀:Shared
 H₀:Hp
 env:Env
 outer:List Env
 stack:List Env
 ex:List Addr
 fn:Str->Bool
 calm:Bool
 pn:AE
 xe:Value->Shared->Prop
def frs(l:List Env):List Addr:=l.filterMap (·.frame)
abbrev Cx.fs(X:Cx):List Addr:=frs X.outer
def Fd(sc:Scope)(x:Str):Prop:=sc.names.lookup x=some .local\/sc.names.lookup x=some .cell\/sc.names.lookup x=some .free
def Loc(sc:Scope)(x:Str):Prop:=sc.names.lookup x=some .local\/sc.names.lookup x=some .cell
def Look(env:Env)(h:Heap)(m:AB)(x:Str)(u:Value):Prop:=
 (env.kindOf x=some .local/\m x=some u)\/((env.kindOf x=some .cell\/env.kindOf x=some .free)/\∃c,env.cells.lookup x=some c/\h.IsCell c (some u))
structure Cx.Ok(X:Cx):Prop where
 mod:Mod X.K X.mg X.base
 kind:X.env.scope.kind=.function
 glob:X.env.globals=mainGlobals
 blt:X.env.builtins=builtinsNs
 above:X.s₀.heap.objs.size<=X.env.locals
 inj:∀x y c,X.env.cells.lookup x=some c->X.env.cells.lookup y=some c->x=y
 has:∀x,(X.env.kindOf x=some .cell\/X.env.kindOf x=some .free)->∃c,X.env.cells.lookup x=some c
 cab:∀x c,X.fn x=true->X.env.cells.lookup x=some c->X.s₀.heap.objs.size<=c
 hd:X.calm=true->X.A.handled=none
 frames:X.A.frames=some X.stack
 stk:X.stack=X.outer\/(X.stack=X.env::X.outer/\X.env.frame=some X.env.locals)
 exf:∀b∈X.ex,b≠X.env.locals/\∀x c,X.env.cells.lookup x=some c->c≠b
 bs:∀b o,X.base.get? b=some o->X.s₀.heap.get? b=some o/\X.H₀ b=none
 bsz:X.base.objs.size<=X.s₀.heap.objs.size
 noex:∀b o,X.base.get? b=some o->b∉X.ex
 exfs:∀b∈X.ex,b∉X.fs
 funs:X.s₀.heap.FunFrames X.base X.outer
 frf:∀b∈X.fs,X.H₀ b=none
structure Inv(X:Cx)(zd:AE)(σ:List (Option V))(H:Hp)(s:Shared):Prop where
 ok:X.Ok
 os:s.os=X.s₀.os
 bare:AllBare s.gens
 base:Un X.fs X.ex X.H₀ H X.s₀.heap s.heap
 loc:∃m,s.heap.Ns X.env.locals m/\∀(i:Nat) (x:Str) (v:V),X.N[i]? =some x->σ[i]? =some (some v)->Fd X.env.scope x->∃u,RelV v u/\Look X.env s.heap m x u
 cell:∀x c,X.env.cells.lookup x=some c->∃v,s.heap.IsCell c v
 free:H X.env.locals=none
 freeC:∀x c,X.env.cells.lookup x=some c->H c=none
 pin:∀p∈X.pn ++ zd,s.heap.get? p.1=some p.2/\H p.1=none/\p.1≠X.env.locals/\p.1∉X.fs/\∀v,p.2.data≠ .cell v
 hok:HOk X.prog X.w H s.heap
 len:σ.length=X.N.length
section
variable{X:Cx}{zd:AE}{σ:List (Option V)}{H H':Hp}{s:Shared}{h':Heap}
def Cx.Ok.nofr(ok:X.Ok){b:Addr}{o:Obj}(e:X.base.get? b=some o):b∉X.fs:=λhb=>by
 have:=(ok.funs.mem hb).1;rw[e]at this;cases this
theorem Inv.bs(I:Inv X zd σ H s):∀b o,X.base.get? b=some o->s.heap.get? b=some o/\H b=none:=λb o e=>
 ⟨I.base.keep b o (I.ok.bs b o e).1 (I.ok.bs b o e).2 (I.ok.nofr e) (I.ok.noex b o e),I.base.free b o (I.ok.bs b o e).1 (I.ok.bs b o e).2 (I.ok.noex b o e)⟩
def Inv.bk(I:Inv X zd σ H s):∀b o,X.base.get? b=some o->s.heap.get? b=some o:=λb o e=>(I.bs b o e).1
theorem Inv.mod(I:Inv X zd σ H s):Mod X.K X.mg X.base:=I.ok.mod
def Inv.kIn(I:Inv X zd σ H s):X.K.In s.heap:=I.ok.mod.kin.keeps I.bk
theorem Inv.nolimit(I:Inv X zd σ H s):s.heap.NoLimit:=I.ok.mod.nolimit.keeps I.bk
def Inv.fr(I:Inv X zd σ H s):∃m,Fr X.base X.env.locals s.heap m:=
 let⟨m,hn,_⟩:=I.loc
 ⟨m,hn,I.bk,D4 I.ok.bsz I.ok.above⟩
theorem Inv.lt(I:Inv X zd σ H s):X.env.locals < s.heap.objs.size:=let⟨_,hn,_⟩:=I.loc;hn.lt
def Inv.sz(I:Inv X zd σ H s):X.s₀.heap.objs.size<=s.heap.objs.size:=D4 I.ok.above (P0 I.lt)
def Inv.nofs(I:Inv X zd σ H s){a:Addr}(h:s.heap.objs.size<=a):a∉X.fs:=λhb=>by
 obtain⟨_,o,ho,_⟩:=I.ok.funs.mem hb;exact absurd (C5 (A5 ho) (D4 I.sz h)) (F4 _)
def Inv.cne(I:Inv X zd σ H s):∀x c,X.env.cells.lookup x=some c->c≠X.env.locals:=λx c e z=>by
 obtain⟨v,o,ho,hd⟩:=I.cell x c e;obtain⟨m,⟨o',es,ep,ho',hd',_⟩,_⟩:=I.loc;rw[z,ho']at ho;cases ho;rw[hd']at hd;cases hd
theorem Inv.funs(I:Inv X zd σ H s):s.heap.FunFrames X.base X.outer:=by
 have all:∀(l:List Env),(∀b∈frs l,b∈X.fs)->X.s₀.heap.FunFrames X.base l->s.heap.FunFrames X.base l:=by
  intro l
  induction l with
  |nil=>intro _ _;trivial
  |cons env r ih=>
   intro hs hl;obtain⟨hk,⟨L,o,hf,hn,ho,hd⟩,hr⟩:=hl;have hL:L∈X.fs:=hs L (by unfold frs;rw[W5,hf];exact C8);obtain⟨sl,e⟩:=I.base.slot L o ho (I.ok.frf L hL) hL λz=>I.ok.exfs L z hL;exact⟨hk,⟨L,_,hf,hn,e,hd⟩,ih (λb hb=>hs b (by unfold frs;rw[W5,hf];exact C4 _ hb)) hr⟩
 exact all X.outer (λ_ hb=>hb) I.ok.funs
theorem Inv.stack(I:Inv X zd σ H s):s.heap.FunFrames X.base X.stack:=by
 rcases I.ok.stk with e|⟨e,hf⟩
 ·rw[e];exact I.funs
 ·rw[e];obtain⟨m,hn,_⟩:=I.loc;refine .cons (by rw[I.ok.kind];decide) hf hn ?_ I.funs;exact P1 (D4 I.ok.bsz I.ok.above)
def Inv.stkSub(I:Inv X zd σ H s):∀b∈frs X.stack,b∈X.env.locals::X.fs:=λb hb=>by
 rcases I.ok.stk with e|⟨e,hf⟩
 ·rw[e]at hb;exact C4 _ hb
 ·rw[e]at hb;unfold frs at hb;rw[W5,hf]at hb;exact hb
def Inv.stkFree(I:Inv X zd σ H s):∀b∈frs X.stack,H b=none:=λb hb=>by
 rcases C6.mp (I.stkSub b hb) with e|hb
 ·rw[e];exact I.free
 ·obtain⟨_,o,ho,_⟩:=I.ok.funs.mem hb;exact I.base.free b o ho (I.ok.frf b hb) λz=>I.ok.exfs b z hb
def Inv.step{g':Array GenState}{t':Nat}{d':Drawn}{ch:List Addr}(I:Inv X zd σ H s)
  (hch:∀b∈ch,(b∈X.ex\/X.s₀.heap.objs.size<=b)/\b≠X.env.locals/\(∀x c,X.env.cells.lookup x=some c->c≠b)/\∀p∈X.pn ++ zd,p.1≠b)
  (keep:∀b o,b≠X.env.locals->b∉X.fs->b∉ch->s.heap.get? b=some o->H b=none->h'.get? b=some o)
  (slot:∀b o,b≠X.env.locals->b∈X.fs->b∉ch->s.heap.get? b=some o->H b=none->∃sl,h'.get? b=some {o with slots:=sl}) (free:∀b o,b∉ch->s.heap.get? b=some o->H b=none->H' b=none)
  (there:∀b o,b∉ch->s.heap.get? b=some o->∃o',h'.get? b=some o')
  (tups:∀b xs,H b=some (.tup xs)->H' b=some (.tup xs)) (frzs:∀b o u,H b=some (.frz o u)->H' b=some (.frz o u)) (tbls:∀b ps,H b=some (.tbl ps)->∃more,H' b=some (.tbl (ps ++ more)))
  (ns:∀m,s.heap.Ns X.env.locals m->h'.Ns X.env.locals m) (hok:HOk X.prog X.w H' h') (hg:AllBare g'):
  Inv X zd σ H' {s with heap:=h',gens:=g',drawn:=d',toks:=t'}:=by
 have neL:∀b o,X.s₀.heap.get? b=some o->b≠X.env.locals:=λb o e=>D7 (C5 (A5 e) I.ok.above);have neC:∀b o,X.s₀.heap.get? b=some o->b∉X.ex->b∉ch:=λb o e hx hb=>by
  rcases(hch b hb).1 with z|z
  ·exact hx z
  ·exact absurd (C5 (A5 e) z) (F4 _)
 have cellK:∀x c,X.env.cells.lookup x=some c->∀v,s.heap.IsCell c v->h'.IsCell c v:=λx c e v ⟨o,ho,hd⟩=>by
  have nch:c∉ch:=λz=>(hch c z).2.2.1 x c e rfl
  by_cases hc:c∈X.fs
  ·obtain⟨sl,q⟩:=slot c o (I.cne x c e) hc nch ho (I.freeC x c e);exact⟨_,q,hd⟩
  ·exact⟨o,keep c o (I.cne x c e) hc nch ho (I.freeC x c e),hd⟩
 refine⟨I.ok,I.os,hg,⟨λb o e n hb hx=> ?_,λb o e n hb hx=> ?_,λb o e n hx=> ?_,λb o e hx=> ?_,λb xs e=>tups b xs (I.base.tups b xs e),λb o xs e=>frzs b o xs (I.base.frzs b o xs e),λb ps e=> ?_⟩, ?_,λx c e=> ?_, ?_,λx c e=> ?_,λp hp=> ?_,hok,I.len⟩
 ·exact keep b o (neL b o e) hb (neC b o e hx) (I.base.keep b o e n hb hx) (I.base.free b o e n hx)
 ·obtain⟨sl,e1⟩:=I.base.slot b o e n hb hx;obtain⟨sl',e2⟩:=slot b _ (neL b o e) hb (neC b o e hx) e1 (I.base.free b o e n hx);exact⟨sl',e2⟩
 ·obtain⟨o',e1⟩:=I.base.there b o e hx;exact free b o' (neC b o e hx) e1 (I.base.free b o e n hx)
 ·obtain⟨o',e1⟩:=I.base.there b o e hx;exact there b o' (neC b o e hx) e1
 ·obtain⟨m1,e1⟩:=I.base.tbls b ps e;obtain⟨m2,e2⟩:=tbls b _ e1;exact⟨m1 ++ m2,by rw[e2,Array.append_assoc]⟩
 ·obtain⟨m,hn,hl⟩:=I.loc;refine⟨m,ns m hn,λi x v e1 e2 e3=> ?_⟩;obtain⟨u,r,l⟩:=hl i x v e1 e2 e3;refine⟨u,r, ?_⟩;rcases l with l|⟨k,c,e,z⟩
  ·exact .inl l
  ·exact .inr ⟨k,c,e,cellK x c e _ z⟩
 ·obtain⟨v,z⟩:=I.cell x c e;exact⟨v,cellK x c e v z⟩
 ·obtain⟨m,⟨o,_,_,ho,_⟩,_⟩:=I.loc;exact free _ o (λz=>(hch _ z).2.1 rfl) ho I.free
 ·obtain⟨v,o,ho,hd⟩:=I.cell x c e;exact free c o (λz=>(hch c z).2.2.1 x c e rfl) ho (I.freeC x c e)
 ·obtain⟨e,n,ne,nf,d⟩:=I.pin p hp;have nch:p.1∉ch:=λz=>(hch p.1 z).2.2.2 p hp rfl;exact⟨keep p.1 p.2 ne nf nch e n,free p.1 p.2 nch e n,ne,nf,d⟩
def Inv.un{t':Nat}(I:Inv X zd σ H s)(u:Un X.fs [] H H' s.heap h')(hok:HOk X.prog X.w H' h'):Inv X zd σ H' {s with heap:=h',toks:=t'}:=by
 obtain⟨m,⟨o,es,ep,ho,r⟩,_⟩:=id I.loc;obtain⟨sl,hL⟩:=u.any ho I.free (by simp);exact I.step (g':=s.gens) (d':=s.drawn) (ch:=[]) (λ_ z=>nomatch z) (λb o _ hb _ e n=>u.keep b o e n hb (by simp)) (λb o _ hb _ e n=>u.slot b o e n hb (by simp)) (λb o _ e n=>u.free b o e n (by simp)) (λb o _ e=>u.there b o e (by simp)) u.tups u.frzs u.tbls (λm' hm=>by
  obtain⟨o',es',ep',ho',r'⟩:=hm;rw[ho]at ho';cases ho';exact⟨_,es',ep',hL,r'⟩) hok I.bare
def Inv.call{g':Array GenState}{t':Nat}{d':Drawn}{ch:List Addr}(I:Inv X zd σ H s)(u:Un (frs X.stack) ch H H' s.heap h')(hok:HOk X.prog X.w H' h')(hg:AllBare g')
  (hch:∀b∈ch,(b∈X.ex\/X.s₀.heap.objs.size<=b)/\b≠X.env.locals/\(∀x c,X.env.cells.lookup x=some c->c≠b)/\∀p∈X.pn ++ zd,p.1≠b):
  Inv X zd σ H' {s with heap:=h',gens:=g',drawn:=d',toks:=t'}:=by
 obtain⟨m,⟨o,es,ep,ho,r⟩,_⟩:=id I.loc;obtain⟨sl,hL⟩:=u.any ho I.free λz=>(hch _ z).2.1 rfl;exact I.step (ch:=ch) hch (λb o hL hb hc e n=>u.keep b o e n (λz=>(C6.mp (I.stkSub b z)).elim hL hb) hc) (λb o _ _ hc e n=>u.any e n hc) (λb o hc e n=>u.free b o e n hc) (λb o hc e=>u.there b o e hc) u.tups u.frzs u.tbls (λm' hm=>by
  obtain⟨o',es',ep',ho',r'⟩:=hm;rw[ho]at ho';cases ho';exact⟨_,es',ep',hL,r'⟩) hok hg
def Inv.turned{t':Nat}{it:Addr}(I:Inv X zd σ H s)(k:∀b o,b≠it->s.heap.get? b=some o->h'.get? b=some o)(hn:H it=none)(hL:it≠X.env.locals)
  (h1:it∈X.ex\/X.s₀.heap.objs.size<=it) (h2:∀x c,X.env.cells.lookup x=some c->c≠it) (h3:∀p∈X.pn ++ zd,p.1≠it):Inv X zd σ H {s with heap:=h',toks:=t'}:=by
 have nit:∀b u,H b=some u->b≠it:=λb u e z=>by rw[z,hn]at e;cases e
 refine I.step (g':=s.gens) (d':=s.drawn) (ch:=[it]) (λb hb=> ?_) (λb o _ _ hc e _=>k b o (λz=>hc (by simp[z])) e) (λb o _ _ hc e _=>⟨o.slots,k b o (λz=>hc (by simp[z])) e⟩) (λ_ _ _ _ n=>n)
  (λb o hc e=>⟨o,k b o (λz=>hc (by simp[z])) e⟩) (λ_ _ e=>e) (λ_ _ _ e=>e) (λb ps e=>⟨#[],by rw[e];simp⟩) (λm hm=> ?_) (λb u e=> ?_) I.bare
 ·have e:b=it:=by simpa using hb
  subst e;exact⟨h1,hL,h2,h3⟩
 ·obtain⟨o,es,ep,ho,r⟩:=hm;exact⟨o,es,ep,k _ o (Ne.symm hL) ho,r⟩
 ·refine(I.hok b u e).stay (λc v hc q=>k c v ?_ q) (λ_ q=>q) λ_ _ q=>q;rcases hc with z|z
  ·rw[z];exact nit b u e
  ·exact nit c _ z
def Inv.tok(I:Inv X zd σ H s)(t:Nat):Inv X zd σ H {s with toks:=t}:=I.un (h':=s.heap) (t':=t) Un.refl I.hok
theorem Inv.kept{t':Nat}(I:Inv X zd σ H s)(k:∀b u,s.heap.get? b=some u->h'.get? b=some u):Inv X zd σ H {s with heap:=h',toks:=t'}:=I.un (Un.kept k) (I.hok.kept k)
theorem Inv.laid{a:Addr}{o:HO}{t':Nat}(I:Inv X zd σ H s)(k:∀b u,s.heap.get? b=some u->h'.get? b=some u)(hp:s.heap.objs.size<=a)(new:ObjOk X.prog X.w (upd H a o) h' a o):
  Inv X zd σ (upd H a o) {s with heap:=h',toks:=t'}:=I.un (Un.laid k hp (I.hok.fresh hp)) (I.hok.laid k hp new)
theorem Inv.write{x e:Addr}{o:HO}{t':Nat}(I:Inv X zd σ H s)(mu:Mut (H x))(he:e=x\/H e=some (.own x))(k:∀b u,b≠e->s.heap.get? b=some u->h'.get? b=some u)(heo:∃u,h'.get? e=some u)
  (new:ObjOk X.prog X.w (upd H x o) h' x o):Inv X zd σ (upd H x o) {s with heap:=h',toks:=t'}:=I.un (Un.write mu he k heo) (I.hok.write mu he k heo new)
def Inv.pins_of{aj:AE}(I:Inv X zd σ H s)(h:∀p∈aj,s.heap.get? p.1=some p.2/\H p.1=none/\p.1≠X.env.locals/\p.1∉X.fs/\∀v,p.2.data≠ .cell v):Inv X aj σ H s:=
 ⟨I.ok,I.os,I.bare,I.base,I.loc,I.cell,I.free,I.freeC,λp hp=>(F2.mp hp).elim (λz=>I.pin p (E8 _ z)) (h p),I.hok,I.len⟩
def at_4{N:List Str}(hN:N.Nodup){i j:Nat}{x:Str}(a:N[i]? =some x)(b:N[j]? =some x):i=j:=by
 obtain⟨h1,e1⟩:=B4.mp a;obtain⟨h2,e2⟩:=B4.mp b;exact(List.getElem_inj hN).mp (e1.trans e2.symm)
def ac_4{M:Model}{A:Around}{E:AA}{i:Nat}{x:Str}{v:V}{u:Value}{Q:Unit->Shared->Prop}(I:Inv X zd σ H s)(hN:X.N.Nodup)(hi:X.N[i]? =some x)(hx:Loc X.env.scope x)(r:RelV v u)
  (h:∀s',Inv X zd (σ.set i (some v)) H s'->(∃a,Heap.SameBut a s.heap s'.heap/\(a=X.env.locals\/X.env.cells.lookup x=some a))->Q .unit s') (hf:X.fn x=true\/X.env.scope.names.lookup x=some .local:=by trivial):wpAny M A (storeName X.env x u) Q E s:=by
 obtain⟨m,hn,hl⟩:=id I.loc;have cj:(X.env.scope.kind == .class || (X.env.scope.kind == .module && X.env.locals != X.env.globals))=false:=by rw[I.ok.kind];rfl
 have hiσ:i < σ.length:=by rw[I.len];exact(B4.mp hi).1
 have cne:=I.cne;have tracked:∀{a:Addr} {h':Heap},(∃o,s.heap.get? a=some o/\H a=none)->Heap.SameBut a s.heap h'->HOk X.prog X.w H h':=λ{a h'} ha hs b ob e=>by
  obtain⟨_,_,ar⟩:=ha;refine(I.hok b ob e).stay (λc w' hc q=>(hs.2 c ?_).trans q) (λ_ q=>q) λ_ _ q=>q
  rintro rfl
  rcases hc with rfl|hc
  ·rw[ar]at e;cases e
  ·rw[ar]at hc;cases hc
 rcases hx with hk|hk
 ·refine wpAny_storeName_local hk hn (λh' hn' hs=> ?_) cj;obtain⟨oL,_,_,hoL,_⟩:=id hn;refine h _ ⟨I.ok,I.os,I.bare,⟨λb o e n hb hx=> ?_,λb o e n hb hx=> ?_,I.base.free,λb o e hx=> ?_,I.base.tups,I.base.frzs,I.base.tbls⟩,⟨_,hn',λj y v' e1 e2 e3=> ?_⟩,λy c e=> ?_,I.free,I.freeC,λp hp=> ?_,tracked ⟨oL,hoL,I.free⟩ hs,by simpa using I.len⟩ ⟨_,hs,.inl rfl⟩
  ·exact(hs.2 b (D7 (C5 (A5 e) I.ok.above))).trans (I.base.keep b o e n hb hx)
  ·obtain⟨sl,e1⟩:=I.base.slot b o e n hb hx;exact⟨sl,(hs.2 b (D7 (C5 (A5 e) I.ok.above))).trans e1⟩
  ·obtain⟨o',e1⟩:=I.base.there b o e hx;exact⟨o',(hs.2 b (D7 (C5 (A5 e) I.ok.above))).trans e1⟩
  ·by_cases hj:j=i
   ·subst hj;rw[hi]at e1;cases e1;rw[J7 hiσ]at e2;cases e2;exact⟨u,r,.inl ⟨hk,by simp⟩⟩
   ·rw[C7 (Ne.symm hj)]at e2;obtain⟨u',r',q⟩:=hl j y v' e1 e2 e3;refine⟨u',r', ?_⟩;rcases q with⟨k,e⟩|⟨k,c,e,z⟩
    ·refine .inl ⟨k, ?_⟩;have:y≠x:=λe=>hj (at_4 hN e1 (e▸hi));simp[this,e]
    ·exact .inr ⟨k,c,e,z.sameBut hs (cne y c e)⟩
  ·obtain⟨w',z⟩:=I.cell y c e;exact⟨w',z.sameBut hs (cne y c e)⟩
  ·obtain⟨e,n,ne,nf,d⟩:=I.pin p hp;exact⟨(hs.2 p.1 ne).trans e,n,ne,nf,d⟩
 ·have hfn:X.fn x=true:=by
   rcases hf with z|z
   ·exact z
   ·rw[z]at hk;cases hk
  obtain⟨c,hc⟩:=I.ok.has x (.inl hk);obtain⟨w',z⟩:=I.cell x c hc;refine wpAny_storeName_cell I.ok.kind hk hc z (λh' hc' hs=> ?_);obtain⟨oc,hoc,fw⟩:=id z;refine h {s with heap:=h'} ⟨I.ok,I.os,I.bare,⟨λb o e n hb hx=> ?_,λb o e n hb hx=> ?_,I.base.free,λb o e hx=> ?_,I.base.tups,I.base.frzs,I.base.tbls⟩,⟨m,hn.sameBut hs (Ne.symm (cne x c hc)),λj y v' e1 e2 e3=> ?_⟩,λy c' e=> ?_,I.free,I.freeC,λp hp=> ?_,tracked ⟨oc,hoc,I.freeC x c hc⟩ hs,by simpa using I.len⟩ ⟨c,hs,.inr hc⟩
  ·exact(hs.2 b (D7 (C5 (A5 e) (I.ok.cab x c hfn hc)))).trans (I.base.keep b o e n hb hx)
  ·obtain⟨sl,e1⟩:=I.base.slot b o e n hb hx;exact⟨sl,(hs.2 b (D7 (C5 (A5 e) (I.ok.cab x c hfn hc)))).trans e1⟩
  ·obtain⟨o',e1⟩:=I.base.there b o e hx;exact⟨o',(hs.2 b (D7 (C5 (A5 e) (I.ok.cab x c hfn hc)))).trans e1⟩
  ·by_cases hj:j=i
   ·subst hj;rw[hi]at e1;cases e1;rw[J7 hiσ]at e2;cases e2;exact⟨u,r,.inr ⟨.inl hk,c,hc,hc'⟩⟩
   ·rw[C7 (Ne.symm hj)]at e2;obtain⟨u',r',q⟩:=hl j y v' e1 e2 e3;refine⟨u',r', ?_⟩;rcases q with q|⟨k,c',e,z'⟩
    ·exact .inl q
    ·refine .inr ⟨k,c',e,z'.sameBut hs ?_⟩
     rintro rfl
     exact hj (at_4 hN e1 (I.ok.inj _ _ _ e hc▸hi))
  ·by_cases hcc:c'=c
   ·subst hcc;exact⟨_,hc'⟩
   ·obtain⟨w2,z2⟩:=I.cell y c' e;exact⟨w2,z2.sameBut hs hcc⟩
  ·obtain⟨e,n,ne,nf,d⟩:=I.pin p hp;refine⟨(hs.2 p.1 ?_).trans e,n,ne,nf,d⟩;intro q;rw[q,hoc]at e;have q':oc=p.2:=F6 e;exact d w' (by rw[<-q'];exact fw)
def at_5{M:Model}{A:Around}{E:AA}{i:Nat}{x:Str}{v:V}{u:Value}{Q:Unit->Shared->Prop}(I:Inv X zd σ H s)(hN:X.N.Nodup)(hi:X.N[i]? =some x)(hx:Loc X.env.scope x)(r:RelV v u)
  (h:∀s',Inv X zd (σ.set i (some v)) H s'->Q .unit s') (hf:X.fn x=true\/X.env.scope.names.lookup x=some .local:=by trivial):wpAny M A (storeName X.env x u) Q E s:=
 ac_4 I hN hi hx r (λs' I' _=>h s' I') hf
def Inv.call'{s':Shared}{ch:List Addr}(I:Inv X zd σ H s)(ho:s'.os=s.os)(u:Un (frs X.stack) ch H H' s.heap s'.heap)(hok:HOk X.prog X.w H' s'.heap)(hg:AllBare s'.gens)
  (hch:∀b∈ch,(b∈X.ex\/X.s₀.heap.objs.size<=b)/\b≠X.env.locals/\(∀x c,X.env.cells.lookup x=some c->c≠b)/\∀p∈X.pn ++ zd,p.1≠b):Inv X zd σ H' s':=by
 obtain⟨h',g',d',t',o'⟩:=s';have e:o'=s.os:=ho;subst e;exact I.call (g':=g') (t':=t') (d':=d') u hok hg hch
end
abbrev XK:=Value->Option Addr->Hp->Prop
abbrev St:=List (Option V)
abbrev VK:=V->Hp->Prop
abbrev TE:=St->Hp->VK->Prop
abbrev TT:=St->Hp->(Bool->Hp->Prop)->Prop
abbrev TA:=St->Hp->(List V->Hp->Prop)->Prop
structure Ends where
 nx:St->Hp->Prop
 rt:VK
 bk:St->Hp->Prop:=λ_ _=>False
 ct:St->Hp->Prop:=λ_ _=>False
abbrev TS:=Ends->St->Hp->Prop
def EP(X:Cx)(zd:AE)(σ:St)(Q:VK)(u:Value)(s':Shared):Prop:=∃v H',Inv X zd σ H' s'/\RelV v u/\Q v H'
def TP(X:Cx)(zd:AE)(σ:St)(Q:Bool->Hp->Prop)(b:Bool)(s':Shared):Prop:=∃H',Inv X zd σ H' s'/\Q b H'
def AP(X:Cx)(zd:AE)(σ:St)(Q:List V->Hp->Prop)(us:List Value)(s':Shared):Prop:=∃vs H',Inv X zd σ H' s'/\Vals vs us/\Q vs H'
def SP(X:Cx)(zd:AE)(D:Ends)(f:Flow)(s':Shared):Prop:=
 match f with
 | .next=>∃σ' H',Inv X zd σ' H' s'/\D.nx σ' H'
 | .brk=>∃σ' H',Inv X zd σ' H' s'/\D.bk σ' H'
 | .cont=>∃σ' H',Inv X zd σ' H' s'/\D.ct σ' H'
 | .ret u=>∃v σ' H',Inv X zd σ' H' s'/\RelV v u/\D.rt v H'
def PE(X:Cx)(e:Expr)(t:TE):Prop:=
 ∀(zd:AE) (s:Shared) (σ:St) (H:Hp) (Q:VK),Inv X zd σ H s->t σ H Q->wpAny (model X.prog X.w) X.A (eval e X.env) (EP X zd σ Q) X.xe s
def PT(X:Cx)(e:Expr)(t:TT):Prop:=
 ∀(zd:AE) (s:Shared) (σ:St) (H:Hp) (Q:Bool->Hp->Prop),Inv X zd σ H s->t σ H Q->wpAny (model X.prog X.w) X.A (isTrue e X.env (eval e X.env)) (TP X zd σ Q) X.xe s
def PW(X:Cx)(e:Expr)(t:TT):Prop:=
 ∀(whole:Sem Value) (zd:AE) (s:Shared) (σ:St) (H:Hp) (Q:Bool->Hp->Prop),Inv X zd σ H s->t σ H Q->wpAny (model X.prog X.w) X.A (isTrue e X.env whole) (TP X zd σ Q) X.xe s
def PW.pt{X:Cx}{e:Expr}{t:TT}(h:PW X e t):PT X e t:=h _
def PA(X:Cx)(es:List Expr)(t:TA):Prop:=
 ∀(pos:Pos) (zd:AE) (s:Shared) (σ:St) (H:Hp) (Q:List V->Hp->Prop),Inv X zd σ H s->t σ H Q->wpAny (model X.prog X.w) X.A (spliced (backTo pos (starEach es X.env))) (AP X zd σ Q) X.xe s
def PS(X:Cx)(st:Stmt)(t:TS):Prop:=
 ∀(zd:AE) (s:Shared) (σ:St) (H:Hp) (D:Ends),Inv X zd σ H s->t D σ H->wpAny (model X.prog X.w) X.A (exec st X.env) (SP X zd D) X.xe s
def PSs(X:Cx)(st:List Stmt)(t:TS):Prop:=
 ∀(zd:AE) (s:Shared) (σ:St) (H:Hp) (D:Ends),Inv X zd σ H s->t D σ H->wpAny (model X.prog X.w) X.A (execs st X.env) (SP X zd D) X.xe s
def Bc{α:Type}{t:Sem α}{Q Q':α->Shared->Prop}{M:Model}{A:Around}{E:AA}{s:Shared}(h:wpAny M A t Q E s)(hQ:∀a s,Q a s->Q' a s):wpAny M A t Q' E s:=F3 h hQ λ_ _ x=>x
section
variable{X:Cx}
def tVar(i:Nat):TE:=λ σ H Q=>∃v,σ[i]? =some (some v)/\Q v H
def tC(v:V):TE:=λ_ H Q=>Q v H
def Ff{i:Nat}{x:Str}{pos:Pos}(hN:X.N[i]? =some x)(hv:Fd X.env.scope x)(hd:AG x:=by decide)(hcd:(x ==("__classdict__" :Str))=false:=by decide):PE X (.Name x pos) (tVar i):=by
 intro zd s σ H Q I h;obtain⟨v,e,h⟩:=h;obtain⟨m,hn,hl⟩:=I.loc;obtain⟨u,r,l⟩:=hl i x v hN e hv;have fin:EP X zd σ Q u s:=⟨v,H,I,r,h⟩;rcases l with⟨hk,hm⟩|⟨hk,c,hc,hcell⟩
 ·exact wpAny_Name (wpAny_loadName_local I.ok.kind hk hn hm fin) hd
 ·rcases hk with hk|hk
  ·exact wpAny_Name (wpAny_loadName_cell I.ok.kind hk hc hcell fin) hd
  ·exact wpAny_Name (wpAny_loadName_free I.ok.kind hk hc hcell fin hcd) hd
def dj_5{i j pos}:PE X (.Constant (.int i) j pos) (tC (.int i)):=λ_ _ _ H _ I h=>wpAny_Constant_int ⟨.int i,H,I.tok _,⟨_,rfl⟩,h⟩
def dr_0{b j pos}:PE X (.Constant (.bool b) j pos) (tC (.bl b)):=λ_ _ _ H _ I h=>Constant_bool ⟨.bl b,H,I,rfl,h⟩
def dj_6{j pos}:PE X (.Constant .none j pos) (tC .non):=λ_ _ _ H _ I h=>Constant_none ⟨.non,H,I,rfl,h⟩
def dj_7{x j pos}:PE X (.Constant (.str x) j pos) (tC (.str x)):=λ_ _ _ H _ I h=>Calls.Constant_str ⟨.str x,H,I.tok _,⟨_,rfl⟩,h⟩
def Gl(X:Cx)(x:Str):Prop:=X.env.kindOf x=some .globalImplicit
def r_1{E:AA}{zd:AE}{s:Shared}{σ:St}{H:Hp}{x:Str}{u:Value}{pos:Pos}{Q:AA}(I:Inv X zd σ H s)(hg:Gl X x)(hm:X.mg x=some u)(h:Q u s)
  (hd:AG x:=by decide):wpAny (model X.prog X.w) X.A (eval (.Name x pos) X.env) Q E s:=
 X3 I.ok.kind hg (Calls.loadGlobal_global (by rw[I.ok.glob];exact I.mod.glob.keeps I.bk) hm h) hd
def x_1{E:AA}{zd:AE}{s:Shared}{σ:St}{H:Hp}{x:Str}{u:Value}{pos:Pos}{Q:AA}(I:Inv X zd σ H s)(hg:Gl X x)(hm:X.mg x=none)(hv:bootBuiltins x=some u)(h:Q u s)
  (hn:x≠ "__name__" :=by decide) (hd:AG x:=by decide):wpAny (model X.prog X.w) X.A (eval (.Name x pos) X.env) Q E s:=by
 obtain⟨mb,h1,h2⟩:=I.mod.blt;exact X3 I.ok.kind hg (Calls.loadGlobal_builtin (by rw[I.ok.glob];exact I.mod.glob.keeps I.bk) hm (by rw[I.ok.blt];exact h1.keeps I.bk) ((h2 x hn).trans hv) h) hd
def by_2{x:Str}{v:V}{u:Value}{pos:Pos}(hg:Gl X x)(hm:X.mg x=some u)(r:RelV v u)(hd:AG x:=by decide):PE X (.Name x pos) (tC v):=
 λ_ _ _ H _ I h=>r_1 I hg hm ⟨v,H,I,r,h⟩ hd
def cy_0{x:Str}{v:V}{u:Value}{pos:Pos}(hg:Gl X x)(hm:X.mg x=none)(hv:bootBuiltins x=some u)(r:RelV v u)(hn:x≠ "__name__" :=by decide)(hd:AG x:=by decide):PE X (.Name x pos) (tC v):=
 λ_ _ _ H _ I h=>x_1 I hg hm hv ⟨v,H,I,r,h⟩ hn hd
variable{a b:Expr}{ta tb:TE}{pos:Pos}
variable{tA tB':TT}{z_9:List Expr}
def tAnd(t u:TT):TT:=λ σ H Q=>t σ H λc H1=>if c=true then u σ H1 Q else Q false H1
def tOr(t u:TT):TT:=λ σ H Q=>t σ H λc H1=>if c=true then Q true H1 else u σ H1 Q
def tNot(t:TT):TT:=λ σ H Q=>t σ H λc H1=>Q (!c) H1
def cy_1(ha:PT X a tA):PW X (.BoolOp .And [a] pos) tA:=by
 intro wh zd s σ H Q I h;refine isTrue_and (Bc (ha zd s σ H Q I h) λc s1 e=> ?_);cases c with
 |true=>exact isTrue_and_nil e
 |false=>exact e
def dj_8(ha:PT X a tA):PW X (.BoolOp .Or [a] pos) tA:=by
 intro wh zd s σ H Q I h;refine isTrue_or (Bc (ha zd s σ H Q I h) λc s1 e=> ?_);cases c with
 |false=>exact isTrue_or_nil e
 |true=>exact e
def dj_9(ha:PT X a tA)(hb:PW X (.BoolOp .And (b::z_9) pos) tB'):PW X (.BoolOp .And (a::b::z_9) pos) (tAnd tA tB'):=by
 intro wh zd s σ H Q I h;refine isTrue_and (Bc (ha zd s σ H _ I h) λc s1 ⟨H1,I1,q1⟩=> ?_);cases c with
 |true=>exact hb wh zd s1 σ H1 Q I1 q1
 |false=>exact⟨H1,I1,q1⟩
def dr_1(ha:PT X a tA)(hb:PW X (.BoolOp .Or (b::z_9) pos) tB'):PW X (.BoolOp .Or (a::b::z_9) pos) (tOr tA tB'):=by
 intro wh zd s σ H Q I h;refine isTrue_or (Bc (ha zd s σ H _ I h) λc s1 ⟨H1,I1,q1⟩=> ?_);cases c with
 |true=>exact⟨H1,I1,q1⟩
 |false=>exact hb wh zd s1 σ H1 Q I1 q1
def cl_2(ha:PT X a tA):PT X (.UnaryOp .Not a pos) (tNot tA):=by
 intro zd s σ H Q I h;exact isTrue_not (ha zd s σ H (λc H1=>Q (!c) H1) I h)
def dr_2(ta tb:TE):TE:=λ σ H Q=>ta σ H λx H1=>∃c,x=.bl c/\if c=true then tb σ H1 Q else Q (.bl false) H1
def dr_3(ta:TE):TE:=λ σ H Q=>ta σ H λx H1=>∃c,x=.bl c/\Q (.bl (!c)) H1
def dk_0{op}{t:TE}(h:PE X a t):PE X (.BoolOp op [a] pos) t:=λzd s σ H Q I hw=>BoolOp_one (h zd s σ H Q I hw)
def dk_1(ha:PE X a ta)(hb:PE X (.BoolOp .And (b::z_9) pos) tb):PE X (.BoolOp .And (a::b::z_9) pos) (dr_2 ta tb):=by
 intro zd s σ H Q I h;refine BoolOp_and (Bc (ha zd s σ H _ I h) λv s1 ⟨x,H1,I1,r1,q1⟩=> ?_);obtain⟨c,rfl,q1⟩:=q1;cases r1;refine P2 ?_;cases c with
 |true=>exact hb zd s1 σ H1 Q I1 q1
 |false=>exact⟨.bl false,H1,I1,rfl,q1⟩
def dk_2(ha:PE X a ta):PE X (.UnaryOp .Not a pos) (dr_3 ta):=by
 intro zd s σ H Q I h;refine UnaryOp_ (Bc (ha zd s σ H _ I h) λv s1 ⟨x,H1,I1,r1,q1⟩=> ?_);obtain⟨c,rfl,q1⟩:=q1;cases r1;exact not_of (P2 ⟨.bl (!c),H1,I1,rfl,q1⟩)
def tIf(t:TT)(ta tb:TE):TE:=λ σ H Q=>t σ H λc H1=>if c=true then ta σ H1 Q else tb σ H1 Q
def cl_3{c:Expr}(hc:PT X c tA)(ha:PE X a ta)(hb:PE X b tb):PE X (.IfExp c a b pos) (tIf tA ta tb):=by
 intro zd s σ H Q I h;refine wpAny_IfExp (Bc (hc zd s σ H _ I h) λd s1 ⟨H1,I1,q1⟩=> ?_);cases d with
 |true=>exact ha zd s1 σ H1 Q I1 q1
 |false=>exact hb zd s1 σ H1 Q I1 q1
end
def SqL(K:Frag)(H:Hp)(a:Addr)(xs:List V):Prop:=
 Rd H a (.lst xs)\/
  ∃(o:Obj) (its:Array Value) (n:Nat),K.lookup a=some o/\o.cls=.type "list" /\o.dict=none/\o.data=.seq its n/\its.size<=sizeLine/\Vals xs its.toList
def SqT(K:Frag)(H:Hp)(a:Addr)(xs:List V):Prop:=
 Rd H a (.tup xs)\/
  ∃(o:Obj) (its:Array Value) (n:Nat),K.lookup a=some o/\o.cls=.type "tuple" /\o.data=.seq its n/\its.size<=sizeLine/\Vals xs its.toList
def absV:Value->Option V
 | .none=>some .non
 | .bool b=>some (.bl b)
 | .int i _=>some (.int i)
 | .str x _=>some (.str x)
 | .bytes b _=>some (.byt b)
 | .float b _=>some (.flt b)
 | .ref a=>some (.ref a)
 | .type n=>some (.ty n)
 |_=>none
def RelV.abs{x:V}{u:Value}(r:RelV x u):absV u=some x:=by
 cases x with
 |non=>cases r;rfl
 |bl _=>cases r;rfl
 |int _=>obtain⟨t,rfl⟩:=r;rfl
 |str _=>obtain⟨t,rfl⟩:=r;rfl
 |byt _=>obtain⟨t,rfl⟩:=r;rfl
 |flt _=>obtain⟨t,rfl⟩:=r;rfl
 |ref _=>cases r;rfl
 |ty _=>cases r;rfl
theorem RelV.inj{x y:V}{u:Value}(r:RelV x u)(q:RelV y u):x=y:=F6 (r.abs.symm.trans q.abs)
theorem Vals.inj:∀{xs ys:List V} {us:List Value},Vals xs us->Vals ys us->xs=ys
 |_,_,_,.nil,.nil=>rfl
 |_,_,_,.cons r t,.cons r' t'=>by rw[r.inj r',Vals.inj t t']
section
variable{X:Cx}{zd:AE}{σ:St}{H:Hp}{s:Shared}{a:Addr}{xs ys:List V}
def SqL.of{K:Frag}(h:H a=some (.lst xs)):SqL K H a xs:=.inl (.inl h)
def SqT.of{K:Frag}(h:H a=some (.tup xs)):SqT K H a xs:=.inl (.inl h)
def Inv.list(I:Inv X zd σ H s)(h:SqL X.K H a xs):∃its:List Value,Vals xs its/\PlainL s.heap a its.toArray/\xs.length<=sizeLine:=by
 rcases h with h|⟨o,its,n,hk,hc,hd,hs,hz,r⟩
 ·obtain⟨z,its,n,r,e⟩:=h.ok I.hok;exact⟨its,r,⟨_,n,e,rfl,rfl,rfl⟩,z⟩
 ·refine⟨its.toList,r,⟨o,n,I.kIn a o hk,hc,hd,by simpa using hs⟩, ?_⟩;have e:=r.length;simp only[P8]at e;omega
def Inv.tuple(I:Inv X zd σ H s)(h:SqT X.K H a xs):∃its:List Value,Vals xs its/\IsTup s.heap a its.toArray/\xs.length<=sizeLine:=by
 rcases h with h|⟨o,its,n,hk,hc,hs,hz,r⟩
 ·obtain⟨z,its,r,p⟩:=h.ok I.hok;exact⟨its,r,p,z⟩
 ·refine⟨its.toList,r,⟨o,I.kIn a o hk,hc,n,by simpa using hs⟩, ?_⟩;have e:=r.length;simp only[P8]at e;omega
def Inv.list_inj(I:Inv X zd σ H s)(h:SqL X.K H a xs)(h':SqL X.K H a ys):xs=ys:=by
 obtain⟨its,r,⟨o,n,e,_,_,d⟩,_⟩:=I.list h;obtain⟨its',r',⟨o',n',e',_,_,d'⟩,_⟩:=I.list h';rw[e]at e';cases e';rw[d]at d';injection d' with d1 _
 have:its=its':=by simpa using K5 Array.toList d1
 subst this;exact r.inj r'
def Inv.tuple_inj(I:Inv X zd σ H s)(h:SqT X.K H a xs)(h':SqT X.K H a ys):xs=ys:=by
 obtain⟨its,r,⟨o,e,_,n,d⟩,_⟩:=I.tuple h;obtain⟨its',r',⟨o',e',_,n',d'⟩,_⟩:=I.tuple h';rw[e]at e';cases e';rw[d]at d';injection d' with d1 _
 have:its=its':=by simpa using K5 Array.toList d1
 subst this;exact r.inj r'
end
abbrev Cx.wish(X:Cx)(E:AA):Cx:={X with xe:=E}
abbrev Cx.nox(X:Cx):Cx:=X.wish λ_ _=>False
theorem Cx.Ok.wish{X:Cx}(ok:X.Ok)(E:AA):(X.wish E).Ok:=
 ⟨ok.mod,ok.kind,ok.glob,ok.blt,ok.above,ok.inj,ok.has,ok.cab,ok.hd,ok.frames,ok.stk,ok.exf,ok.bs,ok.bsz,ok.noex,ok.exfs,ok.funs,ok.frf⟩
def Cx.Ok.unwish{X:Cx}{E:AA}(ok:(X.wish E).Ok):X.Ok:=
 ⟨ok.mod,ok.kind,ok.glob,ok.blt,ok.above,ok.inj,ok.has,ok.cab,ok.hd,ok.frames,ok.stk,ok.exf,ok.bs,ok.bsz,ok.noex,ok.exfs,ok.funs,ok.frf⟩
section
variable{X:Cx}{zd:AE}{σ:St}{H:Hp}{s:Shared}{E:AA}
theorem Inv.wish(I:Inv X zd σ H s)(E:AA):Inv (X.wish E) zd σ H s:=⟨I.ok.wish E,I.os,I.bare,I.base,I.loc,I.cell,I.free,I.freeC,I.pin,I.hok,I.len⟩
theorem Inv.unwish(I:Inv (X.wish E) zd σ H s):Inv X zd σ H s:=⟨I.ok.unwish,I.os,I.bare,I.base,I.loc,I.cell,I.free,I.freeC,I.pin,I.hok,I.len⟩
theorem SP.unwish{D:Ends}{f:Flow}{s':Shared}(h:SP (X.wish E) zd D f s'):SP X zd D f s':=by
 cases f with
 |next=>obtain⟨σ',H',I,q⟩:=h;exact⟨σ',H',I.unwish,q⟩
 |brk=>obtain⟨σ',H',I,q⟩:=h;exact⟨σ',H',I.unwish,q⟩
 |cont=>obtain⟨σ',H',I,q⟩:=h;exact⟨σ',H',I.unwish,q⟩
 |ret u=>obtain⟨v,σ',H',I,r,q⟩:=h;exact⟨v,σ',H',I.unwish,r,q⟩
theorem PE.nox{e:Expr}{t:TE}(h:PE X.nox e t):PE X e t:=λzd s σ H Q I hw=>
 F3 (h zd s σ H Q (I.wish _) hw) (λ_ _ ⟨v,H',I',r,q⟩=>⟨v,H',I'.unwish,r,q⟩) λ_ _ z=>False.elim z
end
section
variable{X:Cx}{st:Stmt}{z_9:List Stmt}{t u:TS}{e:Expr}{te:TE}{pos:Pos}
def dr_4:TS:=λD σ H=>D.nx σ H
def tSeq(t u:TS):TS:=λD σ H=>t {D with nx:=u D} σ H
def cy_2:PSs X [] dr_4:=λ_ _ σ H _ I h=>T3 ⟨σ,H,I,h⟩
def cl_4(h1:PS X st t)(h2:PSs X z_9 u):PSs X (st::z_9) (tSeq t u):=by
 intro zd s σ H D I h;refine wpAny_execs_cons (Bc (h1 zd s σ H {D with nx:=u D} I h) λf s1 q=> ?_);cases f with
 |next=>
  obtain⟨σ',H',I',q⟩:=q;exact h2 zd s1 σ' H' D I' q
 |ret v=>exact q
 |brk=>exact q
 |cont=>exact q
def bf_7(h1:PS X st t):PSs X [st] t:=by
 intro zd s σ H D I h;refine wpAny_execs_cons (Bc (h1 zd s σ H D I h) λf s1 q=> ?_);cases f with
 |next=>exact T3 q
 |ret v=>exact q
 |brk=>exact q
 |cont=>exact q
def Inv.quiet{zd:AE}{σ:St}{H:Hp}{s:Shared}(I:Inv X zd σ H s):interactive X.env=false:=by simp[interactive,I.ok.kind]
def dr_5(te:TE):TS:=λD σ H=>te σ H λ_ H1=>D.nx σ H1
def x_2(he:PE X e te)(hs:swapsWith e none pos.line X.env=pure false:=by rfl):PS X (.Expr e pos) (dr_5 te):=by
 intro zd s σ H D I h;exact wpAny_Expr_any (Bc (he zd s σ H _ I h) λv s1 ⟨x,H1,I1,r1,q1⟩=>⟨σ,H1,I1,q1⟩) I.quiet hs
def tRet(te:TE):TS:=λD σ H=>te σ H D.rt
def bt_2(he:PE X e te):PS X (.Return (some e) pos) (tRet te):=by
 intro zd s σ H D I h;exact wpAny_Return_some (Bc (he zd s σ H _ I h) λv s1 ⟨x,H1,I1,r1,q1⟩=>⟨x,σ,H1,I1,r1,q1⟩)
def tIfS(c:TT)(t u:TS):TS:=λD σ H=>c σ H λb H1=>if b=true then t D σ H1 else u D σ H1
def dh_6{c:Expr}{a b:List Stmt}{tc:TT}(hc:PT X c tc)(ha:PSs X a t)(hb:PSs X b u):PS X (.If c a b pos) (tIfS tc t u):=by
 intro zd s σ H D I h;refine wpAny_If (Bc (hc zd s σ H _ I h) λd s1 ⟨H1,I1,q1⟩=> ?_);cases d with
 |true=>exact ha zd s1 σ H1 D I1 q1
 |false=>exact hb zd s1 σ H1 D I1 q1
end
abbrev TG:=V->St->Hp->(St->Hp->Prop)->Prop
abbrev TGs:=List V->St->Hp->(St->Hp->Prop)->Prop
def PG(X:Cx)(target:Expr)(t:TG):Prop:=
 ∀(zd:AE) (s:Shared) (σ:St) (H:Hp) (v:V) (u:Value) (Q:St->Hp->Prop),Inv X zd σ H s->RelV v u->t v σ H Q->
  wpAny (model X.prog X.w) X.A (assign target X.env u) (λ_ s'=>∃σ' H',Inv X zd σ' H' s'/\Q σ' H') X.xe s
def PGs(X:Cx)(ts:List Expr)(t:TGs):Prop:=
 ∀(zd:AE) (s:Shared) (σ:St) (H:Hp) (vs:List V) (us:List Value) (Q:St->Hp->Prop),Inv X zd σ H s->Vals vs us->t vs σ H Q->
  wpAny (model X.prog X.w) X.A (assignInOrder ((assignEach ts X.env).map (·.2)) us) (λ_ s'=>∃σ' H',Inv X zd σ' H' s'/\Q σ' H') X.xe s
section
variable{X:Cx}{pos:Pos}
def by_3(i:Nat):TG:=λv σ H Q=>Q (σ.set i (some v)) H
def x_3{i:Nat}{x:Str}(hN:X.N.Nodup)(hi:X.N[i]? =some x)(hx:Loc X.env.scope x)(hf:X.fn x=true\/X.env.scope.names.lookup x=some .local:=by trivial):PG X (.Name x pos) (by_3 i):=by
 intro zd s σ H v u Q I r h;exact T8 (at_5 I hN hi hx r (λs' I'=>⟨_,H,I',h⟩) hf)
def gNil:TGs:=λvs σ H Q=>vs= []/\Q σ H
def dr_6(t:TG)(u:TGs):TGs:=λvs σ H Q=>∃v r,vs=v::r/\t v σ H λ σ' H'=>u r σ' H' Q
def bf_8:PGs X [] gNil:=by
 intro zd s σ H vs us Q I r h;obtain⟨e,h⟩:=h;subst e;cases r;exact assignInOrder_nil ⟨σ,H,I,h⟩
def aa_2{e:Expr}{es:List Expr}{t:TG}{u:TGs}(h1:PG X e t)(h2:PGs X es u)
  (hs:(assignEach (e::es) X.env).map (·.2)=assign e X.env::(assignEach es X.env).map (·.2):=by rfl):PGs X (e::es) (dr_6 t u):=by
 intro zd s σ H vs us Q I r h;obtain⟨v,vr,e1,h⟩:=h;subst e1;cases r with
 |cons r rr=>
  rw[hs];refine assignInOrder_cons (Bc (h1 zd s σ H _ _ _ I r h) λ_ s1 ⟨σ1,H1,I1,q1⟩=> ?_);exact h2 zd s1 σ1 H1 _ _ Q I1 rr q1
def gTup(K:Frag)(n:Nat)(t:TGs):TG:=λv σ H Q=>∃a xs,v=.ref a/\SqT K H a xs/\xs.length=n/\t xs σ H Q
def bt_3{es:List Expr}{k:Nat}{t:TGs}{n:Nat}(hc:X.calm=true)(h:PGs X es t)
  (hn:(assignEach es X.env).length=n:=by rfl) (hst:(assignEach es X.env).findIdx? (·.1)=none:=by rfl):PG X (.Tuple es k pos) (gTup X.K n t):=by
 intro zd s σ H v u Q I r hw;obtain⟨a,xs,e1,hq,hl,hw⟩:=hw;subst e1;cases r;obtain⟨its,rv,ht,hz⟩:=I.tuple hq;refine assign_Tuple_tuple (I.ok.hd hc) ht (by simp[hn,<-hl,rv.length]) hst λh' hx=> ?_;have I1:Inv X zd σ H {s with heap:=h'}:=I.kept (t':=s.toks) λb o e=>hx b o (D7 (A5 e)) e;exact h zd _ σ H xs _ Q I1 (by simpa using rv) hw
def tAsg(te:TE)(g:TG):TS:=λD σ H=>te σ H λx H1=>g x σ H1 D.nx
def cl_5{tg e:Expr}{te:TE}{g:TG}(he:PE X e te)(hg:PG X tg g)(hs:swapsWithSole [tg] e pos.line X.env=pure false:=by rfl)(hw:swappedStores [tg] e X.env=pure none:=by rfl)
  (h1:(assignEach [tg] X.env).map (·.2)= [assign tg X.env]:=by rfl):PS X (.Assign [tg] e pos) (tAsg te g):=by
 intro zd s σ H D I h;refine wpAny_Assign_stores (Bc (he zd s σ H _ I h) λv s1 ⟨x,H1,I1,r1,q1⟩=> ?_) hs hw;rw[h1];exact Bc (hg zd s1 σ H1 x v _ I1 r1 q1) λ_ s2 q=>q
def bt_4{i:Nat}{x:Str}{e:Expr}{te:TE}{pos':Pos}(hN:X.N.Nodup)(hi:X.N[i]? =some x)(hx:Loc X.env.scope x)(he:PE X e te)(hs:swapsWith e (some (.Name x pos')) pos.line X.env=pure false:=by rfl)(hf:X.fn x=true\/X.env.scope.names.lookup x=some .local:=by trivial):
  PS X (.Assign [.Name x pos'] e pos) (tAsg te (by_3 i)):=by
 intro zd s σ H D I h;refine wpAny_Assign_Name (Bc (he zd s σ H _ I h) λv s1 ⟨y,H1,I1,r1,q1⟩=> ?_) hs;exact at_5 I1 hN hi hx r1 (λs2 I2=>⟨_,H1,I2,q1⟩) hf
end
section
variable{X:Cx}{pos:Pos}
def dk_3(c:TT)(tb:TS):TS:=λD σ H=>∃W:Nat->St->Hp->Prop,(∃m,W m σ H)/\∀m σ H,W m σ H->
 c σ H λb H1=>if b=true then∃N:St->Hp->Prop,(∀σ' H',N σ' H'->∃m',m' < m/\W m' σ' H')/\tb {D with nx:=N,ct:=N,bk:=D.nx} σ H1 else D.nx σ H1
def cl_6{c:Expr}{body:List Stmt}{tc:TT}{tb:TS}(hp:PassesOwn (model X.prog X.w) X.A X.env X.xe)(hc:PT X c tc)(hb:PSs X body tb):PS X (.While c body [] pos) (dk_3 tc tb):=by
 intro zd s σ H D I h;obtain⟨W,⟨m0,w0⟩,turn⟩:=h;refine wpAny_While (codeAny_whileLoop (λn s'=>∃σ' H',Inv X zd σ' H' s'/\W n σ' H') ?_ m0 ⟨σ,H,I,w0⟩)
 rintro n s1 ⟨σ1,H1,I1,w1⟩
 refine O8 hp (Bc (hc zd s1 σ1 H1 _ I1 (turn n σ1 H1 w1)) λb s2 ⟨H2,I2,q2⟩=> ?_);cases b with
 |true=>
  obtain⟨N,hN,q2⟩:=q2;rw[if_pos rfl];refine O8 hp (Bc (hb zd s2 σ1 H2 _ I2 q2) λf s3 q3=> ?_);cases f with
  |next=>
   obtain⟨σ3,H3,I3,n3⟩:=q3;obtain⟨m',hm,w3⟩:=hN σ3 H3 n3;exact⟨m',hm,σ3,H3,I3,w3⟩
  |cont=>
   obtain⟨σ3,H3,I3,n3⟩:=q3;obtain⟨m',hm,w3⟩:=hN σ3 H3 n3;exact⟨m',hm,σ3,H3,I3,w3⟩
  |brk=>exact q3
  |ret v=>exact q3
 |false=>
  rw[if_neg A6];exact T3 ⟨σ1,H2,I2,q2⟩
end
structure It where
 go:Nat->Hp->Prop
 yld:Nat->Hp->V->Hp->Prop
 stop:Nat->Hp->Prop
def Gb(X:Cx)(zd:AE)(H:Hp)(b:Addr):Prop:=
 H b=none/\b≠X.env.locals/\b∉X.fs/\(b∈X.ex\/X.s₀.heap.objs.size<=b)/\(∀x c,X.env.cells.lookup x=some c->c≠b)/\∀p∈X.pn ++ zd,p.1≠b
def Inv.fpOk{X:Cx}{zd:AE}{σ:St}{H H':Hp}{s:Shared}{b:Addr}(I:Inv X zd σ H s)(hb:s.heap.objs.size<=b)(hn:H' b=none):Gb X zd H' b:=by
 refine⟨hn,X0 (C5 I.lt hb),I.nofs hb,.inr (D4 I.sz hb),λx c e z=> ?_,λp hp z=> ?_⟩
 ·obtain⟨v,q⟩:=I.cell x c e;exact absurd (C5 q.lt (by rw[z];exact hb)) (F4 _)
 ·exact absurd (C5 (A5 (I.pin p hp).1) (by rw[z];exact hb)) (F4 _)
structure Turn(P:Program)(w:World)(K:Frag)(tg:Expr)(J:It)(fp:List Addr)(it:Addr)(tn:Nat->Heap->Prop):Prop where
 mem:it∈fp
 obj:∀i h,tn i h->∀b∈fp,∃o,h.get? b=some o/\∀v,o.data≠ .cell v
 keep:∀i h h',tn i h->(∀b∈fp,∀o,h.get? b=some o->h'.get? b=some o)->tn i h'
 item:∀(X:Cx),X.prog=P->X.w=w->X.K=K->X.calm=true->∀(i:Nat) (zd:AE) (s:Shared) (σ:St) (H:Hp) (E:AA),Inv X zd σ H s->(∀b∈fp,Gb X zd H b)->tn i s.heap->J.go i H->
  wpAny (model P w) X.A (pyNext (.ref it)) (λr s1=>∃u,r=some u/\
   wpAny (model P w) X.A (letOwnedTupleGo tg (.ref it) u) (λ_ s2=>∃x H',Inv X zd σ H' s2/\RelV x u/\J.yld i H x H'/\tn (i + 1) s2.heap/\∀b∈fp,H' b=none) E s1) E s
 done:∀(X:Cx),X.prog=P->X.w=w->X.K=K->X.calm=true->∀(i:Nat) (zd:AE) (s:Shared) (σ:St) (H:Hp) (E:AA),Inv X zd σ H s->(∀b∈fp,Gb X zd H b)->tn i s.heap->J.stop i H->
  wpAny (model P w) X.A (pyNext (.ref it)) (λr s1=>r=none/\Inv X zd σ H s1) E s
 self:∀(A:Around) (i:Nat) (s:Shared) (Q:AA) (E:AA),tn i s.heap->Q (.ref it) s->wpAny (model P w) A (pyIter (.ref it)) Q E s
abbrev TI:=St->Hp->(It->Hp->Prop)->Prop
def PIE(X:Cx)(zd:AE)(σ:St)(tg:Expr)(R:It->Hp->Prop)(itv:Value)(s2:Shared):Prop:=
 ∃(it:Addr) (fp:List Addr) (tn:Nat->Heap->Prop) (J:It) (H':Hp),itv=.ref it/\Inv X zd σ H' s2/\Turn X.prog X.w X.K tg J fp it tn/\tn 0 s2.heap/\(∀b∈fp,Gb X zd H' b)/\R J H'
def PI(X:Cx)(tg iter:Expr)(wi:TI):Prop:=
 ∀(zd:AE) (s:Shared) (σ:St) (H:Hp) (R:It->Hp->Prop),Inv X zd σ H s->wi σ H R->
  wpAny (model X.prog X.w) X.A (eval iter X.env) (λv s1=>wpAny (model X.prog X.w) X.A (pyIter v) (PIE X zd σ tg R) X.xe s1) X.xe s
def bl_9{M:Model}{A:Around}{E:AA}{s:Shared}{tg:Expr}{it:Addr}{u:Value}{o:Obj}{n:String}{vs:Array Value}{Q:Unit->Shared->Prop}(ho:s.heap.get? it=some o)(hc:o.cls=.type n)(hd:o.data=.fields vs)
  (hn: ["enumerate","zip","dict_itemiterator","dict_reverseitemiterator","odict_iterator","itertools.zip_longest","itertools.pairwise"].contains n=false) (hQ:Q .unit s):wpAny M A (letOwnedTupleGo tg (.ref it) u) Q E s:=by
 unfold letOwnedTupleGo;cases tg <;> first
  |exact F0 hQ
  | (cases u <;> first
    |exact F0 hQ
    | (refine A7 (wpAny_load ho ?_)
       rw[hc,hd];show wpAny M A (if(["enumerate","zip","dict_itemiterator","dict_reverseitemiterator","odict_iterator","itertools.zip_longest","itertools.pairwise"].contains n && vs[0]? ==some (rawInt _))=true then _ else _) Q E s;rw[if_neg (by intro h;rw[hn,Bool.false_and]at h;cases h)];exact F0 hQ))
def Itl(K:Frag)(a:Addr):It:=
 ⟨λi H=>∃xs x,SqL K H a xs/\xs[i]? =some x,λi H x H'=>H'=H/\∀xs,SqL K H a xs->xs[i]? =some x,λi H=>∃xs,SqL K H a xs/\xs.length<=i⟩
def Itt(K:Frag)(a:Addr):It:=
 ⟨λi H=>∃xs x,SqT K H a xs/\xs[i]? =some x,λi H x H'=>H'=H/\∀xs,SqT K H a xs->xs[i]? =some x,λi H=>∃xs,SqT K H a xs/\xs.length<=i⟩
def Itr(lo:Int)(n:Nat):It:=⟨λi _=>i < n,λi H x H'=>H'=H/\x=.int (lo + i),λi _=>n<=i⟩
def cf_1{P:Program}{w:World}{K:Frag}{tg:Expr}(a it:Addr):Turn P w K tg (Itl K a) [it] it (λi h=>h.IsListIter it a i) where
 mem:=by simp
 obj:=λi h st b hb=>by
  have e:b=it:=by simpa using hb
  subst e;obtain⟨o,e,c,d⟩:=st;exact⟨o,e,λv z=>by rw[d]at z;cases z⟩
 keep:=λi h h' st k=>st.at λo e=>k it (by simp) o e
 item:=by
  intro X hP hw hK hc i zd s σ H E I hf st hg;subst hP hw hK;obtain⟨xs,x,hq,hx⟩:=hg;obtain⟨its,rv,p,hz⟩:=I.list hq;obtain⟨u,hu,ru⟩:=rv.get hx;obtain⟨f0,f1,f2,f3,f4,f5⟩:=hf it (by simp);refine wpAny_pyNext_list_item st p.isList (x:=u) (by simpa using hu) λh' st' sb=> ?_;have I1:Inv X zd σ H {s with heap:=h'}:=I.turned (t':=s.toks) (λb o hb e=>(sb.2 b hb).trans e) f0 f1 f3 f4 f5;obtain⟨o,e,c,d⟩:=id st';exact⟨u,rfl,bl_9 (s:={s with heap:=h'}) e c d ⋯ ⟨x,H,I1,ru,⟨rfl,λys hy=>by rw[I.list_inj hy hq];exact hx⟩,st',λb hb=>(hf b hb).1⟩⟩
 done:=by
  intro X hP hw hK hc i zd s σ H E I hf st hg;subst hP hw hK;obtain⟨xs,hq,hx⟩:=hg;obtain⟨its,rv,p,hz⟩:=I.list hq;obtain⟨f0,f1,f2,f3,f4,f5⟩:=hf it (by simp);have hl:=rv.length;exact wpAny_pyNext_list_end (I.ok.hd hc) st p.isList (by simp;omega) λh' eb=>⟨rfl,I.turned (t':=s.toks) (λb o hb e=>eb b o hb e) f0 f1 f3 f4 f5⟩
 self:=λ_ _ _ _ _ st h=>wpAny_pyIter_listiter st h
def bt_5{P:Program}{w:World}{K:Frag}{tg:Expr}(a it:Addr):Turn P w K tg (Itt K a) [it] it (λi h=>h.IsTupleIter it a i) where
 mem:=by simp
 obj:=λi h st b hb=>by
  have e:b=it:=by simpa using hb
  subst e;obtain⟨o,e,c,d⟩:=st;exact⟨o,e,λv z=>by rw[d]at z;cases z⟩
 keep:=λi h h' st k=>st.at λo e=>k it (by simp) o e
 item:=by
  intro X hP hw hK hc i zd s σ H E I hf st hg;subst hP hw hK;obtain⟨xs,x,hq,hx⟩:=hg;obtain⟨its,rv,p,hz⟩:=I.tuple hq;obtain⟨u,hu,ru⟩:=rv.get hx;obtain⟨f0,f1,f2,f3,f4,f5⟩:=hf it (by simp);refine wpAny_pyNext_tuple_item st (show s.heap.IsTuple a its.toArray from p) (x:=u) (by simpa using hu) λh' st' sb=> ?_;have I1:Inv X zd σ H {s with heap:=h'}:=I.turned (t':=s.toks) (λb o hb e=>(sb.2 b hb).trans e) f0 f1 f3 f4 f5;obtain⟨o,e,c,d⟩:=id st';exact⟨u,rfl,bl_9 (s:={s with heap:=h'}) e c d ⋯ ⟨x,H,I1,ru,⟨rfl,λys hy=>by rw[I.tuple_inj hy hq];exact hx⟩,st',λb hb=>(hf b hb).1⟩⟩
 done:=by
  intro X hP hw hK hc i zd s σ H E I hf st hg;subst hP hw hK;obtain⟨xs,hq,hx⟩:=hg;obtain⟨its,rv,p,hz⟩:=I.tuple hq;obtain⟨f0,f1,f2,f3,f4,f5⟩:=hf it (by simp);have hl:=rv.length;exact wpAny_pyNext_tuple_end (I.ok.hd hc) st (show s.heap.IsTuple a its.toArray from p) (by simp;omega) λh' eb=>⟨rfl,I.turned (t':=s.toks) (λb o hb e=>eb b o hb e) f0 f1 f3 f4 f5⟩
 self:=λ_ _ _ _ _ st h=>wpAny_pyIter_tupleiter st h
def bt_6{P:Program}{w:World}{K:Frag}{tg:Expr}(it:Addr)(lo:Int)(n:Nat):Turn P w K tg (Itr lo n) [it] it (λi h=>IsRangeIter h it (lo + (i:Nat) * 1) ((n:Int) - (i:Nat)) 1) where
 mem:=by simp
 obj:=λi h st b hb=>by
  have e:b=it:=by simpa using hb
  subst e;exact⟨_,st,λv z=>by
   have z':Data.fields _=Data.cell v:=z;cases z'⟩
 keep:=λi h h' st k=>k it (by simp) _ st
 item:=by
  intro X hP hw hK hc i zd s σ H E I hf st hg;subst hP hw hK;obtain⟨f0,f1,f2,f3,f4,f5⟩:=hf it (by simp);have W:=Walks.range (prog:=X.prog) (w:=X.w) (I.ok.hd hc) it lo 1 n;refine W.item i s _ _ hg st λv h' tk hv st' kk=> ?_;obtain⟨t,rfl⟩:=hv;have I1:Inv X zd σ H {s with heap:=h',toks:=tk}:=I.turned (λb o hb e=>kk b o (by simpa using hb) e) f0 f1 f3 f4 f5;refine⟨_,rfl,bl_9 (s:={s with heap:=h',toks:=tk}) (n:= "range_iterator") st' rfl rfl ⋯ ⟨.int (lo + i),H,I1,⟨t, ?_⟩,⟨rfl,rfl⟩,st',λb hb=>(hf b hb).1⟩⟩;rw[Int.mul_one]
 done:=by
  intro X hP hw hK hc i zd s σ H E I hf st hg;subst hP hw hK;obtain⟨f0,f1,f2,f3,f4,f5⟩:=hf it (by simp);exact wpAny_pyNext_range_end (I.ok.hd hc) st (by have:n<=i:=hg;omega) λh' eb=>⟨rfl,I.turned (t':=s.toks) (λb o hb e=>eb b o hb e) f0 f1 f3 f4 f5⟩
 self:=λ_ _ _ _ _ st h=>wpAny_pyIter_rangeiter st h
section
variable{X:Cx}{tg:Expr}
def cl_7{zd:AE}{σ:St}{H:Hp}{s:Shared}{R:It->Hp->Prop}{E:AA}{lo hi:Int}{t u v:Tok}{tk:Nat}(I:Inv X zd σ H s)(h1: -(2 ^ 62)<=lo)(h2:lo < 2 ^ 62)(h3: -(2 ^ 62)<=hi)(h4:hi < 2 ^ 62)
  (q:R (Itr lo (hi - lo).toNat) H):wpAny (model X.prog X.w) X.A (pyIter (.ref s.heap.objs.size)) (PIE X zd σ tg R) E {s with heap:=s.heap.push {cls:=.type "range",data:=.fields #[.int lo t,.int hi u,.int 1 v]},toks:=tk}:=by
 refine wpAny_pyIter_range (IsRange.new ..) (small_one h1 h2 h3 h4) ?_;have I1:Inv X zd σ H {s with heap:=s.heap.push {cls:=.type "range",data:=.fields #[.int lo t,.int hi u,.int 1 v]},toks:=tk}:=I.kept λb o e=>A4 _ e;refine⟨(s.heap.push {cls:=.type "range",data:=.fields #[.int lo t,.int hi u,.int 1 v]}).objs.size,[(s.heap.push {cls:=.type "range",data:=.fields #[.int lo t,.int hi u,.int 1 v]}).objs.size],_,_,H,rfl,
  I1.kept (t':=tk) λb o e=>A4 _ e,bt_6 _ lo (hi - lo).toNat, ?_,λb hb=> ?_,q⟩
 ·have e1:lo + ((0:Nat):Int) * 1=lo:=by simp
  have e2:(((hi - lo).toNat:Nat):Int) - ((0:Nat):Int)=Builtin.Range.rangeSize lo hi 1:=by rw[rangeSize_one];split <;> omega
  show IsRangeIter _ _ (lo + ((0:Nat):Int) * 1) ((((hi - lo).toNat:Nat):Int) - ((0:Nat):Int)) 1;rw[e1,e2];exact B8 _ rfl
 ·have e:b=(s.heap.push {cls:=.type "range",data:=.fields #[.int lo t,.int hi u,.int 1 v]}).objs.size:=by simpa using hb
  subst e;exact I1.fpOk (B5 _) (I1.hok.fresh (B5 _))
def dr_7(ta:TA):TI:=λ σ H R=>ta σ H λvs H1=>∃j:Int,vs= [.int j]/\ -(2 ^ 62)<=j/\j < 2 ^ 62/\R (Itr 0 j.toNat) H1
def cf_2{a:Expr}{ta:TA}{p pos:Pos}(hg:Gl X "range")(hm:X.mg "range" =none)(ha:PA X [a] ta)(hs:starEach [a] X.env= [(false,eval a X.env)]:=by rfl):PI X tg (.Call (.Name "range" p) [a] [] pos) (dr_7 ta):=by
 intro zd s σ H R I h;refine Call_ (x_1 I hg hm boot_range (N0 (Bc (ha pos zd s σ H _ I h) λus s1 ⟨vs,H1,I1,r1,q1⟩=> ?_) hs rfl));obtain⟨j,e,q1,q2,q⟩:=q1;subst e;cases r1 with
 |cons r rr=>
  cases rr;obtain⟨t,rfl⟩:=r;exact call_range_1 (cl_7 I1 () () q1 q2 (by simpa using q))
def tFor(wi:TI)(g:TG)(tb:TS):TS:=λD σ H=>wi σ H λJ H1=>∃W:Nat->Nat->St->Hp->Prop,(∃m,W 0 m σ H1)/\∀i m σ H,W i m σ H->
 (J.stop i H/\D.nx σ H)\/(J.go i H/\∃N:St->Hp->Prop,(∀σ' H',N σ' H'->∃m',m' < m/\W (i + 1) m' σ' H')/\∀x H',J.yld i H x H'->g x σ H' λ σ2 H2=>tb {D with nx:=N,ct:=N,bk:=D.nx} σ2 H2)
def at_6(fp:List Addr)(h:Heap):AE:=fp.filterMap λb=>(h.get? b).map λo=>(b,o)
def x_4{fp:List Addr}{h:Heap}{b:Addr}{o:Obj}(hb:b∈fp)(e:h.get? b=some o):(b,o)∈at_6 fp h:=T5.mpr ⟨b,hb,by rw[e];rfl⟩
def cf_3{fp:List Addr}{h:Heap}{p:Addr×Obj}(hp:p∈at_6 fp h):p.1∈fp/\h.get? p.1=some p.2:=by
 obtain⟨b,hb,e⟩:=T5.mp hp;cases q:h.get? b with
 |none=>rw[q]at e;cases e
 |some o=>
  rw[q]at e;have e':(b,o)=p:=F6 e;subst e';exact⟨hb,q⟩
def Inv.pinned{zd:AE}{σ:St}{H:Hp}{s:Shared}{fp:List Addr}(I:Inv X zd σ H s)(hf:∀b∈fp,Gb X zd H b)(ho:∀b∈fp,∃o,s.heap.get? b=some o/\∀v,o.data≠ .cell v):Inv X (zd ++ at_6 fp s.heap) σ H s:=
 I.pins_of λp hp=>(F2.mp hp).elim (λz=>I.pin p (B6 _ z)) λz=>by
  obtain⟨hb,e⟩:=cf_3 z;obtain⟨f0,f1,f2,_⟩:=hf p.1 hb;obtain⟨o,e',d⟩:=ho p.1 hb;rw[e]at e';cases e';exact⟨e,f0,f1,f2,d⟩
def Inv.unpinned{zd pl:AE}{σ:St}{H:Hp}{s:Shared}(I:Inv X (zd ++ pl) σ H s):Inv X zd σ H s:=I.pins_of λp hp=>I.pin p (B6 _ (E8 _ hp))
def bt_7{iter:Expr}{body:List Stmt}{wi:TI}{g:TG}{tb:TS}{pos:Pos}(hp:PassesOwn (model X.prog X.w) X.A X.env X.xe)(hc:X.calm=true)(hi:PI X tg iter wi)(hg:PG X tg g)(hb:PSs X body tb)
  (hs:∀x,foldedSetIterable iter X.env x=pure x:=by intro _;rfl):PS X (.For tg iter body [] pos) (tFor wi g tb):=by
 intro zd s σ H D I h;refine wpAny_For (Bc (hi zd s σ H _ I h) λv s1 h1=>Bc h1 λitv s2 h2=> ?_) hs;obtain⟨it,fp,tn,J,H2,e,I2,T,st2,f2,W,⟨m0,w0⟩,turn⟩:=h2;subst e
 
 have bz:∀{H':Hp},(∀b∈fp,H' b=none)->∀b∈fp,Gb X zd H' b:=λhn b hb=>⟨hn b hb,(f2 b hb).2⟩;refine codeAny_forLoop_any (λn s'=>∃i σ' H',Inv X zd σ' H' s'/\tn i s'.heap/\(∀b∈fp,H' b=none)/\W i n σ' H') ?_ m0 ⟨0,σ,H2,I2,st2,λb hb=>(f2 b hb).1,w0⟩
 rintro n s3 ⟨i,σ3,H3,I3,st3,fr3,w3⟩
 rcases turn i n σ3 H3 w3 with⟨stop,qn⟩|⟨go,N,hN,step⟩
 ·refine O8 hp (Bc (T.done X rfl rfl rfl hc i zd s3 σ3 H3 X.xe I3 (bz fr3) st3 stop) λr s4 ⟨hr,I4⟩=> ?_);subst hr;exact T3 ⟨σ3,H3,I4,qn⟩
 ·refine O8 hp (Bc (T.item X rfl rfl rfl hc i zd s3 σ3 H3 X.xe I3 (bz fr3) st3 go) λr s4 ⟨u,hr,h4⟩=> ?_);subst hr;refine O8 hp (Bc h4 λ_ s5 ⟨x,H5,I5,r5,y5,st5,fr5⟩=> ?_);have I5':=I5.pinned (bz fr5) (T.obj _ _ st5);refine O8 hp (Bc (hg _ s5 σ3 H5 x u _ I5' r5 (step x H5 y5)) λ_ s6 ⟨σ6,H6,I6,q6⟩=> ?_);refine O8 hp (Bc (hb _ s6 σ6 H6 _ I6 q6) λf s7 q7=> ?_);have again:∀{σ7:St} {H7:Hp},Inv X (zd ++ at_6 fp s5.heap) σ7 H7 s7->N σ7 H7->∃m,m < n/\∃i σ' H',Inv X zd σ' H' s7/\tn i s7.heap/\(∀b∈fp,H' b=none)/\W i m σ' H':=λ{σ7 H7} I7 n7=>by
   obtain⟨m',hm,w7⟩:=hN σ7 H7 n7;refine⟨m',hm,i + 1,σ7,H7,I7.unpinned,T.keep _ _ _ st5 λb hb o e=>(I7.pin (b,o) (B6 _ (B6 _ (x_4 hb e)))).1,λb hb=> ?_,w7⟩;obtain⟨o,e,d⟩:=T.obj _ _ st5 b hb;exact(I7.pin (b,o) (B6 _ (B6 _ (x_4 hb e)))).2.1
  cases f with
  |next=>obtain⟨σ7,H7,I7,n7⟩:=q7;exact again I7 n7
  |cont=>obtain⟨σ7,H7,I7,n7⟩:=q7;exact again I7 n7
  |brk=>obtain⟨σ7,H7,I7,q7⟩:=q7;exact⟨σ7,H7,I7.unpinned,q7⟩
  |ret v=>obtain⟨x7,σ7,H7,I7,r7,q7⟩:=q7;exact⟨x7,σ7,H7,I7.unpinned,r7,q7⟩
end
abbrev R2:=V->V->Hp->VK->Prop
def OpR(X:Cx)(f:Value->Value->Sem Value)(r:R2):Prop:=
 ∀(zd:AE) (s:Shared) (σ:St) (H:Hp) (x y:V) (v u:Value) (Q:VK),Inv X zd σ H s->RelV x v->RelV y u->r x y H Q->
  wpAny (model X.prog X.w) X.A (f v u) (EP X zd σ Q) X.xe s
def UnR(X:Cx)(f:Value->Sem Value)(r:V->Hp->VK->Prop):Prop:=
 ∀(zd:AE) (s:Shared) (σ:St) (H:Hp) (x:V) (v:Value) (Q:VK),Inv X zd σ H s->RelV x v->r x H Q->
  wpAny (model X.prog X.w) X.A (f v) (EP X zd σ Q) X.xe s
def CallR(X:Cx)(f:Value)(r:List V->Hp->VK->Prop):Prop:=
 ∀(zd:AE) (s:Shared) (σ:St) (H:Hp) (xs:List V) (us:List Value) (Q:VK),Inv X zd σ H s->Vals xs us->r xs H Q->
  wpAny (model X.prog X.w) X.A (call f us) (EP X zd σ Q) X.xe s
def TruR(X:Cx)(r:V->Hp->(Bool->Hp->Prop)->Prop):Prop:=
 ∀(zd:AE) (s:Shared) (σ:St) (H:Hp) (x:V) (v:Value) (Q:Bool->Hp->Prop),Inv X zd σ H s->RelV x v->r x H Q->
  wpAny (model X.prog X.w) X.A (truthy v) (TP X zd σ Q) X.xe s
def tOp(r:R2)(ta tb:TE):TE:=λ σ H Q=>ta σ H λx H1=>tb σ H1 λy H2=>r x y H2 Q
def tUn(r:V->Hp->VK->Prop)(ta:TE):TE:=λ σ H Q=>ta σ H λx H1=>r x H1 Q
def rI(C:Int->Int->Prop)(g:Int->Int->V):R2:=λx y H Q=>∃i j,x=.int i/\y=.int j/\C i j/\Q (g i j) H
def rI0(g:Int->Int->V):R2:=λx y H Q=>∃i j,x=.int i/\y=.int j/\Q (g i j) H
def rU(g:Int->V):V->Hp->VK->Prop:=λx H Q=>∃i,x=.int i/\Q (g i) H
section
variable{X:Cx}{a b c:Expr}{ta tb tc:TE}{pos:Pos}
def binT(ha:PE X a ta)(hb:PE X b tb){zd:AE}{s:Shared}{σ:St}{H:Hp}{R:V->V->Hp->Prop}(I:Inv X zd σ H s)
  (h:ta σ H λx H1=>tb σ H1 λy H2=>R x y H2) {Q:AA} {f:Value->Value->Sem Value}
  (hf:∀v u s2 x y H2,Inv X zd σ H2 s2->RelV x v->RelV y u->R x y H2->wpAny (model X.prog X.w) X.A (f v u) Q X.xe s2):
  wpAny (model X.prog X.w) X.A (eval a X.env) (λv s₁=>wpAny (model X.prog X.w) X.A (eval b X.env) (λu s₂=>wpAny (model X.prog X.w) X.A (f v u) Q X.xe s₂) X.xe s₁) X.xe s:=by
 refine Bc (ha zd s σ H _ I h) λv s1 ⟨x,H1,I1,r1,q1⟩=> ?_;refine Bc (hb zd s1 σ H1 _ I1 q1) λu s2 ⟨y,H2,I2,r2,q2⟩=> ?_;exact hf v u s2 x y H2 I2 r1 r2 q2
def dh_7{op:Operator}{r:R2}(ho:OpR X (binaryOp op) r)(ha:PE X a ta)(hb:PE X b tb):PE X (.BinOp a op b pos) (tOp r ta tb):=by
 intro zd s σ H Q I h;exact wpAny_BinOp (binT ha hb I h λv u s2 x y H2 I2 rx ry q=>ho zd s2 σ H2 x y v u Q I2 rx ry q)
def dr_9{op:UnaryOp}{r:V->Hp->VK->Prop}(ho:UnR X (unaryOp op) r)(ha:PE X a ta):PE X (.UnaryOp op a pos) (tUn r ta):=by
 intro zd s σ H Q I h;exact UnaryOp_ (Bc (ha zd s σ H _ I h) λv s1 ⟨x,H1,I1,r1,q1⟩=>ho zd s1 σ H1 x v Q I1 r1 q1)
def opI{f:Value->Value->Sem Value}{C:Int->Int->Prop}{g:Int->Int->Int}
  (rule:∀(i j:Int) (t u:Tok) (s:Shared) (Q:AA) (E:AA),C i j->Q (.int (g i j) s.toks) {s with toks:=s.toks + 1}->wpAny (model X.prog X.w) X.A (f (.int i t) (.int j u)) Q E s):
  OpR X f (rI C λi j=> .int (g i j)):=by
 intro zd s σ H x y v u Q I rx ry h;obtain⟨i,j,rfl,rfl,hc,q⟩:=h;obtain⟨t,rfl⟩:=rx;obtain⟨t',rfl⟩:=ry;exact rule i j t t' s _ _ hc ⟨.int (g i j),H,I.tok _,⟨_,rfl⟩,q⟩
def opI0{f:Value->Value->Sem Value}{g:Int->Int->Int}
  (rule:∀(i j:Int) (t u:Tok) (s:Shared) (Q:AA) (E:AA),Q (.int (g i j) s.toks) {s with toks:=s.toks + 1}->wpAny (model X.prog X.w) X.A (f (.int i t) (.int j u)) Q E s):
  OpR X f (rI0 λi j=> .int (g i j)):=by
 intro zd s σ H x y v u Q I rx ry h;obtain⟨i,j,rfl,rfl,q⟩:=h;obtain⟨t,rfl⟩:=rx;obtain⟨t',rfl⟩:=ry;exact rule i j t t' s _ _ ⟨.int (g i j),H,I.tok _,⟨_,rfl⟩,q⟩
def opB0{f:Value->Value->Sem Value}{g:Int->Int->Bool}
  (rule:∀(i j:Int) (t u:Tok) (s:Shared) (Q:AA) (E:AA),Q (.bool (g i j)) s->wpAny (model X.prog X.w) X.A (f (.int i t) (.int j u)) Q E s):
  OpR X f (rI0 λi j=> .bl (g i j)):=by
 intro zd s σ H x y v u Q I rx ry h;obtain⟨i,j,rfl,rfl,q⟩:=h;obtain⟨t,rfl⟩:=rx;obtain⟨t',rfl⟩:=ry;exact rule i j t t' s _ _ ⟨.bl (g i j),H,I,rfl,q⟩
def CPow(i j:Int):Prop:=0<=j/\j<=1000000/\i.natAbs < 2 ^ 64
def CMul(i j:Int):Prop:=(-(2 ^ 64) < i/\i < 2 ^ 64)\/(-(2 ^ 64) < j/\j < 2 ^ 64)
def CMul.ok{i j:Int}(h:CMul i j):IntMulOk i j:=by
 rcases h with⟨h1,h2⟩|⟨h1,h2⟩
 ·exact .of_left (intBits_le_64 h1 h2)
 ·exact .of_right (intBits_le_64 h1 h2)
def dk_6:OpR X (binaryOp .Add) (rI0 λi j=> .int (i + j)):=opI0 λ_ _ _ _ _ _ _ q=>add_int q
def dk_7:OpR X (binaryOp .Mult) (rI CMul λi j=> .int (i * j)):=opI λ_ _ _ _ _ _ _ hc q=>mul_int q hc.ok
def dk_8:OpR X (binaryOp .Mod) (rI (λ_ j=>0 < j) λi j=> .int (i % j)):=opI λi j _ _ _ _ _ hc q=>by
 have h1:(0:Int) < j:=hc;exact mod_int' () (by rw[Int.fmod_eq_emod_of_nonneg i ()];exact q)
def dk_9:OpR X (binaryOp .Pow) (rI CPow λi j=> .int (i ^ j.toNat)):=opI λ_ _ _ _ _ _ _ hc q=>pow_int_small hc.1 hc.2.1 hc.2.2 q
def unI{f:Value->Sem Value}{g:Int->Int}
  (rule:∀(i:Int) (t:Tok) (s:Shared) (Q:AA) (E:AA),Q (.int (g i) s.toks) {s with toks:=s.toks + 1}->wpAny (model X.prog X.w) X.A (f (.int i t)) Q E s):
  UnR X f (rU λi=> .int (g i)):=by
 intro zd s σ H x v Q I rx h;obtain⟨i,rfl,q⟩:=h;obtain⟨t,rfl⟩:=rx;exact rule i t s _ _ ⟨.int (g i),H,I.tok _,⟨_,rfl⟩,q⟩
def dl_0:UnR X (unaryOp .USub) (rU λi=> .int (-i)):=unI λ_ _ _ _ _ q=>neg_int q
end
def scal:V->V->Bool
 | .non,.non=>true| .non,.int _=>true| .int _,.non=>true| .non,.bl _=>true| .bl _,.non=>true| .non,.str _=>true| .str _,.non=>true
 | .int _,.int _=>true| .bl _,.bl _=>true| .str _,.str _=>true| .byt _,.byt _=>true
 | .int _,.str _=>true| .str _,.int _=>true| .bl _,.str _=>true| .str _,.bl _=>true
 |_,_=>false
def rEq:R2:=λx y H Q=>scal x y=true/\Q (.bl (decide (x=y))) H
def rNe:R2:=λx y H Q=>scal x y=true/\Q (.bl (!decide (x=y))) H
def by_4{i j:Int}:decide (V.int i=V.int j)=(i ==j):=by
 rw[Q9];simp
def cl_8{i j:Bool}:decide (V.bl i=V.bl j)=(i ==j):=by
 rw[Q9];simp
def by_5{i j:Str}:decide (V.str i=V.str j)=(i ==j):=by
 rw[Q9];simp
def by_6{i j:Array UInt8}:decide (V.byt i=V.byt j)=(i.toList ==j.toList):=by
 rw[Q9];cases i;cases j;simp
section
variable{X:Cx}{a b c:Expr}{ta tb tc:TE}{pos:Pos}
def Dm{zd:AE}{σ:St}{H:Hp}{s:Shared}{Q:VK}{k k':Bool}(I:Inv X zd σ H s)(q:Q (.bl k) H)(e:k=k'):EP X zd σ Q (.bool k') s:=by
 subst e;exact⟨.bl k,H,I,rfl,q⟩
def ds_2:OpR X (compareOp .Eq) rEq:=by
 intro zd s σ H x y v u Q I rx ry h;obtain⟨hs,q⟩:=h;cases x with
 |non=>
  cases rx;cases y with
  |non=>cases ry;exact PySem.EqNone.eq_none_none (Dm I q (by simp))
  |bl j=>cases ry;exact PySem.EqNone.eq_none_bool (Dm I q (by simp))
  |int j=>obtain⟨t',rfl⟩:=ry;exact PySem.EqNone.eq_none_int (Dm I q (by simp))
  |str j=>obtain⟨t',rfl⟩:=ry;exact PySem.EqNone.eq_none_str (Dm I q (by simp))
  |_=>exact absurd (show false=true from hs) A6
 |bl i=>
  cases rx;cases y with
  |non=>cases ry;exact PySem.EqNone.eq_bool_none (Dm I q (by simp))
  |bl j=>cases ry;exact eq_bool (Dm I q cl_8)
  |str j=>obtain⟨t',rfl⟩:=ry;exact PySem.EqMixed.eq_bool_str (Dm I q (by simp))
  |_=>exact absurd (show false=true from hs) A6
 |int i=>
  obtain⟨t,rfl⟩:=rx;cases y with
  |non=>cases ry;exact PySem.EqNone.eq_int_none (Dm I q (by simp))
  |int j=>obtain⟨t',rfl⟩:=ry;exact eq_int (Dm I q by_4)
  |str j=>obtain⟨t',rfl⟩:=ry;exact PySem.EqMixed.eq_int_str (Dm I q (by simp))
  |_=>exact absurd (show false=true from hs) A6
 |str i=>
  obtain⟨t,rfl⟩:=rx;cases y with
  |non=>cases ry;exact PySem.EqNone.eq_str_none (Dm I q (by simp))
  |bl j=>cases ry;exact PySem.EqMixed.eq_str_bool (Dm I q (by simp))
  |int j=>obtain⟨t',rfl⟩:=ry;exact PySem.EqMixed.eq_str_int (Dm I q (by simp))
  |str j=>obtain⟨t',rfl⟩:=ry;exact eq_str (Dm I q by_5)
  |_=>exact absurd (show false=true from hs) A6
 |byt i=>
  obtain⟨t,rfl⟩:=rx;cases y with
  |byt j=>obtain⟨t',rfl⟩:=ry;exact eq_bytes (Dm I q by_6)
  |_=>exact absurd (show false=true from hs) A6
 |_=>cases y <;> exact absurd (show false=true from hs) A6
def ds_3:OpR X (compareOp .NotEq) rNe:=by
 intro zd s σ H x y v u Q I rx ry h;obtain⟨hs,q⟩:=h;cases x with
 |non=>
  cases rx;cases y with
  |non=>cases ry;exact PySem.EqNone.ne_none_none (Dm I q (by simp))
  |bl j=>cases ry;exact PySem.EqNone.ne_none_bool (Dm I q (by simp))
  |int j=>obtain⟨t',rfl⟩:=ry;exact PySem.EqNone.ne_none_int (Dm I q (by simp))
  |str j=>obtain⟨t',rfl⟩:=ry;exact PySem.EqNone.ne_none_str (Dm I q (by simp))
  |_=>exact absurd (show false=true from hs) A6
 |bl i=>
  cases rx;cases y with
  |non=>cases ry;exact PySem.EqNone.ne_bool_none (Dm I q (by simp))
  |bl j=>cases ry;exact ne_bool (Dm I q (K5 not cl_8))
  |str j=>obtain⟨t',rfl⟩:=ry;exact PySem.EqMixed.ne_bool_str (Dm I q (by simp))
  |_=>exact absurd (show false=true from hs) A6
 |int i=>
  obtain⟨t,rfl⟩:=rx;cases y with
  |non=>cases ry;exact PySem.EqNone.ne_int_none (Dm I q (by simp))
  |int j=>obtain⟨t',rfl⟩:=ry;exact ne_int (Dm I q (K5 not by_4))
  |str j=>obtain⟨t',rfl⟩:=ry;exact PySem.EqMixed.ne_int_str (Dm I q (by simp))
  |_=>exact absurd (show false=true from hs) A6
 |str i=>
  obtain⟨t,rfl⟩:=rx;cases y with
  |non=>cases ry;exact PySem.EqNone.ne_str_none (Dm I q (by simp))
  |bl j=>cases ry;exact PySem.EqMixed.ne_str_bool (Dm I q (by simp))
  |int j=>obtain⟨t',rfl⟩:=ry;exact PySem.EqMixed.ne_str_int (Dm I q (by simp))
  |str j=>obtain⟨t',rfl⟩:=ry;exact ne_str (Dm I q (K5 not by_5))
  |_=>exact absurd (show false=true from hs) A6
 |byt i=>
  obtain⟨t,rfl⟩:=rx;cases y with
  |byt j=>obtain⟨t',rfl⟩:=ry;exact ne_bytes (Dm I q (K5 not by_6))
  |_=>exact absurd (show false=true from hs) A6
 |_=>cases y <;> exact absurd (show false=true from hs) A6
def ds_4:OpR X (compareOp .Lt) (rI0 λi j=> .bl (decide (i < j))):=opB0 λ_ _ _ _ _ _ _ q=>lt_int q
def ds_5:OpR X (compareOp .LtE) (rI0 λi j=> .bl (decide (i<=j))):=opB0 λ_ _ _ _ _ _ _ q=>le_int q
def ds_6:OpR X (compareOp .Gt) (rI0 λi j=> .bl (decide (j < i))):=opB0 λ_ _ _ _ _ _ _ q=>gt_int q
def cf_4:OpR X (compareOp .In) (λx y H Q=>∃i j,x=.str i/\y=.str j/\Q (.bl (!(Builtin.Str.occurrences j i 0 j.length 1).isEmpty)) H):=by
 intro zd s σ H x y v u Q I rx ry h;obtain⟨i,j,rfl,rfl,q⟩:=h;obtain⟨t,rfl⟩:=rx;obtain⟨t',rfl⟩:=ry;exact in_str (Dm I q rfl)
def dl_1:OpR X (compareOp .Is) (λx y H Q=>y=.non/\Q (.bl (decide (x=.non))) H):=by
 intro zd s σ H x y v u Q I rx ry h;obtain⟨rfl,q⟩:=h;cases ry;refine is_none_gen (Dm I q ?_);cases x <;> first
  |(cases rx;rfl)
  |(obtain⟨t,rfl⟩:=rx;rfl)
def cy_4:OpR X (compareOp .IsNot) (λx y H Q=>y=.non/\Q (.bl (!decide (x=.non))) H):=by
 intro zd s σ H x y v u Q I rx ry h;obtain⟨rfl,q⟩:=h;cases ry;refine isnot_none_gen (Dm I q ?_);cases x <;> first
  |(cases rx;rfl)
  |(obtain⟨t,rfl⟩:=rx;rfl)
def OpR.or{f:Value->Value->Sem Value}{r r':R2}(h:OpR X f r)(h':OpR X f r'):OpR X f (λx y H Q=>r x y H Q\/r' x y H Q):=by
 intro zd s σ H x y v u Q I rx ry q;rcases q with q|q
 ·exact h zd s σ H x y v u Q I rx ry q
 ·exact h' zd s σ H x y v u Q I rx ry q
def De(b:Expr){op:CmpOp}(h:op≠ .In:=by decide)(h2:op≠ .NotIn:=by decide):behindInMarks op b=false:=by
 have e1:(op ==CmpOp.In)=false:=by cases op <;> first|rfl|exact absurd rfl h
 have e2:(op ==CmpOp.NotIn)=false:=by cases op <;> first|rfl|exact absurd rfl h2
 cases b <;> simp[behindInMarks,e1,e2]
def cy_5{op:CmpOp}{r:R2}(ho:OpR X (compareOp op) r)(ha:PE X a ta)(hb:PE X b tb)(hm:behindInMarks op b=false):PE X (.Compare a [op] [b] pos) (tOp r ta tb):=by
 intro zd s σ H Q I h;exact wpAny_Compare1 (binT ha hb I h λv u s2 x y H2 I2 rx ry q=>ho zd s2 σ H2 x y v u Q I2 rx ry q) hm
def ds_7(t:TE):TT:=λ σ H Q=>t σ H λx H'=>∃k,x=.bl k/\Q k H'
def cy_6{op:CmpOp}{r:R2}(ho:OpR X (compareOp op) r)(ha:PE X a ta)(hb:PE X b tb)(hm:behindInMarks op b=false):PT X (.Compare a [op] [b] pos) (ds_7 (tOp r ta tb)):=by
 intro zd s σ H Q I h;refine wpAny_isTrue_Compare1 (Bc (ha zd s σ H _ I h) λv s1 ⟨x,H1,I1,r1,q1⟩=>Bc (hb zd s1 σ H1 _ I1 q1) λu s2 ⟨y,H2,I2,r2,q2⟩=>
  Bc (ho zd s2 σ H2 x y v u _ I2 r1 r2 q2) λc s3 ⟨z,H3,I3,r3,k,e,q3⟩=> ?_) hm
 subst e;cases r3;exact P2 ⟨H3,I3,q3⟩
def cl_9(r r':R2)(ta tb tc:TE):TE:=λ σ H Q=>ta σ H λx H1=>tb σ H1 λy H2=>r x y H2 λz H3=>∃k,z=.bl k/\
 (if k=true then tc σ H3 λw' H4=>r' y w' H4 Q else Q (.bl false) H3)
def cm_0{op op':CmpOp}{r r':R2}(ho:OpR X (compareOp op) r)(ho':OpR X (compareOp op') r')(ha:PE X a ta)(hb:PE X b tb)(hc:PE X c tc)
  (hm:lastMarks [op,op'] [b,c]=false:=by with_unfolding_all rfl):PE X (.Compare a [op,op'] [b,c] pos) (cl_9 r r' ta tb tc):=by
 intro zd s σ H Q I h;refine Compare_chain (Bc (ha zd s σ H _ I h) λv s1 ⟨x,H1,I1,r1,q1⟩=>chain_link (Bc (hb zd s1 σ H1 _ I1 q1) λu s2 ⟨y,H2,I2,r2,q2⟩=>
  Bc (ho zd s2 σ H2 x y v u _ I2 r1 r2 q2) λd s3 ⟨z,H3,I3,r3,k,e,q3⟩=> ?_)) hm
 subst e;cases r3;refine P2 ?_;cases k with
 |false=>exact ite_ff ⟨.bl false,H3,I3,rfl,q3⟩
 |true=>exact ite_tt (chain_last (Bc (hc zd s3 σ H3 _ I3 q3) λw' s4 ⟨z',H4,I4,r4,q4⟩=>ho' zd s4 σ H4 y z' u w' Q I4 r2 r4 q4))
def TruV(K:Frag)(x:V)(H:Hp)(k:Bool):Prop:=
 match x with
 | .non=>k=false
 | .bl b=>k=b
 | .int i=>k=(i != 0)
 | .str y=>y.length<=sizeLine/\k=((y.length:Int) != 0)
 | .byt y=>y.size<=sizeLine/\k=((y.size:Int) != 0)
 | .ref p=>(∃xs,SqL K H p xs/\k= !xs.isEmpty)\/(∃xs,SqT K H p xs/\k= !xs.isEmpty)\/∃kvs,H p=some (.dK kvs)/\k= !kvs.isEmpty
 |_=>False
def bt_8{κ:Type}{kvs:List (κ×V)}{vs:List (κ×Value)}(r:KV kvs vs):(!vs.isEmpty)= !kvs.isEmpty:=by
 cases r <;> rfl
def at_7{xs:List V}{its:List Value}(r:Vals xs its):(!its.toArray.isEmpty)= !xs.isEmpty:=by
 cases r <;> simp
def al_2:(sizeLine:Nat) < 2 ^ 63:=by rw[F1];decide
def dl_3:TruR X (λx H Q=>∃k,TruV X.K x H k/\Q k H):=by
 intro zd s σ H x v Q I rx h;obtain⟨k,e,q⟩:=h;have hl:=al_2;have hs:sizeLine=16777216:=F1;cases x with
 |non=>
  cases rx;have e':k=false:=e;subst e';exact truthy_none ⟨H,I,q⟩
 |bl b=>
  cases rx;have e':k=b:=e;subst e';exact P2 ⟨H,I,q⟩
 |int i=>
  obtain⟨t,rfl⟩:=rx;have e':k=(i != 0):=e;subst e';exact PySem.P.truthy_int ⟨H,I,q⟩
 |str y=>
  obtain⟨t,rfl⟩:=rx;obtain⟨hy,e'⟩:y.length<=sizeLine/\k=((y.length:Int) != 0):=e;subst e';exact PySem.P.truthy_str () ⟨H,I.tok _,q⟩
 |byt y=>
  obtain⟨t,rfl⟩:=rx;obtain⟨hy,e'⟩:y.size<=sizeLine/\k=((y.size:Int) != 0):=e;subst e';exact truthy_bytes () ⟨H,I.tok _,q⟩
 |ref p=>
  cases rx;have e':(∃xs,SqL X.K H p xs/\k= !xs.isEmpty)\/(∃xs,SqT X.K H p xs/\k= !xs.isEmpty)\/∃kvs,H p=some (.dK kvs)/\k= !kvs.isEmpty:=e;rcases e' with⟨xs,hx,e'⟩|⟨xs,hx,e'⟩|⟨kvs,hx,e'⟩
  ·subst e';obtain⟨its,r,pl,hz⟩:=I.list hx;have zk:=r.length;exact wpAny_truthy_list pl.isList (by simp only[D5];omega) ⟨H,I.tok _,by rw[at_7 r];exact q⟩
  ·subst e';obtain⟨its,r,pl,hz⟩:=I.tuple hx;have zk:=r.length;exact truthy_tuple pl (by simp only[D5];omega) ⟨H,I.tok _,by rw[at_7 r];exact q⟩
  ·subst e';obtain⟨hz,hS,vs,r,m⟩:kvs.length<=sizeLine/\(p ==sysModules)=false/\∃vs,KV kvs vs/\s.heap.DictOf (Dx X.prog X.w) p vs:=I.hok p _ hx;have zk:kvs.length=vs.length:=V7 r;exact wpAny_truthy_dict hS m () ⟨H,I.tok _,by rw[bt_8 r];exact q⟩
 |_=>exact(show False from e).elim
def bm_0(ha:PE X a ta)(he:∀whole,isTrue a X.env whole=(do let v<-whole;standAt a.pos;holding [v] (truthy v))):
  PT X a (λ σ H Q=>ta σ H λx H'=>∃k,TruV X.K x H' k/\Q k H'):=by
 intro zd s σ H Q I h;exact isTrue_plain (Bc (ha zd s σ H _ I h) λv s1 ⟨x,H1,I1,r1,q1⟩=>dl_3 zd s1 σ H1 x v Q I1 r1 q1) (he _)
def bt_9:OpR X (binaryOp .Add) (λx y H Q=>∃i j,x=.str i/\y=.str j/\i.length + j.length<=sizeLine/\Q (.str (i ++ j)) H):=by
 intro zd s σ H x y v u Q I rx ry h;obtain⟨i,j,rfl,rfl,hz,q⟩:=h;obtain⟨t,rfl⟩:=rx;obtain⟨t',rfl⟩:=ry;exact add_str (λt' tk=>⟨.str (i ++ j),H,I.tok _,⟨_,rfl⟩,q⟩) hz
def by_7{x:V}{us:List Value}(r:Vals [x] us):∃u,us= [u]/\RelV x u:=by
 cases r with
 |cons r1 r2=>cases r2;exact⟨_,rfl,r1⟩
def dh_8{x y:V}{us:List Value}(r:Vals [x,y] us):∃u w',us= [u,w']/\RelV x u/\RelV y w':=by
 cases r with
 |cons r1 r2=>
  cases r2 with
  |cons r3 r4=>cases r4;exact⟨_,_,rfl,r1,r3⟩
def cf_5(hc:X.calm=true):CallR X (.builtin "max") (λxs H Q=>∃i j,xs= [.int i,.int j]/\Q (.int (if j > i then j else i)) H):=by
 intro zd s σ H xs us Q I r h;obtain⟨i,j,rfl,q⟩:=h;obtain⟨u,w',rfl,⟨t,rfl⟩,⟨t',rfl⟩⟩:=dh_8 r;refine max_two_ints (I.ok.hd hc) λh' tk k=>⟨_,H,I.kept k, ?_,q⟩
 by_cases hj:j > i
 ·rw[if_pos hj,if_pos hj];exact⟨_,rfl⟩
 ·rw[if_neg hj,if_neg hj];exact⟨_,rfl⟩
def cf_6(hc:X.calm=true):CallR X (.builtin "min") (λxs H Q=>∃i j,xs= [.int i,.int j]/\Q (.int (if j < i then j else i)) H):=by
 intro zd s σ H xs us Q I r h;obtain⟨i,j,rfl,q⟩:=h;obtain⟨u,w',rfl,⟨t,rfl⟩,⟨t',rfl⟩⟩:=dh_8 r;refine min_two_ints (I.ok.hd hc) λh' tk k=>⟨_,H,I.kept k, ?_,q⟩
 by_cases hj:j < i
 ·rw[if_pos hj,if_pos hj];exact⟨_,rfl⟩
 ·rw[if_neg hj,if_neg hj];exact⟨_,rfl⟩
end
structure ObjM(h:Heap)(x dx C:Addr)(mA:AB):Prop where
 obj:h.get? x=some (instObj C dx)
 ns:h.Ns1 dx mA
 ne:dx≠x
def cf_7{h:Heap}{dx:Addr}{mA:AB}(n:h.Ns1 dx mA):∃od,h.get? dx=some od/\∀name,lookIn name od=some (mA name):=by
 obtain⟨o,es,ep,ho,hd,hk,_,hm⟩:=n;refine⟨o,ho,λname=> ?_⟩;have e:=hm name;unfold nsFind findBy at e;rw[<-Array.find?_toList]at e;unfold lookIn;rw[hd];dsimp only
 split
 ·rename_i y q;rw[q]at e;exact K5 some e
 ·rename_i q;rw[q]at e;have a:es.toList.any (·.refKey)=false:=by
   rw[List.any_eq_false];intro y hy;obtain⟨z,t,dz⟩:=hk y (Array.mem_toList_iff.mp hy);simp[DictEntry.refKey,dz]
  have a':¬es.toList.any (·.refKey)=true:=by rw[a];exact A6
  rw[if_neg a'];exact K5 some e
def ObjM.look{h:Heap}{x dx C:Addr}{mA:AB}(I:ObjM h x dx C mA):∃od,InstAt h x (instObj C dx) C (some od)/\∀name,lookIn name od=some (mA name):=
 let⟨od,ho,hl⟩:=cf_7 I.ns
 ⟨od,⟨I.obj,rfl,rfl,ho⟩,hl⟩
section
variable{prog:Program}{w:World}{A:Around}{E:AA}{s:Shared}{K:Frag}{x dx C f:Addr}{mA:AB}{name:Str}{v:Value}
def cy_7{expr:Bool}{Q:AA}(X:K.In s.heap)(I:ObjM s.heap x dx C mA)(hg:plainGet K C name=true)(hh:hasDictIn K C=true)
  (ha:findIn K (.ref C) name=some none) (hv:mA name=some v) (hv':handedIn v=true) (h:Q v {s with toks:=s.toks + 1}):
  wpAny (model prog w) A (getAttr (.ref x) name expr) Q E s:=by
 obtain⟨od,J,hl⟩:=I.look;exact get_value X J (ZA9 hg).1 (findObj_own hh ha rfl (by rw[hl,hv])) hv' h
def cm_1{pl:Sem Bool}{Q:Value×List Value->Shared->Prop}(X:K.In s.heap)(I:ObjM s.heap x dx C mA)(hg:plainGet K C name=true)
  (hf:findIn K (.ref C) name=some (some (.ref f))) (ht:isFn K (.ref f)=true) (hv:mA name=none) (h:Q (.ref f,[.ref x]) s):
  wpAny (model prog w) A (getMethod (.ref x) name pl) Q E s:=by
 obtain⟨od,J,hl⟩:=I.look;exact method_fn X J (ZA9 hg).1 (ZA9 hg).2 hf (N1.mp ht) (by show(lookIn name od).map (·.isSome)=some false;rw[hl,hv];rfl) h
def cy_8{ns:List Str}{Q:Unit->Shared->Prop}(X:K.In s.heap)(I:ObjM s.heap x dx C mA)
  (hs:findIn K (.ref C) "__setattr__" =some (some (.builtin "object.__setattr__"))) (hp:plainOver K C=true) (ht:takerIn K C name=some none) (hh:hasDictIn K C=true)
  (hw:PySem.Within mA ns) (hsz:ns.length<=sizeLine)
  (h:∀h',ObjM h' x dx C (λy=>if y=name then some v else mA y)->Heap.SameBut dx s.heap h'->Q .unit {s with heap:=h',toks:=s.toks + 2}):
  wpAny (model prog w) A (setAttr (.ref x) name v) Q E s:=by
 obtain⟨od,J,hl⟩:=I.look;refine set_plain X J hs (osa_open (s:={s with toks:=s.toks + 1}) (r:=none) X J hp ht λb=> ?_);obtain⟨cd,hc,hd'⟩:=any_some hh;have hx:s.heap.get? x=some ⟨.ref C,some dx,.plain, #[]⟩:=I.obj;refine A7 (F0 (A7 (A7 (wpAny_loadPart hx (A7 (ZB5 (s:={s with toks:=s.toks + 1}) (ZA8 X hc) ?_))))));rw[hd'];refine F0 (a:=some dx) (A7 (F0 (A7 ?_)));refine wpAny_nsSet1 (s:={s with toks:=s.toks + 1}) I.ns λh' hn2 hs2=> ?_;obtain⟨oD,esD,epD,hoD,hdD,hcD⟩:=hn2.count (PySem.Within.cons name v hw);refine A7 (wpAny_lookBehind hoD (by rw[hdD];exact pastItsLine_dict (D4 hcD (by rw[A9];omega))) ?_);exact F0 (h _ ⟨(hs2.2 _ (Ne.symm I.ne)).trans I.obj,hn2,I.ne⟩ hs2)
def cm_2{R:Result->Shared->Prop}{vs:List Value}{kw:List (Str×Value)}(X:K.In s.heap)(hm:makesIn K C=true)
  (hi:findIn K (.ref C) "__init__" =some (some (.ref f))) (hf:typeIn K (.ref f)=some (.type "function"))
  (h:codeAny (model prog w) (A.under (.builtin "type.__call__" ⟨.ref C::vs,kw⟩)) (.call (.ref f) ⟨.ref (s.heap.objs.size + 1)::vs,kw⟩) (InitBack (s.heap.objs.size + 1) R)
   {s with heap:=(s.heap.push emptyDict).push (instObj C s.heap.objs.size)}):
  codeAny (model prog w) A (.call (.ref C) ⟨vs,kw⟩) R s:=by
 obtain⟨hh,g,d,t,os⟩:=s;exact make_core (makes_of X hm) (ZB6 X hi) (λself=>bind_fn X self hf) (.inl rfl) h
end
def Fs(f:Str)(v:V):List (Str×V)->List (Str×V)
 | []=> [(f,v)]
 |(g,x)::r=>if g=f then(g,v)::r else(g,x)::Fs f v r
theorem ao_9(f g:Str)(v:V):∀fs:List (Str×V),(Fs f v fs).lookup g=if g=f then some v else fs.lookup g
 | []=>by
  show List.lookup g [(f,v)]=_
  by_cases h:g=f
  ·have hb:(g ==f)=true:=N1.mpr h;simp only[List.lookup,hb,if_pos h]
  ·have hb:(g ==f)=false:=O4.mpr h;simp only[List.lookup,hb,if_neg h]
 |(k,x)::r=>by
  have ih:=ao_9 f g v r;rw[show Fs f v ((k,x)::r)=(if k=f then(k,v)::r else(k,x)::Fs f v r) from rfl]
  by_cases hk:k=f
  ·rw[if_pos hk]
   by_cases h:g=k
   ·have hb:(g ==k)=true:=N1.mpr h;simp only[List.lookup,hb,if_pos (h.trans hk)]
   ·have hb:(g ==k)=false:=O4.mpr h;simp only[List.lookup,hb,if_neg (λe:g=f=>h (e.trans hk.symm))]
  ·rw[if_neg hk]
   by_cases h:g=k
   ·have hb:(g ==k)=true:=N1.mpr h;simp only[List.lookup,hb,if_neg (λe:g=f=>hk (h.symm.trans e))]
   ·have hb:(g ==k)=false:=O4.mpr h;simp only[List.lookup,hb];exact ih
theorem al_3(f:Str)(v:V):∀fs:List (Str×V),f∈(Fs f v fs).map (·.1)/\∀g,g∈fs.map (·.1)->g∈(Fs f v fs).map (·.1)
 | []=>⟨by simp[Fs],λg h=>by simp at h⟩
 |(k,x)::r=>by
  obtain⟨i1,i2⟩:=al_3 f v r;rw[show Fs f v ((k,x)::r)=(if k=f then(k,v)::r else(k,x)::Fs f v r) from rfl]
  by_cases hk:k=f
  ·rw[if_pos hk];subst hk;exact⟨by simp,λg h=>by simpa using h⟩
  ·rw[if_neg hk];refine⟨?_,λg h=> ?_⟩
   ·rw[B3];exact C4 _ i1
   ·rw[B3]at h⊢;rcases C6.mp h with e|e
    ·exact C6.mpr (.inl e)
    ·exact C4 _ (i2 g e)
theorem ap_0(f:Str)(v:V):∀fs:List (Str×V),(Fs f v fs).length<=fs.length + 1
 | []=>by simp[Fs]
 |(k,x)::r=>by
  have ih:=ap_0 f v r;rw[show Fs f v ((k,x)::r)=(if k=f then(k,v)::r else(k,x)::Fs f v r) from rfl]
  by_cases hk:k=f
  ·rw[if_pos hk,A9,A9];omega
  ·rw[if_neg hk,A9,A9];omega
def RelO.some_of{v:V}{o:Option Value}(r:RelO (some v) o):∃u,o=some u/\RelV v u:=by
 cases o with
 |none=>exact(show False from r).elim
 |some u=>exact⟨u,rfl,r⟩
def RelO.none_of{o:Option Value}(r:RelO none o):o=none:=by
 cases o with
 |none=>rfl
 |some u=>exact(show False from r).elim
def cf_8{v:V}{u:Value}(r:RelV v u):handedIn u=true:=by
 cases v with
 |non=>cases(show u=Value.none from r);rfl
 |bl b=>cases(show u=Value.bool b from r);rfl
 |int i=>obtain⟨t,e⟩:=(show∃t,u=Value.int i t from r);cases e;rfl
 |str x=>obtain⟨t,e⟩:=(show∃t,u=Value.str x t from r);cases e;rfl
 |byt b=>obtain⟨t,e⟩:=(show∃t,u=Value.bytes b t from r);cases e;rfl
 |flt b=>obtain⟨t,e⟩:=(show∃t,u=Value.float b t from r);cases e;rfl
 |ref a=>cases(show u=Value.ref a from r);rfl
 |ty n=>cases(show u=Value.type n from r);rfl
section
variable{P:Program}{w:World}{H H':Hp}{h h':Heap}{a C dx:Addr}{fs fs':List (Str×V)}
def bf_9(hok:HOk P w H h)(e:H a=some (.ins C dx fs)):∃mA,ObjM h a dx C mA/\(∀f,RelO (fs.lookup f) (mA f))/\PySem.Within mA (fs.map (·.1))/\fs.length<=1000/\H dx=some (.own a):=by
 obtain⟨d,z,ne,ob,mA,n,r,q⟩:=(show ObjOk P w H h a (.ins C dx fs) from hok a _ e);exact⟨mA,⟨ob,n,ne⟩,r,q,z,d⟩
end
structure Cls(K:Frag)(C:Addr):Prop where
 pg:plainGet K C Str.empty=true
 hd:hasDictIn K C=true
 po:plainOver K C=true
 sa:findIn K (.ref C) "__setattr__" =some (some (.builtin "object.__setattr__"))
def Cls.get{K:Frag}{C:Addr}(c:Cls K C)(f:Str):plainGet K C f=true:=c.pg
def NoAttr(K:Frag)(C:Addr)(f:Str):Prop:=findIn K (.ref C) f=some none
def NoAttr.taker{K:Frag}{C:Addr}{f:Str}(n:NoAttr K C f):takerIn K C f=some none:=by
 unfold takerIn;rw[show findIn K (.ref C) f=some none from n];rfl
structure Con(K:Frag)(C:Addr)(f:Str)(v:V)(u:Value):Prop where
 at_:findIn K (.ref C) f=some (some u)
 rel:RelV v u
 get:specialIn K u "__get__" =some none
 cp:PySem.W.copiedNames.contains f=false
structure Meth(K:Frag)(C:Addr)(m:Str)(f:Addr):Prop where
 at_:findIn K (.ref C) m=some (some (.ref f))
 fn:isFn K (.ref f)=true
 kp:keepIn K (.ref f)=true
section
variable{X:Cx}{zd:AE}{σ:St}{H:Hp}{s:Shared}{a C dx:Addr}{fs:List (Str×V)}{f:Str}{v:V}{A:Around}{E:AA}
def bu_0{b:Bool}{Q:AA}(I:Inv X zd σ H s)(e:H a=some (.ins C dx fs))(c:Cls X.K C)(n:NoAttr X.K C f)(l:fs.lookup f=some v)
  (h:∀u s',Inv X zd σ H s'->RelV v u->Q u s'):wpAny (model X.prog X.w) A (getAttr (.ref a) f b) Q E s:=by
 obtain⟨mA,O,r,_,_,_⟩:=bf_9 I.hok e;obtain⟨u,hu,ru⟩:=RelO.some_of (v:=v) (o:=mA f) (by rw[<-l];exact r f);exact cy_7 I.kIn O (c.get f) c.hd n hu (cf_8 ru) (h u _ (I.tok _) ru)
def at_8{m:Str}{g:Addr}{pl:Sem Bool}{Q:Value×List Value->Shared->Prop}(I:Inv X zd σ H s)(e:H a=some (.ins C dx fs))(c:Cls X.K C)(k:Meth X.K C m g)(l:fs.lookup m=none)
  (h:Q (.ref g,[.ref a]) s):wpAny (model X.prog X.w) A (getMethod (.ref a) m pl) Q E s:=by
 obtain⟨mA,O,r,_,_,_⟩:=bf_9 I.hok e;have hn:mA m=none:=RelO.none_of (by rw[<-l];exact r m);exact cm_1 I.kIn O (c.get m) k.at_ k.fn hn h
def bu_1{y:V}{u:Value}{Q:Unit->Shared->Prop}(I:Inv X zd σ H s)(e:H a=some (.ins C dx fs))(c:Cls X.K C)(n:NoAttr X.K C f)(hl:fs.length < 1000)(ry:RelV y u)
  (h:∀s',Inv X zd σ (upd H a (.ins C dx (Fs f y fs))) s'->Q .unit s'):wpAny (model X.prog X.w) A (setAttr (.ref a) f u) Q E s:=by
 obtain⟨mA,O,r,wi,_,ho⟩:=bf_9 I.hok e;have hz:(fs.map (·.1)).length<=sizeLine:=by rw[A3,F1];omega
 refine cy_8 I.kIn O c.sa c.po n.taker c.hd wi hz λh' O' sb=>h _ ?_;have hd:∃o,h'.get? dx=some o:=let⟨o,_,_,e',_⟩:=O'.ns;⟨o,e'⟩;refine I.write (x:=a) (e:=dx) (by rw[e];exact True.intro) (.inr ho) (λb q hb z=>(sb.2 b hb).trans z) hd ?_;refine⟨by rw[Ao O.ne];exact ho, ?_,O.ne,O'.obj,_,O'.ns,λg=> ?_,λg hg=> ?_⟩
 ·have:=ap_0 f y fs;omega
 ·show RelO ((Fs f y fs).lookup g) (if g=f then some u else mA g);rw[ao_9]
  by_cases q:g=f
  ·rw[if_pos q,if_pos q];exact ry
  ·rw[if_neg q,if_neg q];exact r g
 ·by_cases q:g=f
  ·rw[q];exact(al_3 f y fs).1
  ·refine(al_3 f y fs).2 g (wi g λz=>hg ?_);show(if g=f then some u else mA g)=none;rw[if_neg q];exact z
def Inv.made(I:Inv X zd σ H s):Inv X zd σ (upd (upd H s.heap.objs.size (.own (s.heap.objs.size + 1))) (s.heap.objs.size + 1) (.ins C s.heap.objs.size []))
  {s with heap:=(s.heap.push emptyDict).push (instObj C s.heap.objs.size)}:=by
 have e1:(s.heap.push emptyDict).get? s.heap.objs.size=some emptyDict:=B8 s.heap rfl;have e2:((s.heap.push emptyDict).push (instObj C s.heap.objs.size)).get? (s.heap.objs.size + 1)=some (instObj C s.heap.objs.size):=by
  have:=B8 (s.heap.push emptyDict) (o:=instObj C s.heap.objs.size) rfl
  rwa[N2]at this
 have e3:(s.heap.push emptyDict).Ns s.heap.objs.size (λ_=>none):=⟨emptyDict, #[],_,e1,rfl,(λe he=>absurd he (by simp)),λ_=>rfl⟩;have I1:=I.laid (a:=s.heap.objs.size) (o:=.own (s.heap.objs.size + 1)) (h':=s.heap.push emptyDict) (t':=s.toks) (λb u q=>A4 _ q) (B5 _) ⟨_,e1⟩;refine I1.laid (a:=s.heap.objs.size + 1) (o:=.ins C s.heap.objs.size []) (t':=s.toks) (λb u q=>A4 _ q) (S3 (N2 _ _)) ?_;have ne:s.heap.objs.size≠s.heap.objs.size + 1:=D7 (S4 _);refine⟨by rw[Ao ne,Bk],K6 _,ne,e2,λ_=>none,(Heap.Ns1.of_empty e3).at λo q=>A4 _ q,λ_=>True.intro,λy hy=>absurd rfl hy⟩
def cy_9{prog:Program}{w:World}{env:Env}{e:Expr}{f:Str}{pos:Pos}{s:Shared}{Q:AA}(hb:attributeBase e f env (eval e env)=eval e env)
  (h:wpAny (model prog w) A (eval e env) (λo s₁=>wpAny (model prog w) A (getAttr o f true) Q E s₁) E s):wpAny (model prog w) A (eval (.Attribute e f pos) env) Q E s:=
 Attribute_any_ h (by rw[arm_eval_Attribute,hb])
end
def tFld(K:Frag)(ta:TE)(f:Str):TE:=λ σ H Q=>ta σ H λx H1=>∃a C dx fs v,x=.ref a/\H1 a=some (.ins C dx fs)/\Cls K C/\NoAttr K C f/\fs.lookup f=some v/\Q v H1
def sFld(K:Frag)(ta tv:TE)(f:Str):TS:=λD σ H=>tv σ H λy H1=>ta σ H1 λx H2=>∃a C dx fs,x=.ref a/\H2 a=some (.ins C dx fs)/\Cls K C/\NoAttr K C f/\fs.length < 1000/\
 D.nx σ (upd H2 a (.ins C dx (Fs f y fs)))
section
variable{X:Cx}{o e value:Expr}{f:Str}{pos pos' zh:Pos}{ta tv:TE}
def bu_2(he:PE X e ta)(hb:attributeBase e f X.env (eval e X.env)=eval e X.env):PE X (.Attribute e f pos) (tFld X.K ta f):=by
 intro zd s σ H Q I h;refine cy_9 hb (Bc (he zd s σ H _ I h) λu s1 ⟨x,H1,I1,rx,a,C,dx,fs,v,ex,ea,c,n,l,q⟩=> ?_);subst ex;obtain rfl:u=Value.ref a:=rx;exact bu_0 I1 ea c n l λu' s2 I2 ru=>⟨v,H1,I2,ru,q⟩
def bu_3(ha:PE X o ta)(hv:PE X value tv)(hs:swapsWith value (some (.Attribute o f pos')) pos.line X.env=pure false):PS X (.Assign [.Attribute o f pos'] value pos) (sFld X.K ta tv f):=by
 intro zd s σ H D I h;refine U8 (Bc (hv zd s σ H _ I h) λu s1 ⟨y,H1,I1,ry,q⟩=>Bc (ha zd s1 σ H1 _ I1 q) λov s2 ⟨x,H2,I2,rx,a,C,dx,fs,ex,ea,c,n,l,q2⟩=> ?_) hs;subst ex;obtain rfl:ov=Value.ref a:=rx;exact bu_1 I2 ea c n l ry λs3 I3=>⟨σ,_,I3,q2⟩
end
section
variable{X:Cx}{zd:AE}{σ:St}{H:Hp}{s:Shared}{A:Around}{E:AA}{Q:AA}{c:Value}{b:Bool}
inductive TyOf(K:Frag)(H:Hp):V->Value->Prop where
 |non:TyOf K H .non (.type "NoneType")
 |bl (x:Bool):TyOf K H (.bl x) (.type "bool")
 |int (i:Int):TyOf K H (.int i) (.type "int")
 |str (x:Str):TyOf K H (.str x) (.type "str")
 |flt (x:UInt64):TyOf K H (.flt x) (.type "float")
 |lst {a:Addr} {xs:List V} (e:H a=some (.lst xs)):TyOf K H (.ref a) (.type "list")
 |frz {a:Addr} {o:Obj} {xs:List V} (e:H a=some (.frz o (.lst xs))):TyOf K H (.ref a) (.type "list")
 |tup {a:Addr} {xs:List V} (e:H a=some (.tup xs)):TyOf K H (.ref a) (.type "tuple")
 |dK {a:Addr} {kvs:List (Af×V)} (e:H a=some (.dK kvs)):TyOf K H (.ref a) (.type "dict")
 |dT {a:Addr} {kvs:List (List Af×V)} (e:H a=some (.dT kvs)):TyOf K H (.ref a) (.type "dict")
 |ins {a C dx:Addr} {fs:List (Str×V)} (e:H a=some (.ins C dx fs)) (cl:Cls K C) (ha:findIn K (.ref C) "__class__" =some (some (.builtin "object.__class__")))
   (hn:specialIn K (.builtin "object.__class__") "__get__" =some (some (.builtin "getset_descriptor.__get__"))) (htk:takesIn K (.builtin "object.__class__")=some true)
   (hm:mroIn K C (.type "object")=some true):TyOf K H (.ref a) (.ref C)
end
structure Room(k:Nat)(A:Around):Prop where
 hd:A.handled=none
 dp:A.depth + 3 * k + 5 < recursionLimit
 un:A.units + 16 * k + 200 < cLine
theorem Room.in1{k:Nat}{A:Around}(r:Room (k + 1) A):Room k A.in1:=
 ⟨r.hd,by have:=r.dp;show A.depth + 3 * k + 5 < _;omega,by have:=r.un;show A.units + 1 + 16 * k + 200 < _;omega⟩
def bu_4{A:Around}{C:Addr}{us:List Value}{kw:List (Str×Value)}:(A.under (.builtin "type.__call__" ⟨.ref C::us,kw⟩)).depth=A.depth + 1:=by
 first|rfl|simp[Around.under,Code.weight,Code.isCreation,Code.isGuard,Code.isCaller,Code.frames,Code.isFrame,guardIds]
def bu_5{A:Around}{C:Addr}{us:List Value}{kw:List (Str×Value)}:(A.under (.builtin "type.__call__" ⟨.ref C::us,kw⟩)).units=A.units + 1:=by
 first|rfl|simp[Around.under,Code.cUnits,Code.frames,Code.isFrame]
theorem Room.depth{k:Nat}{A:Around}(r:Room k A):A.depth < recursionLimit:=by have:=r.dp;omega
def tNil:TA:=λ_ H Q=>Q [] H
def cm_3(ta:TE)(tr:TA):TA:=λ σ H Q=>ta σ H λx H1=>tr σ H1 λxs H2=>Q (x::xs) H2
section
variable{X:Cx}{e:Expr}{es:List Expr}{te:TE}{t:TA}{pos:Pos}
def q_2:PA X [] tNil:=λ_ _ _ _ H Q I h=>P3 ⟨[],H,I,.nil,h⟩
def j_2(ha:PE X e te)(hr:PA X es t)(hs:starEach (e::es) X.env=(false,eval e X.env)::starEach es X.env:=by rfl):PA X (e::es) (cm_3 te t):=by
 intro pos zd s σ H Q I h;rw[hs];show wpAny _ _ (spliced ((false,eval e X.env)::backTo pos (starEach es X.env))) _ _ s;refine M0 (Bc (ha zd s σ H _ I h) λu s1 ⟨x,H1,I1,r1,q1⟩=> ?_);exact Bc (hr pos zd s1 σ H1 _ I1 q1) λus s2 ⟨xs,H2,I2,r2,q2⟩=>⟨x::xs,H2,I2,.cons r1 r2,q2⟩
def tTup(t:TA):TE:=λ σ H Q=>t σ H λxs H1=>xs.length<=sizeLine/\∀p,H1 p=none->Q (.ref p) (upd H1 p (.tup xs))
def tLst(t:TA):TE:=λ σ H Q=>t σ H λxs H1=>xs.length<=sizeLine/\∀p,H1 p=none->Q (.ref p) (upd H1 p (.lst xs))
def dl_4{x1}(h:PA X es t):PE X (.Tuple es x1 pos) (tTup t):=by
 intro zd s σ H Q I hq;refine wpAny_Tuple_spliced (Bc (h pos zd s σ H _ I hq) λus s1 ⟨xs,H1,I1,r,z,q⟩=>⟨by rw[<-r.length];exact z, ?_⟩);have hf:H1 s1.heap.objs.size=none:=I1.hok.fresh (B5 _);refine⟨.ref s1.heap.objs.size,upd H1 s1.heap.objs.size (.tup xs),I1.laid (t':=s1.toks) (λb u e=>A4 _ e) (B5 _) ?_,rfl,q _ hf⟩;exact⟨z,us,r,⟨_,B8 _ rfl,rfl,_,rfl⟩⟩
def bu_6(h:PA X es t):PE X (.List es pos) (tLst t):=by
 intro zd s σ H Q I hq;refine wpAny_List_spliced (Bc (h pos zd s σ H _ I hq) λus s1 ⟨xs,H1,I1,r,z,q⟩=>⟨by rw[<-r.length];exact z, ?_⟩);have hf:H1 s1.heap.objs.size=none:=I1.hok.fresh (B5 _);refine⟨.ref s1.heap.objs.size,upd H1 s1.heap.objs.size (.lst xs),I1.laid (t':=s1.toks) (λb u e=>A4 _ e) (B5 _) ?_,rfl,q _ hf⟩;exact⟨z,us,0,r,B8 _ rfl⟩
end
abbrev Sp:=List V->Hp->VK->XK->Prop
abbrev CXT:=List Env->Hp->Shared->XK->Value->Shared->Prop
structure Env0(P:Program)(w:World)(K:Frag)(mg:AB)(base:Heap)(A:Around)(outer:List Env)(s:Shared)(H:Hp):Prop where
 frames:A.frames=some outer
 mod:Mod K mg base
 bs:∀b o,base.get? b=some o->s.heap.get? b=some o/\H b=none
 bsz:base.objs.size<=s.heap.objs.size
 funs:s.heap.FunFrames base outer
 frf:∀b∈frs outer,H b=none
 hok:HOk P w H s.heap
 bare:AllBare s.gens
def CE(outer:List Env)(P:Program)(w:World)(H:Hp)(s:Shared)(Q:VK)(u:Value)(s':Shared):Prop:=
 ∃v H',s'.os=s.os/\AllBare s'.gens/\Un (frs outer) [] H H' s.heap s'.heap/\HOk P w H' s'.heap/\RelV v u/\Q v H'
def CR(CX:CXT)(outer:List Env)(P:Program)(w:World)(H:Hp)(s:Shared)(Q:VK)(E:XK)(r:Result)(s':Shared):Prop:=
 match r with
 | .ok (.ret u)=>CE outer P w H s Q u s'
 | .ok _=>False
 | .error e=>CX outer H s E e s'
structure FnOk(P:Program)(w:World)(K:Frag)(mg:AB)(base:Heap)(CX:CXT)(k:Nat)(f:Addr)(fd:FuncData)(ps:List Str)(sp:Sp):Prop where
 len:∀vs H Q E,sp vs H Q E->vs.length=ps.length
 run:∀(A:Around) (outer:List Env) (s:Shared) (H:Hp) (args:Args) (us:List Value) (vs:List V) (Q:VK) (E:XK),Room k A->Env0 P w K mg base A outer s H->BindsTo s fd args (ps.zip us)->Vals vs us->sp vs H Q E->
  codeAny (model P w) A (.call (.ref f) args) (CR CX outer P w H s Q E) s
def Env0.make{P:Program}{w:World}{K:Frag}{mg:AB}{base:Heap}{A:Around}{outer:List Env}{s:Shared}{H:Hp}(e:Env0 P w K mg base A outer s H)(C:Addr)(us:List Value)(kw:List (Str×Value)):
  Env0 P w K mg base (A.under (.builtin "type.__call__" ⟨.ref C::us,kw⟩)) outer s H:=⟨by first|exact e.frames|(simpa[Around.under,Code.envs,Code.isFrame,pushEnvs] using e.frames),e.mod,e.bs,e.bsz,e.funs,e.frf,e.hok,e.bare⟩
theorem Env0.in1{P:Program}{w:World}{K:Frag}{mg:AB}{base:Heap}{A:Around}{outer:List Env}{s:Shared}{H:Hp}(e:Env0 P w K mg base A outer s H):
  Env0 P w K mg base A.in1 outer s H:=⟨e.frames,e.mod,e.bs,e.bsz,e.funs,e.frf,e.hok,e.bare⟩
section
variable{X:Cx}{zd:AE}{σ:St}{H:Hp}{s s':Shared}
def Inv.env0(I:Inv X zd σ H s):Env0 X.prog X.w X.K X.mg X.base X.A X.stack s H:=
 ⟨I.ok.frames,I.ok.mod,I.bs,D4 I.ok.bsz I.sz,I.stack,I.stkFree,I.hok,I.bare⟩
def Inv.after{Q:VK}{u:Value}(I:Inv X zd σ H s)(h:CE X.stack X.prog X.w H s Q u s'):EP X zd σ Q u s':=by
 obtain⟨v,H',os,bare,un,hok,r,q⟩:=h;obtain⟨hh,g,d,t,os'⟩:=s';obtain rfl:os'=s.os:=os;exact⟨v,H',I.call (h':=hh) (g':=g) (d':=d) (t':=t) (ch:=[]) un hok bare (λb z=>absurd z (by simp)),r,q⟩
end
def Binds(K:Frag)(fd:FuncData)(ps:List Str)(ds:List Value):Prop:=
 ∀(s:Shared) (us:List Value),K.In s.heap->(us ++ ds).length=ps.length->BindsTo s fd ⟨us,[]⟩ (ps.zip (us ++ ds))
def Binds.all{K:Frag}{fd:FuncData}{ps:List Str}(h:∀us:List Value,us.length=ps.length->bindArgs fd ⟨us,[]⟩=pure (ps.zip us)):Binds K fd ps []:=λs us _ hl=>by
 rw[D8]at hl⊢;exact .of_eq (h us hl)
section
variable{X:Cx}{CX:CXT}{k:Nat}{f C:Addr}{fd:FuncData}{ps:List Str}{sp:Sp}{dvs:List V}{ds:List Value}{E:XK}{x m:Str}{p pos zg:Pos}{e o:Expr}{es:List Expr}{ta:TE}{t:TA}
structure Mk(K:Frag)(C f:Addr):Prop where
 makes:makesIn K C=true
 init:findIn K (.ref C) "__init__" =some (some (.ref f))
 fn:isFn K (.ref f)=true
 kp:keepIn K (.ref C)=true
end
section
variable{X:Cx}{CX:CXT}{k:Nat}{f C:Addr}{fd:FuncData}{ps ks:List Str}{sp:Sp}{E:XK}{x m:Str}{p pos zg fz:Pos}{e o:Expr}{es:List Expr}{kws:List Keyword}{te ta:TE}{t tk:TA}{nm:Option Str}
structure KBinds(K:Frag)(fd:FuncData)(ps ks:List Str)(g:List Value->List Value->List Value)(gV:List V->List V->List V):Prop where
 to:∀(s:Shared) (us ws:List Value),K.In s.heap->(g us ws).length=ps.length->BindsTo s fd ⟨us,ks.zip ws⟩ (ps.zip (g us ws))
 rel:∀{vs:List V} {us:List Value} {zs:List V} {ws:List Value},Vals vs us->Vals zs ws->Vals (gV vs zs) (g us ws)
variable{g:List Value->List Value->List Value}{gV:List V->List V->List V}
end
structure FnScope(N P:List Str)(sc:Scope):Prop where
 kind:sc.kind=.function
 co:sc.isCoroutine=false
 gen:sc.isGenerator=false
 nd:N.Nodup
 pre:N.take P.length=P
 par:∀x∈P,sc.names.lookup x=some .local\/sc.names.lookup x=some .cell
 nofree:∀y∈sc.names,y.2≠ .free
theorem bb_3{kindOf:Str->Option NameKind}{x:Str}:∀{binds:List (Str×Value)} {m:AB},(∀v,(x,v)∉binds)->bindL kindOf binds m x=m x
 | [],_,_=>rfl
 |(n,v)::r,m,h=>by
  unfold bindL;rw[bb_3 λw hw=>h w (C4 _ hw)]
  split
  ·have:x≠n:=by rintro rfl;exact h v C8
   simp[this]
  ·rfl
theorem bb_4{kindOf:Str->Option NameKind}{x:Str}:∀{binds:List (Str×Value)} {m:AB},(∀v,(x,v)∉binds)->bindC kindOf binds m x=m x
 | [],_,_=>rfl
 |(n,v)::r,m,h=>by
  unfold bindC;rw[bb_4 λw hw=>h w (C4 _ hw)]
  split
  ·rfl
  ·have:x≠n:=by rintro rfl;exact h v C8
   simp[this]
theorem bb_5{kindOf:Str->Option NameKind}{x:Str}{v:Value}:∀{P:List Str} {vs:List Value} {i:Nat} {m:AB},P.Nodup->P[i]? =some x->vs[i]? =some v->kindOf x=some .local->
  bindL kindOf (P.zip vs) m x=some v
 | [],_,_,_,_,h,_,_=>by simp at h
 |_::_,[],_,_,_,_,h,_=>by simp at h
 |p::P,w::vs,0,m,nd,h1,h2,hk=>by
  simp at h1 h2;subst h1;subst h2;show bindL kindOf ((p,w)::P.zip vs) m p=_;unfold bindL;rw[bb_3 λv hv=>(K1.mp nd).1 (W2 hv).1,if_pos hk];simp
 |p::P,w::vs,i + 1,m,nd,h1,h2,hk=>by
  show bindL kindOf ((p,w)::P.zip vs) m x=_;unfold bindL;exact bb_5 (i:=i) (K1.mp nd).2 (by simpa using h1) (by simpa using h2) hk
theorem bb_6{kindOf:Str->Option NameKind}{x:Str}{v:Value}:∀{P:List Str} {vs:List Value} {i:Nat} {m:AB},P.Nodup->P[i]? =some x->vs[i]? =some v->kindOf x≠some .local->
  bindC kindOf (P.zip vs) m x=some v
 | [],_,_,_,_,h,_,_=>by simp at h
 |_::_,[],_,_,_,_,h,_=>by simp at h
 |p::P,w::vs,0,m,nd,h1,h2,hk=>by
  simp at h1 h2;subst h1;subst h2;show bindC kindOf ((p,w)::P.zip vs) m p=_;unfold bindC;rw[bb_4 λv hv=>(K1.mp nd).1 (W2 hv).1,if_neg hk];simp
 |p::P,w::vs,i + 1,m,nd,h1,h2,hk=>by
  show bindC kindOf ((p,w)::P.zip vs) m x=_;unfold bindC;exact bb_6 (i:=i) (K1.mp nd).2 (by simpa using h1) (by simpa using h2) hk
def start(N:List Str)(vs:List V):St:=vs.map some ++ List.replicate (N.length - vs.length) none
def Fe(CX:CXT)(P:Program)(w:World)(K:Frag)(mg:AB)(base:Heap)(N:List Str)(qual:Str)(scope:Scope)(f:Addr)(cd:Value)(A:Around)(outer:List Env)(s:Shared)(H:Hp)(E:XK):Cx where
 prog:=P
 w:=w
 K:=K
 mg:=mg
 base:=base
 A:=A.deeper (envOfC qual scope s.heap.objs.size f cd)
 N:=N
 s₀:=s
 H₀:=H
 env:=envOfC qual scope s.heap.objs.size f cd
 outer:=outer
 stack:=envOfC qual scope s.heap.objs.size f cd::outer
 ex:=[]
 calm:=true
 fn:=λ_=>true
 pn:=[]
 xe:=λe s'=>wpAny (model P w) (A.deeper (envOfC qual scope s.heap.objs.size f cd)) (leaving (envOfC qual scope s.heap.objs.size f cd) e) (λ_ s''=>CX outer H s E e s'') (λe' s''=>CX outer H s E e' s'') s'
def bm_1{sc:Scope}{n:Nat}{x:Str}(h:sc.names.lookup x=some .cell):∃c,(cellsFrom n sc.names []).lookup x=some c:=by
 have q:=ZA7 sc.names n [] (.inl h);exact L6.mp q
def cf_9{CX:CXT}{P:Program}{w:World}{K:Frag}{mg:AB}{base:Heap}{N ps:List Str}{qual:Str}{scope:Scope}{f:Addr}{cd:Value}{A:Around}{outer:List Env}{s s1:Shared}{H:Hp}{E:XK}{us:List Value}{vs:List V}
  (S:FnScope N ps scope) (hd:A.handled=none) (e0:Env0 P w K mg base A outer s H) (hl:vs.length=ps.length) (r:Vals vs us)
  (x:InCallC s s.heap.objs.size (bindL (envOfC qual scope s.heap.objs.size f cd).kindOf (ps.zip us) λ_=>none) (cellsFrom (s.heap.objs.size + 1) scope.names []) (bindC (envOfC qual scope s.heap.objs.size f cd).kindOf (ps.zip us) λ_=>none) s1):
  Inv (Fe CX P w K mg base N qual scope f cd A outer s H E) [] (start N vs) H s1:=by
 have hpl:ps.length<=N.length:=by have:=K5 List.length S.pre;rw[V3]at this;omega
 obtain⟨h1,tk,rfl,hk⟩:=x.done;have noA:∀b:Addr,b∉(Fe CX P w K mg base N qual scope f cd A outer s H E).ex:=λb z=>absurd (show b∈([]:List Addr) from z) (by simp);refine⟨⟨e0.mod,S.kind,rfl,rfl,B5 _,λy z c h1 h2=> ?_,λy hy=> ?_,λy c _ h=> ?_,λ_=>hd,Around.frames_deeper e0.frames,.inr ⟨rfl,rfl⟩,λb z=>absurd z (noA b),e0.bs,e0.bsz,λb _ _=>noA b,λb z=>absurd z (noA b),e0.funs,e0.frf⟩,
  rfl,e0.bare,Un.kept hk,⟨_,x.toInCall.ns,λi y v h1 h2 h3=> ?_⟩,λy c h=>⟨_,x.cell y c h⟩,e0.hok.fresh (B5 _),λy c h=> ?_,λp hp=>absurd (show p∈([]:AE) from hp) (by simp),e0.hok.kept hk, ?_⟩
 ·exact name_of_addr x.apart (N6 h1) (N6 h2)
 ·have hy:scope.names.lookup y=some .cell\/scope.names.lookup y=some .free:=hy;rcases hy with hy|hy
  ·exact bm_1 hy
  ·exact absurd rfl (S.nofree _ (N6 hy))
 ·exact P0 (x.above y c (N6 h))
 ·have hi:i < vs.length:=by
   unfold start at h2
   by_cases hi:i < vs.length
   ·exact hi
   ·rw[J9 (by simpa using hi)]at h2;rw[K4]at h2
    split at h2 <;> cases h2
  have ha:vs[i]? =some v:=by
   unfold start at h2;rw[E4 (by simpa using hi),A8]at h2;cases e:vs[i]? with
   |none=>rw[e]at h2;cases h2
   |some a=>rw[e]at h2;cases h2;rfl
  obtain⟨u,hu,rv⟩:=r.get ha;have hp:ps[i]? =some y:=by
   rw[<-S.pre,List.getElem?_take_of_lt ()];exact h1
  have ndP:ps.Nodup:=by rw[<-S.pre];exact S.nd.sublist (List.take_sublist _ _)
  refine⟨u,rv, ?_⟩;rcases S.par y (M6 hp) with k|k
  ·exact .inl ⟨k,bb_5 ndP hp hu k⟩
  ·obtain⟨c,e⟩:=bm_1 (n:=s.heap.objs.size + 1) k;refine .inr ⟨.inl k,c,e, ?_⟩;have q:=x.cell y c e;rw[bb_6 ndP hp hu (by show scope.names.lookup y≠_;rw[k];decide)]at q;exact q
 ·exact e0.hok.fresh (P0 (x.above y c (N6 h)))
 ·unfold start;show _=N.length;rw[B7,A3,L1];omega
section
variable{X:Cx}{x:Str}{p pos:Pos}{e:Expr}{es:List Expr}{t:TA}{id T:String}{r:List V->Hp->VK->Prop}
def tCB(r:List V->Hp->VK->Prop)(t:TA):TE:=λ σ H Q=>t σ H λvs H1=>r vs H1 Q
def bm_2(hc:CallR X (.builtin id) r)(hg:Gl X x)(hm:X.mg x=none)(hv:bootBuiltins x=some (.builtin id))(ha:PA X (e::es) t)(hn:x≠ "__name__" :=by decide)(hdb:AG x:=by decide)
  (he:starEach (e::es) X.env=(false,eval e X.env)::starEach es X.env:=by rfl) (hpl:(backTo pos (starEach es X.env)).any (·.1)=false:=by rfl):PE X (.Call (.Name x p) (e::es) [] pos) (tCB r t):=by
 intro zd s σ H Q I h;refine M3 (x_1 I hg hm hv ?_ hn hdb);exact V4 (Bc (ha pos zd s σ H _ I h) λus s1 ⟨vs,H1,I1,r1,q1⟩=>hc zd s1 σ H1 vs us Q I1 r1 q1) he hpl
def cg_0(hc:CallR X (.type T) r)(hg:Gl X x)(hm:X.mg x=none)(hv:bootBuiltins x=some (.type T))(ha:PA X (e::es) t)(hn:x≠ "__name__" :=by decide)(hdb:AG x:=by decide)
  (he:starEach (e::es) X.env=(false,eval e X.env)::starEach es X.env:=by rfl) (hpl:(backTo pos (starEach es X.env)).any (·.1)=false:=by rfl):PE X (.Call (.Name x p) (e::es) [] pos) (tCB r t):=by
 intro zd s σ H Q I h;refine M3 (x_1 I hg hm hv ?_ hn hdb);exact N0 (Bc (ha pos zd s σ H _ I h) λus s1 ⟨vs,H1,I1,r1,q1⟩=>hc zd s1 σ H1 vs us Q I1 r1 q1) he hpl
end
end L2
namespace HT
open PySem PyProof.Rows
section
open PySem.SeqAt
open PySem.AutoSeq1 (wpAny_loadPart')
open PySem.MeetsSeq PySem.MeetsSeq2 PySem.MeetsSeq3
end
section
variable{prog:Program}{w:World}{A:Around}{E:AA}{s:Shared}
def sIx(n d:Nat):Option Int->Nat
 |none=>d
 |some v=>if v < 0 then(v + (n:Int)).toNat else min v.toNat n
end
end HT
namespace L2
open PySem PySem.Spec PyProof.Rows
abbrev TO:=St->Hp->(Option Int->Hp->Prop)->Prop
section
variable{X:Cx}{e:Expr}{te:TE}{lo hi:Option Expr}{tl th:TO}{pos p2:Pos}
def SlR(X:Cx)(r:V->Option Int->Option Int->Hp->VK->Prop):Prop:=
 ∀(zd:AE) (s:Shared) (σ:St) (H:Hp) (x:V) (v vl vu:Value) (lo hi:Option Int) (sl:Addr) (Q:VK),Inv X zd σ H s->RelV x v->s.heap.IsSliceOf sl vl vu .none->IsPart vl lo->IsPart vu hi->r x lo hi H Q->
  ∃T id,typeLookup (.type T) "__getitem__" =pure (some (.builtin id))/\s.TypeIs v T/\wpAny (model X.prog X.w) X.A (getItem v (.ref sl)) (EP X zd σ Q) X.xe s
def SlR.or{r r':V->Option Int->Option Int->Hp->VK->Prop}(h:SlR X r)(h':SlR X r'):SlR X (λx lo hi H Q=>r x lo hi H Q\/r' x lo hi H Q):=by
 intro zd s σ H x v vl vu lo hi sl Q I rx hs pl pu q;rcases q with q|q
 ·exact h zd s σ H x v vl vu lo hi sl Q I rx hs pl pu q
 ·exact h' zd s σ H x v vl vu lo hi sl Q I rx hs pl pu q
end
def ixN(n:Nat)(i:Int):Option Nat:=if 0<=i then(if i < n then some i.toNat else none) else if -(n:Int)<=i then some (i + n).toNat else none
def atI{α:Type}(xs:List α)(i:Int):Option α:=(ixN xs.length i).bind λj=>xs[j]?
def cz_1{n:Nat}{i:Int}{j:Nat}(h:ixN n i=some j):seqIndex? i n=some j/\j < n/\ -(n:Int)<=i/\i < n:=by
 unfold ixN at h
 by_cases h0:0<=i
 ·rw[if_pos h0]at h
  by_cases h1:i < n
  ·rw[if_pos h1]at h;have e:i.toNat=j:=F6 h;exact⟨by rw[seqIndex_of h0 h1,e],by omega,by omega,h1⟩
  ·rw[if_neg h1]at h;cases h
 ·rw[if_neg h0]at h
  by_cases h1: -(n:Int)<=i
  ·rw[if_pos h1]at h;have e:(i + n).toNat=j:=F6 h;exact⟨by rw[seqIndex_neg () h1,e],by omega,h1,by omega⟩
  ·rw[if_neg h1]at h;cases h
def bg_0{α:Type}{xs:List α}{i:Int}{v:α}(h:atI xs i=some v):∃j,seqIndex? i xs.length=some j/\xs[j]? =some v/\j < xs.length/\ -(xs.length:Int)<=i/\i < xs.length:=by
 unfold atI at h;cases e:ixN xs.length i with
 |none=>rw[e]at h;cases h
 |some j=>
  rw[e]at h;obtain⟨h1,h2,h3,h4⟩:=cz_1 e;exact⟨j,h1,h,h2,h3,h4⟩
def by_8(b:Expr):Prop:=∀o i,subscripted b false o i=operate [o,i] (getItem o i)
def IxR(X:Cx)(r:R2):Prop:=
 ∀(value slice:Expr) (zd:AE) (s:Shared) (σ:St) (H:Hp) (x y:V) (v u:Value) (Q:VK),Inv X zd σ H s->RelV x v->RelV y u->r x y H Q->
  subscripted slice false v u=operate [v,u] (getItem v u)->wpAny (model X.prog X.w) X.A (subscriptTail value slice v u) (EP X zd σ Q) X.xe s
def MtR(X:Cx)(id:String)(r:V->List V->Hp->VK->Prop):Prop:=
 ∀(zd:AE) (s:Shared) (σ:St) (H:Hp) (x:V) (xs:List V) (v:Value) (us:List Value) (Q:VK),Inv X zd σ H s->RelV x v->Vals xs us->r x xs H Q->
  wpAny (model X.prog X.w) X.A (call (.builtin id) (v::us)) (EP X zd σ Q) X.xe s
section
variable{X:Cx}{a b:Expr}{ta tb:TE}{pos:Pos}
def IxR.or{r r':R2}(h:IxR X r)(h':IxR X r'):IxR X (λx y H Q=>r x y H Q\/r' x y H Q):=by
 intro value slice zd s σ H x y v u Q I rx ry q hs;rcases q with q|q
 ·exact h value slice zd s σ H x y v u Q I rx ry q hs
 ·exact h' value slice zd s σ H x y v u Q I rx ry q hs
def MtR.or{id:String}{r r':V->List V->Hp->VK->Prop}(h:MtR X id r)(h':MtR X id r'):MtR X id (λx xs H Q=>r x xs H Q\/r' x xs H Q):=by
 intro zd s σ H x xs v us Q I rx rs q;rcases q with q|q
 ·exact h zd s σ H x xs v us Q I rx rs q
 ·exact h' zd s σ H x xs v us Q I rx rs q
def ds_8{r:R2}(hr:IxR X r)(ha:PE X a ta)(hb:PE X b tb)(hs:by_8 b):PE X (.Subscript a b pos) (tOp r ta tb):=by
 intro zd s σ H Q I h;exact Subscript_ (binT ha hb I h λv u s2 x y H2 I2 rx ry q=>hr a b zd s2 σ H2 x y v u Q I2 rx ry q (hs _ _))
def rIxL(K:Frag):R2:=λx y H Q=>∃p xs i v,x=.ref p/\y=.int i/\SqL K H p xs/\atI xs i=some v/\Q v H
def rIxT(K:Frag):R2:=λx y H Q=>∃p xs i v,x=.ref p/\y=.int i/\SqT K H p xs/\atI xs i=some v/\Q v H
def rIxS:R2:=λx y H Q=>∃z i c,x=.str z/\y=.int i/\z.length<=sizeLine/\atI z.cps.toList i=some c/\Q (.str ⟨#[c]⟩) H
def cz_2:IxR X (rIxL X.K):=by
 intro value slice zd s σ H x y v u Q I rx ry h hs;obtain⟨p,xs,i,z,rfl,rfl,hq,he,q⟩:=h;cases rx;obtain⟨t,rfl⟩:=ry;obtain⟨its,r,pl,hz⟩:=I.list hq;obtain⟨j,h1,h2,h3,h4,h5⟩:=bg_0 he;obtain⟨w,ew,rw'⟩:=r.get h2;have hl:=r.length;have hn:=al_2;have fin:EP X zd σ Q w s:=⟨z,H,I,rw',q⟩
 by_cases h0:0<=i
 ·have hj:i.toNat=j:=by
   rw[seqIndex_of h0 h5]at h1;exact F6 h1
  exact item_listR pl.isList h0 () (by rw[hj];simpa using ew) fin hs
 ·have hj:(i + (its.toArray.size:Int)).toNat=j:=by
   rw[seqIndex_neg () h4]at h1;rw[D5,<-hl];exact F6 h1
  exact Z8 (x:=w) pl.isList.typeIs slot_list_getitem.lookup
   (wpAny_getItem_list_neg (Q:=λr s'=>r=w/\EP X zd σ Q r s') pl.isList () (by rw[D5] <;> omega) () (by rw[hj];simpa using ew) ⟨rfl,fin⟩) hs
def dl_5:IxR X (rIxT X.K):=by
 intro value slice zd s σ H x y v u Q I rx ry h hs;obtain⟨p,xs,i,z,rfl,rfl,hq,he,q⟩:=h;cases rx;obtain⟨t,rfl⟩:=ry;obtain⟨its,r,pl,hz⟩:=I.tuple hq;obtain⟨j,h1,h2,h3,h4,h5⟩:=bg_0 he;obtain⟨w,ew,rw'⟩:=r.get h2;have hl:=r.length;have hn:=al_2;have fin:EP X zd σ Q w s:=⟨z,H,I,rw',q⟩;exact Z8 (x:=w) pl.typeIs slot_tuple_getitem.lookup
  (getItem_tuple (j:=j) (Q:=λr s'=>r=w/\EP X zd σ Q r s') pl () () (by rw[D5,<-hl];exact h1) (by simpa using ew) ⟨rfl,fin⟩) hs
def dl_6:IxR X rIxS:=by
 intro value slice zd s σ H x y v u Q I rx ry h hs;obtain⟨z,i,c,rfl,rfl,hz,he,q⟩:=h;obtain⟨t,rfl⟩:=rx;obtain⟨t',rfl⟩:=ry;obtain⟨j,h1,h2,h3,h4,h5⟩:=bg_0 he;have hl:z.cps.toList.length=z.length:=by simp[Str.length]
 rw[hl]at h1 h4 h5;have hn:=al_2;exact tail_any (typeIs_str s z t) slot_str_getitem.lookup (getItem_str (c:=c) (by
  have e1:decide (i < -(2 ^ 63:Int))=false:=C1 ();have e2:decide (i≥2 ^ 63)=false:=C1 ();rw[e1,e2,Bool.or_false]) (by rw[h1];simpa using h2) ⟨.str ⟨#[c]⟩,H,I.tok _,⟨_,rfl⟩,q⟩) hs
theorem Inv.lst{zd:AE}{σ:St}{H:Hp}{s:Shared}{p:Addr}{xs:List V}(I:Inv X zd σ H s)(h:H p=some (.lst xs)):
  ∃(its:List Value) (n:Nat),Vals xs its/\s.heap.get? p=some {cls:=.type "list",data:=.seq its.toArray n}/\xs.length<=sizeLine:=by
 obtain⟨z,its,n,r,e⟩:=I.hok p _ h;exact⟨its,n,r,e,z⟩
def Fv:V->Bool
 | .non=>true
 | .bl _=>true
 | .int _=>true
 | .str _=>true
 |_=>false
def eqV:V->V->Bool
 | .non,.non=>true
 | .bl a,.bl b=>a ==b
 | .bl a,.int b=>(if a then 1 else 0) ==b
 | .int a,.bl b=>a ==(if b then 1 else 0)
 | .int a,.int b=>a ==b
 | .str a,.str b=>a ==b
 |_,_=>false
def dl_7{A:Around}{s:Shared}{y x:V}{u v:Value}(ry:RelV y u)(rx:RelV x v)(fy:Fv y=true)(fx:Fv x=true):SeqAt.EqAt A s u v (eqV y x):=by
 cases y with
 |non=>
  cases ry;cases x with
  |non=>cases rx;exact SeqAt.EqAt.same _
  |bl b=>cases rx;exact SeqAt.EqAt.none_bool b
  |int b=>obtain⟨t,rfl⟩:=rx;exact SeqAt.EqAt.none_int b t
  |str b=>obtain⟨t,rfl⟩:=rx;exact SeqAt.EqAt.none_str b t
  |_=>exact absurd (show false=true from fx) A6
 |bl a=>
  cases ry;cases x with
  |non=>cases rx;exact SeqAt.EqAt.bool_none a
  |bl b=>cases rx;exact SeqAt.EqAt.bool_bool a b
  |int b=>obtain⟨t,rfl⟩:=rx;exact SeqAt.EqAt.bool_int a b t
  |str b=>obtain⟨t,rfl⟩:=rx;exact SeqAt.EqAt.bool_str a b t
  |_=>exact absurd (show false=true from fx) A6
 |int a=>
  obtain⟨t',rfl⟩:=ry;cases x with
  |non=>cases rx;exact SeqAt.EqAt.int_none a t'
  |bl b=>cases rx;exact SeqAt.EqAt.int_bool a t' b
  |int b=>obtain⟨t,rfl⟩:=rx;exact SeqAt.EqAt.int_int a t' b t
  |str b=>obtain⟨t,rfl⟩:=rx;exact SeqAt.EqAt.int_str a t' b t
  |_=>exact absurd (show false=true from fx) A6
 |str a=>
  obtain⟨t',rfl⟩:=ry;cases x with
  |non=>cases rx;exact SeqAt.EqAt.str_none a t'
  |bl b=>cases rx;exact SeqAt.EqAt.str_bool a t' b
  |int b=>obtain⟨t,rfl⟩:=rx;exact SeqAt.EqAt.str_int a t' b t
  |str b=>obtain⟨t,rfl⟩:=rx;exact SeqAt.EqAt.str_str a t' b t
  |_=>exact absurd (show false=true from fx) A6
 |_=>exact absurd (show false=true from fy) A6
def eqU(x:V)(u:Value):Bool:=match u with
 | .none=>eqV .non x
 | .bool b=>eqV (.bl b) x
 | .int i _=>eqV (.int i) x
 | .str z _=>eqV (.str z) x
 |_=>false
def cm_4{x y:V}{u:Value}(r:RelV y u)(f:Fv y=true):eqU x u=eqV y x:=by
 cases y with
 |non=>cases r;rfl
 |bl b=>cases r;rfl
 |int i=>obtain⟨t,rfl⟩:=r;rfl
 |str z=>obtain⟨t,rfl⟩:=r;rfl
 |_=>exact absurd (show false=true from f) A6
theorem ah_5{x:V}:∀{xs:List V} {us:List Value},Vals xs us->xs.all Fv=true->us.any (eqU x)=xs.any λy=>eqV y x
 |_,_,.nil,_=>rfl
 |y::xs,u::us,.cons r t,f=>by
  rw[P4,D9]at f;rw[P5,P5,cm_4 r f.1,ah_5 t f.2]
theorem aa_3{A:Around}{s:Shared}{x:V}{v:Value}(rx:RelV x v)(fx:Fv x=true):∀{xs:List V} {us:List Value},Vals xs us->xs.all Fv=true->∀u∈us,SeqAt.EqAt A s u v (eqU x u)
 |_,_,.nil,_=>λu hu=>by cases hu
 |y::xs,u::us,.cons r t,f=>λu' hu=>by
  rw[P4,D9]at f;rcases C6.mp hu with rfl|hu
  ·rw[cm_4 r f.1];exact dl_7 r rx f.1 fx
  ·exact aa_3 rx fx t f.2 u' hu
def inV(x:V)(xs:List V):Bool:=xs.any λy=>eqV y x
def rIn(K:Frag)(neg:Bool):R2:=λx y H Q=>∃p xs,y=.ref p/\(SqL K H p xs\/SqT K H p xs)/\Fv x=true/\xs.all Fv=true/\Q (.bl (if neg then !inV x xs else inV x xs)) H
def cg_1:OpR X (compareOp .In) (rIn X.K false):=by
 intro zd s σ H x y v u Q I rx ry h;obtain⟨p,xs,rfl,hq,fx,fs,q⟩:=h;cases ry;rcases hq with hq|hq
 ·obtain⟨its,r,pl,hz⟩:=I.list hq;refine SeqAt.in_listAt (eqU x) pl.isList (λw hw=>aa_3 rx fx r fs w (by simpa using hw)) ⟨.bl _,H,I,rfl, ?_⟩;rw[show its.toArray.any (eqU x)=its.any (eqU x) by simp,ah_5 r fs];exact q
 ·obtain⟨its,r,pl,hz⟩:=I.tuple hq;refine SeqAt.in_tupleAt (eqU x) pl (λw hw=>aa_3 rx fx r fs w (by simpa using hw)) ⟨.bl _,H,I,rfl, ?_⟩;rw[show its.toArray.any (eqU x)=its.any (eqU x) by simp,ah_5 r fs];exact q
def bg_1:OpR X (compareOp .NotIn) (rIn X.K true):=by
 intro zd s σ H x y v u Q I rx ry h;obtain⟨p,xs,rfl,hq,fx,fs,q⟩:=h;cases ry;rcases hq with hq|hq
 ·obtain⟨its,r,pl,hz⟩:=I.list hq;refine SeqAt.notIn_listAt (eqU x) pl.isList (λw hw=>aa_3 rx fx r fs w (by simpa using hw)) ⟨.bl _,H,I,rfl, ?_⟩;rw[show its.toArray.any (eqU x)=its.any (eqU x) by simp,ah_5 r fs];exact q
 ·obtain⟨its,r,pl,hz⟩:=I.tuple hq;refine SeqAt.notIn_tupleAt (eqU x) pl (λw hw=>aa_3 rx fx r fs w (by simpa using hw)) ⟨.bl _,H,I,rfl, ?_⟩;rw[show its.toArray.any (eqU x)=its.any (eqU x) by simp,ah_5 r fs];exact q
def bg_2:OpR X (compareOp .NotIn) (λx y H Q=>∃i j,x=.str i/\y=.str j/\Q (.bl (!(!(Builtin.Str.occurrences j i 0 j.length 1).isEmpty))) H):=by
 intro zd s σ H x y v u Q I rx ry h;obtain⟨i,j,rfl,rfl,q⟩:=h;obtain⟨t,rfl⟩:=rx;obtain⟨t',rfl⟩:=ry;exact notIn_str ⟨.bl _,H,I,rfl,q⟩
def ah_6:CallR X (.builtin "len") (λxs H Q=>∃p ys,xs= [.ref p]/\(SqL X.K H p ys\/SqT X.K H p ys)/\Q (.int ys.length) H):=by
 intro zd s σ H xs us Q I r h;obtain⟨p,ys,rfl,hq,q⟩:=h;obtain⟨u,rfl,rx⟩:=by_7 r;cases rx;have hn:=al_2;rcases hq with hq|hq
 ·obtain⟨its,r',pl,hz⟩:=I.list hq;have zk:=r'.length;exact Calls.call_len_list pl.isList (by simp only[D5] <;> omega) ⟨.int ys.length,H,I.tok _,⟨s.toks + 1,by rw[D5,zk]⟩,q⟩
 ·obtain⟨its,r',pl,hz⟩:=I.tuple hq;have zk:=r'.length;exact len_tuple pl (by simp only[D5] <;> omega) ⟨.int ys.length,H,I.tok _,⟨s.toks + 1,by rw[D5,zk]⟩,q⟩
def bg_3:CallR X (.builtin "len") (λxs H Q=>∃z,xs= [.str z]/\z.length<=sizeLine/\Q (.int z.length) H):=by
 intro zd s σ H xs us Q I r h;obtain⟨z,rfl,hz,q⟩:=h;obtain⟨u,rfl,t,rfl⟩:=by_7 r;have hn:=al_2;exact len_str () ⟨.int z.length,H,I.tok _,⟨_,rfl⟩,q⟩
def CallR.or{f:Value}{r r':List V->Hp->VK->Prop}(h:CallR X f r)(h':CallR X f r'):CallR X f (λxs H Q=>r xs H Q\/r' xs H Q):=by
 intro zd s σ H xs us Q I rs q;rcases q with q|q
 ·exact h zd s σ H xs us Q I rs q
 ·exact h' zd s σ H xs us Q I rs q
def ah_7:CallR X (.type "list") (λxs H Q=>∃p ys,xs= [.ref p]/\(SqL X.K H p ys\/SqT X.K H p ys)/\∀l,H l=none->Q (.ref l) (upd H l (.lst ys))):=by
 intro zd s σ H xs us Q I r h;obtain⟨p,ys,rfl,hq,q⟩:=h;obtain⟨u,rfl,rx⟩:=by_7 r;cases rx;have fin:∀(its:List Value),Vals ys its->ys.length<=sizeLine->∀(h':Heap) (c':Nat),(∀b o',s.heap.get? b=some o'->h'.get? b=some o')->
   h'.get? s.heap.objs.size=some {cls:=.type "list",dict:=none,data:=.seq its.toArray c',slots:= #[]}->EP X zd σ Q (.ref s.heap.objs.size) {s with heap:=h'}:=λits r' hz h' c' kp e=>
  ⟨.ref s.heap.objs.size,_,I.laid (t':=s.toks) kp (B5 _) (show ObjOk X.prog X.w _ h' _ (.lst ys) from⟨hz,its,c',r',e⟩),rfl,q _ (I.hok.fresh (B5 _))⟩
 rcases hq with hq|hq
 ·obtain⟨its,r',pl,hz⟩:=I.list hq;have zk:=r'.length;obtain⟨o,ho,hc,n,hd⟩:=pl.isList;exact call_list_seq p (.inl rfl) ho hc hd (λh' c' kp e=>fin its r' hz h' c' kp e) (by simp only[D5] <;> omega)
 ·obtain⟨its,r',pl,hz⟩:=I.tuple hq;have zk:=r'.length;obtain⟨o,ho,hc,n,hd⟩:=pl;exact call_list_seq p (.inr rfl) ho hc hd (λh' c' kp e=>fin its r' hz h' c' kp e) (by simp only[D5] <;> omega)
def ae_6:CallR X (.type "tuple") (λxs H Q=>∃p ys,xs= [.ref p]/\((SqL X.K H p ys/\∀l,H l=none->Q (.ref l) (upd H l (.tup ys)))\/(SqT X.K H p ys/\Q (.ref p) H))):=by
 intro zd s σ H xs us Q I r h;obtain⟨p,ys,rfl,h⟩:=h;obtain⟨u,rfl,rx⟩:=by_7 r;cases rx;rcases h with⟨hq,q⟩|⟨hq,q⟩
 ·obtain⟨its,r',pl,hz⟩:=I.list hq;have zk:=r'.length;refine call_tuple_list pl.isList (λh' kp=> ?_) (by simp only[D5] <;> omega);have I1:Inv X zd σ H {s with heap:=h'}:=I.kept (t':=s.toks) kp;have I2:Inv X zd σ (upd H h'.objs.size (.tup ys)) {s with heap:=h'.push {cls:=.type "tuple",data:=.seq its.toArray}}:=
   I1.laid (t':=s.toks) (λb o e=>A4 _ e) (B5 _) (show ObjOk X.prog X.w _ _ _ (.tup ys) from⟨hz,its,r',IsTup.new _ _⟩)
  exact⟨.ref h'.objs.size,_,I2,rfl,q _ (I1.hok.fresh (B5 _))⟩
 ·obtain⟨its,r',pl,hz⟩:=I.tuple hq;exact call_tuple_same pl ⟨.ref p,H,I,rfl,q⟩
def tyV(K:Frag)(T:String)(x:V)(H:Hp):Prop:=match x with
 | .str _=>T= "str"
 | .int _=>T= "int"
 | .ref p=>(T= "list" /\∃xs,SqL K H p xs)\/(T= "tuple" /\∃o,K.lookup p=some o/\o.cls=.type "tuple" /\o.dict=none)\/
   (T= "dict" /\((∃kvs,H p=some (.dK kvs))\/∃kvs,H p=some (.dT kvs)))\/(T= "set" /\∃S n,H p=some (.set S n))
 |_=>False
def cm_5{zd:AE}{σ:St}{H:Hp}{s:Shared}{T:String}{x:V}{v:Value}(I:Inv X zd σ H s)(r:RelV x v)(ty:tyV X.K T x H):
  s.TypeIs v T/\∀a,v=.ref a->∃ob,s.heap.get? a=some ob/\ob.dict=none:=by
 cases x with
 |str z=>
  obtain⟨t,rfl⟩:=r;cases(show T= "str" from ty);exact⟨typeIs_str s z t,λ_ e=>nomatch e⟩
 |int i=>
  obtain⟨t,rfl⟩:=r;cases(show T= "int" from ty);exact⟨typeIs_int s i t,λ_ e=>nomatch e⟩
 |ref p=>
  cases r;rcases ty with⟨rfl,xs,hq⟩|⟨rfl,o,hk,hc,hd⟩|⟨rfl,hk⟩|⟨rfl,S,n,hk⟩
  ·obtain⟨its,_,pl,_⟩:=I.list hq;refine⟨pl.isList.typeIs,λa e=> ?_⟩;cases e;obtain⟨o,n,e,c,hd,_⟩:=pl;exact⟨o,e,hd⟩
  ·refine⟨⟨o,I.kIn p o hk,hc⟩,λa e=> ?_⟩;cases e;exact⟨o,I.kIn _ o hk,hd⟩
  ·have z:∃o,s.heap.get? p=some o/\o.ExactDict:=by
    rcases hk with⟨kvs,hk⟩|⟨kvs,hk⟩
    ·obtain⟨_,_,_,_,o,_,_,e,ex,_⟩:=I.hok p _ hk;exact⟨o,e,ex⟩
    ·obtain⟨_,_,_,_,o,_,_,e,ex,_⟩:=I.hok p _ hk;exact⟨o,e,ex⟩
   obtain⟨o,e,ex⟩:=z;refine⟨⟨o,e,ex.1⟩,λa e2=> ?_⟩;cases e2;exact⟨o,e,ex.2.1⟩
  ·obtain⟨o,_,_,_,e,ex,_⟩:=I.hok p _ hk;refine⟨⟨o,e,ex.1⟩,λa e2=> ?_⟩;cases e2;exact⟨o,e,ex.2.1⟩
 |_=>exact False.elim ty
def tBM0(K:Frag)(T:String)(r:V->List V->Hp->VK->Prop)(to:TE):TE:=λ σ H Q=>to σ H λx H1=>tyV K T x H1/\r x [] H1 Q
def tBM(K:Frag)(T:String)(r:V->List V->Hp->VK->Prop)(to:TE)(t:TA):TE:=λ σ H Q=>to σ H λx H1=>tyV K T x H1/\t σ H1 λxs H2=>r x xs H2 Q
variable{o e:Expr}{es:List Expr}{to:TE}{t:TA}{name:Str}{zg zf:Pos}{T id:String}{r:V->List V->Hp->VK->Prop}
def dl_8(pa:PlainAttrs T)(slot:Slot T name id)(hty:typeOf (.builtin id)=pure (.type "method_descriptor"))(hm:MtR X id r)(ho:PE X o to)
  (ae:attributeBase o name X.env (eval o X.env)=eval o X.env:=by rfl) (af:(zg.endLine ==zf.line)=true:=by rfl):PE X (.Call (.Attribute o name zg) [] [] zf) (tBM0 X.K T r to):=by
 intro zd s σ H Q I h;refine T7 ae af (Bc (ho zd s σ H _ I h) λv s1 ⟨x,H1,I1,r1,ty,q1⟩=> ?_);obtain⟨h1,h2⟩:=cm_5 I1 r1 ty;exact⟨T,id,pa,slot,hty,h1,h2,L0 rfl (W6 (hm zd s1 σ H1 x [] v [] Q I1 r1 .nil q1))⟩
def by_9(pa:PlainAttrs T)(slot:Slot T name id)(hty:typeOf (.builtin id)=pure (.type "method_descriptor"))(hm:MtR X id r)(ho:PE X o to)(ha:PA X (e::es) t)
  (ae:attributeBase o name X.env (eval o X.env)=eval o X.env:=by rfl)
  (bb:((backTo zf (starEach (e::es) X.env)).all (λx=> !x.1) && (backToKw zf (keywordEach [] X.env)).all (λx=>x.1.isSome)
   && decide ((e::es).length + ([]:List Keyword).length + (if([]:List Keyword).isEmpty then 0 else 1) < 30))=true:=by rfl)
  (af:(zg.endLine ==zf.line)=true:=by rfl) (hs:starEach (e::es) X.env=(false,eval e X.env)::starEach es X.env:=by rfl) (ag:(backTo zf (starEach es X.env)).any (·.1)=false:=by rfl):
  PE X (.Call (.Attribute o name zg) (e::es) [] zf) (tBM X.K T r to t):=by
 intro zd s σ H Q I h;refine wpAny_Call_method_late ae bb af rfl (Bc (ho zd s σ H _ I h) λv s1 ⟨x,H1,I1,r1,ty,q1⟩=> ?_);obtain⟨h1,h2⟩:=cm_5 I1 r1 ty;refine⟨T,id,pa,slot,hty,h1,h2, ?_⟩;have hA:=ha zf zd s1 σ H1 _ I1 q1;rw[hs]at hA⊢;refine L0 (by show(false || (backTo zf (starEach es X.env)).any (·.1))=false;rw[ag] <;> rfl) (R7 ?_);exact Bc hA λus s2 ⟨vs,H2,I2,r2,q2⟩=>hm zd s2 σ H2 x vs v us Q I2 r1 r2 q2
end
def MtM(X:Cx)(id:String)(r:V->List V->Hp->VK->Prop):Prop:=
 ∀(zd:AE) (s:Shared) (σ:St) (H:Hp) (x:V) (xs:List V) (v:Value) (us:List Value) (Q:VK),Inv X zd σ H s->RelV x v->Vals xs us->r x xs H Q->
  wpAny (model X.prog X.w) X.A (call (.builtin id) (v::us)) (EP X zd σ Q) X.xe s
def Vals.one:∀{x:V} {us:List Value},Vals [x] us->∃u,us= [u]/\RelV x u
 |_,_,.cons r .nil=>⟨_,rfl,r⟩
def Vals.two{x y:V}{us:List Value}(h:Vals [x,y] us):∃u v,us= [u,v]/\RelV x u/\RelV y v:=by
 cases h with
 |cons r t=>
  cases t with
  |cons q t=>
   cases t;exact⟨_,_,rfl,r,q⟩
def Vals.zero:∀{us:List Value},Vals [] us->us= []
 |_,.nil=>rfl
theorem Vals.dropLast{xs:List V}{us:List Value}(h:Vals xs us):Vals xs.dropLast us.dropLast:=by
 induction h with
 |nil=>exact .nil
 |cons r t ih=>
  cases t with
  |nil=>exact .nil
  |cons q t'=>exact .cons r ih
theorem Vals.eraseIdx:∀{xs:List V} {us:List Value} (i:Nat),Vals xs us->Vals (xs.eraseIdx i) (us.eraseIdx i)
 |_,_,_,.nil=> .nil
 |_,_,0,.cons _ t=>t
 |_,_,i + 1,.cons r t=> .cons r (Vals.eraseIdx i t)
theorem Vals.rep{xs:List V}{us:List Value}(h:Vals xs us):∀k:Nat,Vals (List.replicate k xs).flatten (List.replicate k us).flatten
 |0=> .nil
 |k + 1=>by
  rw[K8,K8,N8,N8];exact Vals.append h (Vals.rep h k)
theorem bb_7{α:Type}:∀(l:List α) (i:Nat),(l.eraseIdx i).length<=l.length
 | [],_=>B5 _
 |_::_,0=>M7 _
 |_::r,i + 1=>Y6 (bb_7 r i)
theorem bb_8(its:List Value):∀(k:Nat) (zn:List Value),
  List.foldl (λx1 x2=>x1 ++ x2) zn.toArray (List.replicate k its.toArray)=(zn ++ (List.replicate k its).flatten).toArray
 |0,zn=>by simp
 |k + 1,zn=>by
  have e:zn.toArray ++ its.toArray=(zn ++ its).toArray:=by simp
  have e2:(zn ++ its) ++ (List.replicate k its).flatten=zn ++ (List.replicate (k + 1) its).flatten:=by
   rw[K8,N8,J8]
  rw[<-e2,<-bb_8 its k (zn ++ its),<-e,K8,ZA6]
section
variable{X:Cx}{zd:AE}{σ:St}{H:Hp}{s:Shared}{l b:Addr}{xs ys zs:List V}
def Inv.lset{its its':List Value}{n:Nat}{f:Array Value->Array Value}{t':Nat}(I:Inv X zd σ H s)(hH:H l=some (.lst xs))
  (e:s.heap.get? l=some {cls:=.type "list",data:=.seq its.toArray n}) (hf:f its.toArray=its'.toArray) (hv:Vals ys its') (hz:ys.length<=sizeLine):
  Inv X zd σ (upd H l (.lst ys)) {s with heap:=s.heap.update l (Obj.mapSeq f),toks:=t'}:=by
 have q:=PySem.IsL.update e f;rw[hf]at q;refine I.write (x:=l) (e:=l) (by rw[hH];exact trivial) (.inl rfl) (λb' u hb hu=>(K2 s.heap (Obj.mapSeq f) (Ne.symm hb)).trans hu) ⟨_,q⟩ ?_;exact⟨hz,its',_,hv,q⟩
def Inv.lnew{its:List Value}{t':Nat}(I:Inv X zd σ H s)(hv:Vals ys its)(hz:ys.length<=sizeLine):
  Inv X zd σ (upd H s.heap.objs.size (.lst ys)) {s with heap:=s.heap.push {cls:=.type "list",data:=.seq its.toArray},toks:=t'}:=
 I.laid (λ_ _ q=>A4 _ q) (B5 _) ⟨hz,its,0,hv,B8 _ rfl⟩
theorem Inv.fresh(I:Inv X zd σ H s):H s.heap.objs.size=none:=I.hok.fresh (B5 _)
def Inv.lstM(I:Inv X zd σ H s)(hH:H l=some (.lst xs)):xs.length<=sizeLine/\∃(its:List Value) (n:Nat),Vals xs its/\xs.length=its.length/\s.heap.get? l=some {cls:=.type "list",data:=.seq its.toArray n}:=by
 obtain⟨z,its,n,r,e⟩:=I.hok l _ hH;exact⟨z,its,n,r,r.length,e⟩
def cm_6{n:Nat}(h:n<=sizeLine):Builtin.List.listTooLong n=false:=by
 unfold Builtin.List.listTooLong;exact C1 ()
end
section
variable{X:Cx}
def bg_4:V->List V->Hp->VK->Prop:=λx vs H Q=>∃l xs y,x=.ref l/\vs= [y]/\H l=some (.lst xs)/\xs.length < sizeLine/\Q .non (upd H l (.lst (xs ++ [y])))
def al_4:MtM X "list.append" bg_4:=by
 intro zd s σ H x vs v us Q I rx rv h;obtain⟨l,xs,y,rfl,rfl,hH,hz,q⟩:=h;cases rx;obtain⟨u,rfl,ru⟩:=rv.one;obtain⟨z,its,n,r,hl,e⟩:=I.lstM hH;refine Z9 F.slot_list_append ⟨_,e,rfl⟩ F.entry_list_append (F.args_list_append_2 _ _) (PySem.list_append l its.toArray n u (by rw[D5];omega)) ⟨e, ?_⟩;refine⟨.non,_,I.lset (its':=its ++ [u]) hH e (by simp) (r.append (.cons ru .nil)) ?_,rfl,q⟩;rw[B7,List.length_singleton];omega
def dl_9:V->List V->Hp->VK->Prop:=λx vs H Q=>∃l xs i k y,x=.ref l/\vs= [.int i]/\H l=some (.lst xs)/\ -(2 ^ 63)<=i/\i < 2 ^ 63/\seqIndex? i xs.length=some k/\xs[k]? =some y/\Q y (upd H l (.lst (xs.eraseIdx k)))
def cm_7:MtM X "list.pop" dl_9:=by
 intro zd s σ H x vs v us Q I rx rv h;obtain⟨l,xs,i,k,y,rfl,rfl,hH,h1,h2,hk,hy,q⟩:=h;cases rx;obtain⟨u,rfl,ru⟩:=rv.one;obtain⟨t,rfl⟩:=ru;obtain⟨z,its,n,r,hl,e⟩:=I.lstM hH;obtain⟨w,hw,rw'⟩:=r.get hy;refine Z9 F.slot_list_pop ⟨_,e,rfl⟩ F.entry_list_pop (F.args_list_pop_2 _ _)
  (MeetsSeq.list_pop_at l its.toArray n i t k w (fitsIndex_both h1 h2) (by rw[D5,<-hl];exact hk) (by rw[<-U9];exact hw) (by rw[D5];omega)) ⟨e, ?_⟩
 refine⟨y,_,I.lset (its':=its.eraseIdx k) hH e ?_ (r.eraseIdx k) ?_,rw',q⟩
 ·show its.toArray.eraseIdxIfInBounds k=(its.eraseIdx k).toArray;rw[List.eraseIdxIfInBounds_toArray]
 ·have:=bb_7 xs k;omega
def dm_0:V->List V->Hp->VK->Prop:=λx vs H Q=>∃l xs,x=.ref l/\vs= []/\H l=some (.lst xs)/\Q .non (upd H l (.lst []))
def cm_8:MtM X "list.clear" dm_0:=by
 intro zd s σ H x vs v us Q I rx rv h;obtain⟨l,xs,rfl,rfl,hH,q⟩:=h;cases rx;have hus:=rv.zero;subst hus;obtain⟨z,its,n,r,hl,e⟩:=I.lstM hH;refine Z9 F.slot_list_clear ⟨_,e,rfl⟩ F.entry_list_clear (F.args_list_clear_1 _) (AutoSeq1.list_clear_list_0 l its.toArray n (by rw[D5];omega)) ⟨e, ?_⟩;exact⟨.non,_,I.lset (its':=[]) (ys:=[]) hH e rfl .nil (K6 _),rfl,q⟩
def rRep:R2:=λx y H Q=>∃l k xs,x=.ref l/\y=.int k/\H l=some (.lst xs)/\ -(2 ^ 63)<=k/\k < 2 ^ 63/\xs.length * k.toNat<=sizeLine/\
 ∀p,H p=none->Q (.ref p) (upd H p (.lst (List.replicate k.toNat xs).flatten))
def cz_3{α:Type}(xs:List α)(k:Nat):(List.replicate k xs).flatten.length=k * xs.length:=by
 induction k with
 |zero=>simp
 |succ k ih=>rw[K8,N8,B7,ih,Nat.succ_mul,Nat.add_comm]
def dm_1:OpR X (binaryOp .Mult) rRep:=by
 intro zd s σ H x y v u Q I rx ry h;obtain⟨l,k,xs,rfl,rfl,hH,h1,h2,hz,q⟩:=h;cases rx;obtain⟨t,rfl⟩:=ry;obtain⟨z,its,n,r,hl,e⟩:=I.lstM hH;have zk:its.toArray.size * k.toNat<=sizeLine:=by rw[D5,<-hl];exact hz
 have fq:¬its.toArray.size * k.toNat > (2 ^ 63 - 1) / 8:=by
  have:(sizeLine:Nat)<=(2 ^ 63 - 1) / 8:=by decide
  omega
 have dh:¬(!Builtin.List.listFitsIndex k)=true:=by
  rw[fitsIndex_both h1 h2];exact A6
 have bt:¬Builtin.List.listTooLong (its.toArray.size * k.toNat)=true:=by
  rw[cm_6 zk];exact A6
 have df:List.foldl (λx1 x2=>x1 ++ x2) #[] (List.replicate (if its.toArray.isEmpty=true then 0 else k.toNat) its.toArray)=(List.replicate k.toNat its).flatten.toArray:=by
  have f0:∀m:Nat,List.foldl (λx1 x2=>x1 ++ x2) #[] (List.replicate m its.toArray)=(List.replicate m its).flatten.toArray:=λm=>by
   have:=bb_8 its m [];rw[R1]at this;exact this
  rw[f0];cases its with
  |nil=>simp
  |cons a r'=>rw[if_neg (by simp)]
 refine wpAny_binaryOp_repeat_ref (T:= "list") (U:= "int") ⋯ ⟨_,e,rfl⟩ (λs'=>typeIs_int s' k t) noFill_list_mul F.fills_int_mul F.slot_int_rmul repeat_list F.slot_int_index.lookup
  (Z9 F.slot_int_rmul (typeIs_int s k t) F.entry_int_rmul (F.args_int_rmul_2 _ _) (int___rmul___int_list k t l its.toArray n)
   ⟨e,rfl,⟨_,e,rfl⟩,Z9 F.slot_list_mul ⟨_,e,rfl⟩ F.entry_list_mul (F.args_list_mul_2 _ _) (AutoListH.list___mul___list_int_3 l its.toArray n k t dh fq bt) ⟨e, ?_⟩⟩)
 rw[df];exact⟨.ref _,_,I.lnew (t':=s.toks) (r.rep k.toNat) (by rw[cz_3,Nat.mul_comm];exact hz),rfl,q _ I.fresh⟩
end
section
variable{prog:Program}{w:World}{A:Around}{E:AA}{s:Shared}
end
section
variable{X:Cx}
end
end L2
namespace Att
open PySem PySem.W PySem.Calls PyProof.Rows
def aq_9{P:Params}{h:Heap}:∀(ns:List Int) (vs:List Value),WellAll P h vs (ns.map WData.int)->IntsAre vs ns:=by
 intro ns
 induction ns with
 |nil=>
  intro vs w;rw[N7]at w;cases w;exact .nil
 |cons n ns ih=>
  intro vs w;rw[B3]at w;cases w with
  |cons a b=>
   cases a;exact .cons _ _ (ih _ b)
def cg_2{l:OpenLaw}{n:Nat}(hn:l.most=some n){P:Params}{h:Heap}{args:List WData}{vals:List Value}
  (bh:l.row.toRowW.claim.pre args=true) (hwl:WellAll P h vals args):
  ∃a vs ns,vals= [Value.ref a]/\args= [WData.list (ns.map WData.int)]/\h.get? a=some {cls:=.type "list",data:=.seq vs.toArray}/\IntsAre vs ns/\ns.length<=n:=by
 have hsh:WShape.hasAll [] args [.list .int]=true:=(pre_splitW bh).1;have hc:l.pre.holds [] {args:=args}=true:=(pre_splitW bh).2;obtain⟨d,r,rfl,h1,h2⟩:=hasAllW_cons hsh;obtain rfl:=hasAllW_nil h2;obtain⟨xs,rfl,h3⟩:=hasW_list h1;obtain⟨ns,rfl⟩:=items_int h3;have zk:ns.length<=n:=by
  unfold OpenLaw.pre at hc;have h4:(WTm.not (.lt (.lit (.int (n:Int))) (.len (.arg 0)))).holds [] {args:=[.list (ns.map .int)]}=true:=by
   have h4:=(holds_andW hc).1;rw[hn]at h4;exact h4
  have h5:=condW_of h4 (w_not (w_lt w_lit (w_len_list (w_arg rfl))));rw[A3]at h5;refine Nat.le_of_not_lt λq=> ?_;have q':(n:Int) < ((ns.length:Nat):Int):=by omega
  first
   |(rw[D6 q']at h5;exact absurd h5 ⋯)
   |(simp at h5;omega)
 cases hwl with
 |cons w1 w2=>
  cases w2;cases w1 with
  |list ho bg=>exact⟨_,_,ns,rfl,rfl,ho,aq_9 ns _ bg,zk⟩
def cg_3(l:OpenLaw)(args:List WData):l.row.toRowW.claim.post args (.bool true) args=true:=
 postW_of (r:=l.row.toRowW) (X:=(true ==true))
  (show WShape.has [] (.bool true) .bool=true by first|rfl|decide|simp[WShape.has,WShape.arms,WShape.armsAll])
  (show(WTm.eq .res (.lit (.bool true))).value [] {args:=args,res:=some (.bool true),after:=args}=some (.bool (true ==true)) from w_eq_bool (w_res rfl) w_lit) rfl
def attach_call{l:OpenLaw}{n:Nat}{q:Program}{loose:List Str}{XP:(AB)->Heap->Prop}{YP:World->Heap->Prop}{d:DefRec}
  (hn:l.most=some n) (hdf:d.params.defaults= [])
  (call:∀(w:World) (s₀ s₁:Shared) (mg mb:AB) (fa:Addr) (o:Obj) (pm cd doc:Value) (a:Addr) (vs:List Value) (ns:List Int),
   Ground q loose [] XP w s₀ mg mb s₁.heap->YP w s₁.heap->
   s₁.heap.get? fa=some o->o.data=.func (docDef d.name d.params d.body d.scope pm cd doc)->s₁.heap.CodeRec cd d.name->mg d.name=some (.ref fa)->
   s₁.heap.get? a=some {cls:=.type "list",data:=.seq vs.toArray}->IntsAre vs ns->ns.length<=n->s₁.gens= #[]->
   codeAny (model l.prog w) callerA (.call (.ref fa) ⟨[.ref a],[]⟩) (λr s'=>r=.ok (.ret (.bool true))/\OldK s₁.heap s'.heap/\s'.os=s₁.os/\AllBare s'.gens) s₁):
  WalkO q loose XP YP l.row.toRowW d [] (λf vs=>PySem.call f vs):=by
 intro w s₀ s₁ mg mb G Y fa o pm cd doc dV kV ho hd hcd hD hmg hg args vals as bh hlay hrd hwl hlo;obtain rfl:dV=.none:=Dflts.none hD hdf;obtain rfl:kV=.none:=Dflts.noKw hD;obtain⟨a,vs,ns,rfl,rfl,bf,hints,zk⟩:=cg_2 hn bh hwl;refine enter_call (Q4 (call w s₀ s₁ mg mb fa o pm cd doc a vs ns G Y ho (fd_plain hd) hcd hmg bf hints zk hg) λr s' hq=> ?_);obtain⟨rfl,h2,h3,h4⟩:=hq;exact⟨.inl ⟨.bool true,.bool true,[],rfl,λ_=>rfl,.bool true,cg_3 l _,λ_=>⟨List.Pairwise.nil,λ_ hm=>(nomatch hm)⟩⟩,h2,h3,h4⟩
section
variable{prog:Program}{w:World}{A:Around}{E:AA}{s:Shared}{K:Frag}
end
end Att
namespace L2
open PySem PySem.Spec PyProof.Rows
theorem bb_9:∀{vs:List Value} {ns:List Int},IntsAre vs ns->Vals (ns.map V.int) vs
 |_,_,.nil=> .nil
 |_,_,.cons n t h=> .cons ⟨t,rfl⟩ (bb_9 h)
def Only(H:Hp):Prop:=∀b,H b=none\/∃o xs,H b=some (.frz o (.lst xs))
def cm_9{P:Program}{w:World}{K:Frag}{mg mb:AB}{CX:CXT}{k:Nat}{fa a:Addr}{fd:FuncData}{x:Str}{sp:Sp}{s₁:Shared}{vs:List Value}{ns:List Int}
  (KX:K.In s₁.heap) (hns:s₁.heap.Ns mainGlobals mg) (hb:s₁.heap.Ns builtinsNs mb) (hbb:∀x:Str,x≠ "__name__" ->mb x=bootBuiltins x) (dg:s₁.heap.NoLimit) (hg:s₁.gens= #[])
  (ha:s₁.heap.get? a=some {cls:=.type "list",data:=.seq vs.toArray}) (hi:IntsAre vs ns) (hl:ns.length<=sizeLine) (hr:Room k callerA)
  (F:∀base:Heap,K.In base->base.Ns mainGlobals mg->FnOk P w K mg base CX k fa fd [x] sp) (ck:∀(s:Shared) (u:Value),BindsTo s fd ⟨[u],[]⟩ [(x,u)])
  (hsp:∀H:Hp,Only H->SqL K H a (ns.map V.int)->sp [.ref a] H (λv _=>v=.bl true) λ_ _ _=>False)
  (hCX:∀H e s',CX [] H s₁ (λ_ _ _=>False) e s'->False):
  codeAny (model P w) callerA (.call (.ref fa) ⟨[.ref a],[]⟩) (λr s'=>r=.ok (.ret (.bool true))/\OldK s₁.heap s'.heap/\s'.os=s₁.os/\AllBare s'.gens) s₁:=by
 have rv:=bb_9 hi;have di:=hi.length
 
 have core:∀H:Hp,Only H->SqL K H a (ns.map V.int)->HOk P w H s₁.heap->(∀b,H b≠none->b=a)->(H a≠none->K.lookup a=none)->
   codeAny (model P w) callerA (.call (.ref fa) ⟨[.ref a],[]⟩) (λr s'=>r=.ok (.ret (.bool true))/\OldK s₁.heap s'.heap/\s'.os=s₁.os/\AllBare s'.gens) s₁:=by
  intro H hO hS hok hA hK;have ak:∀{b:Addr} {o:Obj},s₁.heap.get? b=some o->H b=none->(hidT s₁.heap H).get? b=some o:=λe n=>cl_1 e n;have noA:∀{b:Addr} {o:Obj} {es:Array DictEntry} {ep:Nat},s₁.heap.get? b=some o->o.data=.dict es ep->H b=none:=λ{b o es ep} e d=>by
   cases q:H b with
   |none=>rfl
   |some u=>
    have e':b=a:=hA b (by rw[q];simp);subst e';rw[ha]at e;cases e;have d':Data.seq vs.toArray _=Data.dict es ep:=d;cases d'
  have nsK:∀{b:Addr} {m:AB},s₁.heap.Ns b m->(hidT s₁.heap H).Ns b m:=λ{b m} ⟨o,es,ep,e,d,r⟩=>⟨o,es,ep,ak e (noA e d),d,r⟩;have hKb:K.In (hidT s₁.heap H):=λb o e=>ak (KX b o e) (by
   cases q:H b with
   |none=>rfl
   |some u=>
    have e':b=a:=hA b (by rw[q];simp);subst e';rw[hK (by rw[q];simp)]at e;cases e)
  have hM:Mod K mg (hidT s₁.heap H):=⟨hKb,nsK hns,⟨mb,nsK hb,hbb⟩,let⟨mc,h1,h2⟩:=dg;⟨mc,nsK h1,h2⟩⟩;have e0:Env0 P w K mg (hidT s₁.heap H) callerA [] s₁ H:=⟨rfl,hM,λb o e=>cx_7 e,S3 (cf_0 _ _),trivial,λb hb=>absurd (show b∈([]:List Addr) from hb) (by simp),hok,.of_eq hg⟩;refine Q4 ((F _ hKb (nsK hns)).run callerA [] s₁ H ⟨[.ref a],[]⟩ [.ref a] [.ref a] _ _ hr e0 (ck s₁ (.ref a)) (.cons rfl .nil) (hsp H hO hS)) λr s' h=> ?_;cases r with
  |error e=>exact(hCX H e s' h).elim
  |ok fl=>
   cases fl with
   |next=>exact False.elim h
   |brk=>exact False.elim h
   |cont=>exact False.elim h
   |ret u=>
    obtain⟨v,H',os,bare,un,fj,r',q⟩:=h;have q':v=.bl true:=q;subst q';obtain rfl:u=Value.bool true:=r';refine⟨rfl,OldK.of_keep λb o e=> ?_,os,bare⟩;cases q:H b with
    |none=>exact un.keep b o e q (by intro z;exact absurd (show b∈([]:List Addr) from z) (by simp)) (by simp)
    |some u=>
     rcases hO b with z|⟨ob,xs,z⟩
     ·rw[q]at z;cases z
     ·have z2:=un.frzs b ob _ z;obtain⟨e1,_⟩:=hok b _ z;obtain⟨e2,_⟩:=fj b _ z2;rw[e]at e1;cases e1;exact e2
 cases hk:K.lookup a with
 |some o=>
  
  have e:=KX a o hk;rw[ha]at e;cases e;refine core (λ_=>none) (λ_=> .inl rfl) (.inr ⟨_,vs.toArray,_,hk,rfl,rfl,rfl,by rw[D5,di];exact hl,by simpa using rv⟩) (λb u z=>by have z':(none:Option HO)=some u:=z;cases z') (λb z=>absurd rfl z) λz=>absurd rfl z
 |none=>
  refine core (λb=>if b=a then some (.frz {cls:=.type "list",data:=.seq vs.toArray} (.lst (ns.map V.int))) else none) (λb=> ?_) (.inl (.inr ⟨{cls:=.type "list",data:=.seq vs.toArray},if_pos rfl⟩)) (λb u z=> ?_) (λb z=> ?_) λ_=>hk
  ·by_cases hb:b=a
   ·exact .inr ⟨_,_,if_pos hb⟩
   ·exact .inl (if_neg hb)
  ·by_cases hb:b=a
   ·have z':=(if_pos hb).symm.trans z;cases z';subst hb;exact⟨ha,by rw[A3];exact hl,vs,_,rv,ha⟩
   ·have z':=(if_neg hb).symm.trans z;cases z'
  ·by_cases hb:b=a
   ·exact hb
   ·exact absurd (if_neg hb) z
def cz_4{l:PySem.W.OpenLaw}{n k:Nat}{q:Program}{loose:List Str}{XP:(AB)->Heap->Prop}{YP:World->Heap->Prop}{d:DefRec}{K:Params->Frag}{CX:World->CXT}{sp:World->Sp}{x:Str}
  (hn:l.most=some n) (hn2:n<=sizeLine) (hdf:d.params.defaults= []) (hr:Room k callerA)
  (hY:∀(w:World) (h:Heap),YP w h->(K w.params).In h)
  (F:∀(w:World) (mg:AB) (fa:Addr) (h:Heap),(K w.params).In h->h.Ns mainGlobals mg->mg d.name=some (.ref fa)->
   ∃fd:FuncData,(∀(s:Shared) (u:Value),BindsTo s fd ⟨[u],[]⟩ [(x,u)])/\
    ∀base:Heap,(K w.params).In base->base.Ns mainGlobals mg->FnOk l.prog w (K w.params) mg base (CX w) k fa fd [x] (sp w))
  (hsp:∀(w:World) (H:Hp) (a:Addr) (ns:List Int),ns.length<=n->Only H->SqL (K w.params) H a (ns.map V.int)->sp w [.ref a] H (λv _=>v=.bl true) λ_ _ _=>False)
  (hCX:∀(w:World) (H:Hp) (s:Shared) (e:Value) (s':Shared),CX w [] H s (λ_ _ _=>False) e s'->False):
  PySem.W.WalkO q loose XP YP l.row.toRowW d [] (λf vs=>PySem.call f vs):=by
 refine Att.attach_call hn hdf λw s₀ s₁ mg mb fa o pm cd doc a vs ns G Y ho hd hcd hmg bf hints zk hg=> ?_;have KX:=hY w _ Y;obtain⟨fd,hb,hF⟩:=F w mg fa _ KX G.T.g hmg;exact cm_9 KX G.T.g G.T.b G.T.builtins G.T.nolimit hg bf hints (D4 zk hn2) hr hF hb (λH hO hS=>hsp w H a ns zk hO hS) λH e s'=>hCX w H s₁ e s'
def j_9(s:Stmt):Arguments:=match s with
 | .FunctionDef _ a _ _ _ _ _ _ _ _=>a
 |_=>{posonlyargs:=[],args:=[],vararg:=none,kwonlyargs:=[],kw_defaults:=[],kwarg:=none,defaults:=[]}
def Ft(s:Stmt):List Stmt:=match s with
 | .FunctionDef _ _ b _ _ _ _ _ _ _=>b
 |_=> []
def Ch(s:Stmt):Scope:=match s with
 | .FunctionDef _ _ _ _ _ _ sc _ _ _=>sc
 |_=>{kind:=.function,names:=[],isGenerator:=false,isCoroutine:=false}
abbrev CX0:CXT:=λ_ _ _ _ _ _=>False
abbrev E0:XK:=λ_ _ _=>False
structure Fun(K:Frag)(x qual:Str)(st:Stmt)(f:Addr)(fd:FuncData):Prop where
 ex:∃(oc:Value) (od:Option Addr) (kV doc pm:Value) (an:Option Addr) (zp ct:Value) (osl:Array (Option Value)),
  fd=fnOf x qual (j_9 st) (Ft st) (Ch st) .none kV doc pm an zp ct/\K.lookup f=some ⟨oc,od,.func fd,osl⟩/\codeIn K zp qual=true
 kp:keepIn K (.ref f)=true
section
variable{P:Program}{w:World}{K:Frag}{mg:AB}{base:Heap}
def Fun.binds{x qual:Str}{st:Stmt}{f:Addr}{fd:FuncData}{ps:List Str}(F:Fun K x qual st f fd)
  (h:∀(kV doc pm:Value) (an:Option Addr) (zp ct:Value) (us:List Value),us.length=ps.length->bindArgs (fnOf x qual (j_9 st) (Ft st) (Ch st) .none kV doc pm an zp ct) ⟨us,[]⟩=pure (ps.zip us)):Binds K fd ps []:=by
 obtain⟨oc,od,kV,doc,pm,an,zp,ct,osl,rfl,lk,hcd⟩:=F.ex;exact .all (h kV doc pm an zp ct)
def bu_7{x qual:Str}{st:Stmt}{f:Addr}{oc:Value}{od an:Option Addr}{osl:Array (Option Value)}{kV doc pm zp ct:Value}(l:K.lookup f=some ⟨oc,od,.func (fnOf x qual (j_9 st) (Ft st) (Ch st) .none kV doc pm an zp ct),osl⟩)
  (c:codeIn K zp qual=true) (k:keepIn K (.ref f)=true):Fun K x qual st f (fnOf x qual (j_9 st) (Ft st) (Ch st) .none kV doc pm an zp ct):=⟨⟨oc,od,kV,doc,pm,an,zp,ct,osl,rfl,l,c⟩,k⟩
end
section
variable{X:Cx}
def pv(i:Nat){x:Str}{pos:Pos}(hN:X.N[i]? =some x:=by rfl)(hv:Fd X.env.scope x:=by trivial)(hd:AG x:=by decide)
  (hcd:(x ==("__classdict__" :Str))=false:=by decide):PE X (.Name x pos) (tVar i):=Ff hN hv hd hcd
end
def Same(H H':Hp):Prop:=∀b o,H b=some o->H' b=some o
def Same.refl(H:Hp):Same H H:=λ_ _ h=>h
def Same.trans{H H1 H2:Hp}(a:Same H H1)(b:Same H1 H2):Same H H2:=λc o h=>b c o (a c o h)
def Same.free{H H':Hp}(e:Same H H'){l:Addr}(h:H' l=Option.none):H l=Option.none:=by
 cases q:H l with
 |none=>rfl
 |some o=>
  rw[e l o q]at h;cases h
def Same.seq{K:Frag}{H H':Hp}{a:Addr}{xs:List V}(e:Same H H')(h:SqL K H a xs):SqL K H' a xs:=by
 rcases h with(h|⟨o,h⟩)|h
 ·exact .inl (.inl (e _ _ h))
 ·exact .inl (.inr ⟨o,e _ _ h⟩)
 ·exact .inr h
end L2
namespace L3
open PySem PySem.Spec PyProof.Rows L2
variable{K:Frag}{fd:FuncData}{mg:AB}{us:List Value}{base:Heap}{H:Hp}{X:Cx}{pos:Pos}{v:V}
abbrev Sg:=L2.St
inductive D where
 |non|bl (b:Bool)|int (i:Int)|str (x:Str)|lst (ds:List D)|tup (ds:List D)|dic (kvs:List (Af×D))
 |exn (c:Str) (ns:List Str) (vs:List D)|obj (c:Str) (ns:List Str) (vs:List D)
structure Xn where
 c:Str
 ns:List Str
 vs:List D
inductive R(α:Type) where
 |ok (a:α)|ex (x:Xn)|no
namespace R
def bind{α β:Type}(r:R α)(k:α->R β):R β:=match r with
 | .ok a=>k a
 | .ex x=> .ex x
 | .no=> .no
@[simp] theorem bind_ok{α β:Type}(a:α)(k:α->R β):(R.ok a).bind k=k a:=rfl
@[simp] theorem bind_ex{α β:Type}(x:Xn)(k:α->R β):(R.ex x).bind k=.ex x:=rfl
@[simp] theorem bind_no{α β:Type}(k:α->R β):(R.no).bind k=.no:=rfl
end R
inductive Tn where
 |sh (d:D)|lst (ts:List Tn)|tup (ts:List Tn)|dic (zm:List (Af×Tn))|obj (c:Str) (ns:List Str) (ts:List Tn)
mutual
def Tn.d:Tn->D
 | .sh d=>d
 | .lst ts=> .lst (Tn.ds ts)
 | .tup ts=> .tup (Tn.ds ts)
 | .dic zm=> .dic (Tn.ks zm)
 | .obj c ns ts=> .obj c ns (Tn.ds ts)
def Tn.ds:List Tn->List D
 | []=> []
 |t::ts=>t.d::Tn.ds ts
def Tn.ks:List (Af×Tn)->List (Af×D)
 | []=> []
 |(k,t)::ts=>(k,t.d)::Tn.ks ts
end
def Tn.of:D->Tn
 | .lst ds=> .lst (ds.map .sh)
 | .dic kvs=> .dic (kvs.map λp=>(p.1,.sh p.2))
 | .obj c ns vs=> .obj c ns (vs.map .sh)
 |d=> .sh d
theorem Tn.ds_sh:∀ds:List D,Tn.ds (ds.map .sh)=ds
 | []=>rfl
 |d::ds=>by
  show(Tn.sh d).d::Tn.ds (ds.map .sh)=_;rw[Tn.ds_sh ds];rfl
theorem Tn.ks_sh:∀kvs:List (Af×D),Tn.ks (kvs.map λp=>(p.1,Tn.sh p.2))=kvs
 | []=>rfl
 |(k,d)::kvs=>by
  show(k,(Tn.sh d).d)::Tn.ks (kvs.map λp=>(p.1,Tn.sh p.2))=_;rw[Tn.ks_sh kvs];rfl
theorem Tn.ks_fst:∀zm:List (Af×Tn),(Tn.ks zm).map (·.1)=zm.map (·.1)
 | []=>rfl
 |(k,t)::zm=>by show k::(Tn.ks zm).map (·.1)=_;rw[Tn.ks_fst zm];rfl
theorem Tn.ks_snd:∀zm:List (Af×Tn),(Tn.ks zm).map (·.2)=Tn.ds (zm.map (·.2))
 | []=>rfl
 |(k,t)::zm=>by show t.d::(Tn.ks zm).map (·.2)=_;rw[Tn.ks_snd zm];rfl
def Tn.of_d(d:D):(Tn.of d).d=d:=by
 cases d with
 |lst ds=>show D.lst (Tn.ds (ds.map .sh))=_;rw[Tn.ds_sh]
 |dic kvs=>show D.dic (Tn.ks (kvs.map λp=>(p.1,.sh p.2)))=_;rw[Tn.ks_sh]
 |obj c ns vs=>show D.obj c ns (Tn.ds (vs.map .sh))=_;rw[Tn.ds_sh]
 |_=>rfl
inductive W where
 |sh (d:D)|ow (d:D)|tr (t:Tn)
def W.d:W->D
 | .sh d=>d
 | .ow d=>d
 | .tr t=>t.d
@[simp] theorem W.d_sh(d:D):(W.sh d).d=d:=rfl
@[simp] theorem W.d_ow(d:D):(W.ow d).d=d:=rfl
@[simp] theorem W.d_tr(t:Tn):(W.tr t).d=t.d:=rfl
def ClsAt(K:Frag)(c:Str)(C:Addr):Prop:=nsIn K mainGlobals c=some (some (.ref C))
def XO(a C:Addr)(dx:Option Addr):HO:=.ext λh=>∃us sl,h.get? a=some ⟨.ref C,dx,.fields us,sl⟩/\us[2]? =some .none
mutual
inductive Has(K:Frag)(G:Hp):V->D->Prop where
 |non:Has K G .non .non
 |bl (b:Bool):Has K G (.bl b) (.bl b)
 |int (i:Int):Has K G (.int i) (.int i)
 |str (x:Str):Has K G (.str x) (.str x)
 |lst {a:Addr} {vs:List V} {ds:List D} (h:SqL K G a vs) (r:HasL K G vs ds):Has K G (.ref a) (.lst ds)
 |tup {a:Addr} {vs:List V} {ds:List D} (h:SqT K G a vs) (r:HasL K G vs ds):Has K G (.ref a) (.tup ds)
 |exn0 {a C:Addr} {o:Obj} {c:Str} (hc:ClsAt K c C) (h:G a=some (.frz o (XO a C none))):Has K G (.ref a) (.exn c [] [])
 |exn1 {a C d:Addr} {o:Obj} {c:Str} {ns:List Str} {us:List V} {vs:List D} (hc:ClsAt K c C) (h:G a=some (.frz o (XO a C (some d)))) (hd:G d=some (.xd (ns.zip us))) (hl:ns.length=us.length) (r:HasL K G us vs):Has K G (.ref a) (.exn c ns vs)
 |dic {a:Addr} {kvs:List (Af×V)} {kds:List (Af×D)} (h:Rd G a (.dK kvs)) (hk:kvs.map (·.1)=kds.map (·.1)) (r:HasL K G (kvs.map (·.2)) (kds.map (·.2))):Has K G (.ref a) (.dic kds)
 |obj {a C dx:Addr} {c:Str} {ns:List Str} {us:List V} {vs:List D} (hc:ClsAt K c C) (h:G a=some (.ins C dx (ns.zip us))) (hl:ns.length=us.length) (r:HasL K G us vs):Has K G (.ref a) (.obj c ns vs)
inductive HasL(K:Frag)(G:Hp):List V->List D->Prop where
 |nil:HasL K G [] []
 |cons {v:V} {d:D} {vs:List V} {ds:List D} (h:Has K G v d) (r:HasL K G vs ds):HasL K G (v::vs) (d::ds)
end
abbrev AS:=Addr->Prop
mutual
inductive Ow(K:Frag)(G H:Hp):V->Tn->AS->Prop where
 |sh {v:V} {d:D} {S:AS} (h:Has K G v d):Ow K G H v (.sh d) S
 |lst {a:Addr} {vs:List V} {ts:List Tn} {S S1:AS} (h:H a=some (.lst vs)) (ha:S a) (sub:∀b,S1 b->S b/\b≠a) (r:OwL K G H vs ts S1):Ow K G H (.ref a) (.lst ts) S
 |tup {a:Addr} {vs:List V} {ts:List Tn} {S S1:AS} (h:H a=some (.tup vs)) (ha:S a) (sub:∀b,S1 b->S b/\b≠a) (r:OwL K G H vs ts S1):Ow K G H (.ref a) (.tup ts) S
 |dic {a:Addr} {kvs:List (Af×V)} {zm:List (Af×Tn)} {S S1:AS} (h:H a=some (.dK kvs)) (hk:kvs.map (·.1)=zm.map (·.1)) (ha:S a) (sub:∀b,S1 b->S b/\b≠a) (r:OwL K G H (kvs.map (·.2)) (zm.map (·.2)) S1):Ow K G H (.ref a) (.dic zm) S
 |obj {a C dx:Addr} {c:Str} {ns:List Str} {us:List V} {ts:List Tn} {S S1:AS} (hc:ClsAt K c C) (h:H a=some (.ins C dx (ns.zip us))) (hl:ns.length=us.length) (ha:S a) (sub:∀b,S1 b->S b/\b≠a) (r:OwL K G H us ts S1):Ow K G H (.ref a) (.obj c ns ts) S
inductive OwL(K:Frag)(G H:Hp):List V->List Tn->AS->Prop where
 |nil {S:AS}:OwL K G H [] [] S
 |cons {v:V} {t:Tn} {vs:List V} {ts:List Tn} {S S1 S2:AS} (h:Ow K G H v t S1) (r:OwL K G H vs ts S2) (dj:∀b,S1 b->S2 b->False) (s1:∀b,S1 b->S b) (s2:∀b,S2 b->S b):OwL K G H (v::vs) (t::ts) S
end
def Same.rdD{H H':Hp}{a:Addr}{u:HO}(e:Same H H')(h:Rd H a u):Rd H' a u:=by
 rcases h with h|⟨o,h⟩
 ·exact .inl (e _ _ h)
 ·exact .inr ⟨o,e _ _ h⟩
def Same.tupS{H H':Hp}{a:Addr}{xs:List V}(e:Same H H')(h:SqT K H a xs):SqT K H' a xs:=by
 rcases h with(h|⟨o,h⟩)|h
 ·exact .inl (.inl (e _ _ h))
 ·exact .inl (.inr ⟨o,e _ _ h⟩)
 ·exact .inr h
mutual
theorem Has.mono{G G':Hp}(e:Same G G'):∀{v:V} {d:D},Has K G v d->Has K G' v d
 |_,_,.non=> .non
 |_,_,.bl b=> .bl b
 |_,_,.int i=> .int i
 |_,_,.str x=> .str x
 |_,_,.lst h r=> .lst (e.seq h) (HasL.mono e r)
 |_,_,.tup h r=> .tup (Same.tupS e h) (HasL.mono e r)
 |_,_,.exn0 hc h=> .exn0 hc (e _ _ h)
 |_,_,.exn1 hc h hd hl r=> .exn1 hc (e _ _ h) (e _ _ hd) hl (HasL.mono e r)
 |_,_,.dic h hk r=> .dic (Same.rdD e h) hk (HasL.mono e r)
 |_,_,.obj hc h hl r=> .obj hc (e _ _ h) hl (HasL.mono e r)
theorem HasL.mono{G G':Hp}(e:Same G G'):∀{vs:List V} {ds:List D},HasL K G vs ds->HasL K G' vs ds
 |_,_,.nil=> .nil
 |_,_,.cons h r=> .cons (Has.mono e h) (HasL.mono e r)
end
theorem HasL.length{G:Hp}:∀{vs:List V} {ds:List D},HasL K G vs ds->vs.length=ds.length
 |_,_,.nil=>rfl
 |_,_,.cons _ r=>by rw[A9,A9,r.length]
theorem HasL.append{G:Hp}:∀{vs ws:List V} {ds es:List D},HasL K G vs ds->HasL K G ws es->HasL K G (vs ++ ws) (ds ++ es)
 |_,_,_,_,.nil,s=>s
 |_,_,_,_,.cons h r,s=> .cons h (r.append s)
theorem HasL.get{G:Hp}:∀{vs:List V} {ds:List D} {i:Nat} {d:D},HasL K G vs ds->ds[i]? =some d->∃v,vs[i]? =some v/\Has K G v d
 |_,_,_,_,.nil,e=>by simp at e
 |_,_,0,_,.cons h _,e=>by simp at e;subst e;exact⟨_,rfl,h⟩
 |_,_,i + 1,d,.cons _ r,e=>by
  obtain⟨u,h1,h2⟩:=HasL.get (i:=i) (d:=d) r (by simpa using e);exact⟨u,by simpa using h1,h2⟩
theorem HasL.take{G:Hp}:∀{vs:List V} {ds:List D} (n:Nat),HasL K G vs ds->HasL K G (vs.take n) (ds.take n)
 |_,_,0,_=> .nil
 |_,_,_ + 1,.nil=> .nil
 |_,_,n + 1,.cons h r=> .cons h (HasL.take n r)
theorem HasL.set{G:Hp}{d:D}(h:Has K G v d):∀{vs:List V} {ds:List D} (i:Nat),HasL K G vs ds->HasL K G (vs.set i v) (ds.set i d)
 |_,_,_,.nil=> .nil
 |_,_,0,.cons _ r=> .cons h r
 |_,_,i + 1,.cons q r=> .cons q (HasL.set h i r)
mutual
theorem Ow.mono{G G' H H':Hp}(e:Same G G'):∀{v:V} {d:Tn} {S S':AS},Ow K G H v d S->(∀b o,S b->H b=some o->H' b=some o)->(∀b,S b->S' b)->Ow K G' H' v d S'
 |_,_,_,_,.sh h,_,_=> .sh (h.mono e)
 |_,_,_,_,.lst h ha sub r,f,i=> .lst (f _ _ ha h) (i _ ha) (λb hb=>⟨i b (sub b hb).1,(sub b hb).2⟩) (OwL.mono e r (λb o hb q=>f b o (sub b hb).1 q) λ_ q=>q)
 |_,_,_,_,.tup h ha sub r,f,i=> .tup (f _ _ ha h) (i _ ha) (λb hb=>⟨i b (sub b hb).1,(sub b hb).2⟩) (OwL.mono e r (λb o hb q=>f b o (sub b hb).1 q) λ_ q=>q)
 |_,_,_,_,.dic h hk ha sub r,f,i=> .dic (f _ _ ha h) hk (i _ ha) (λb hb=>⟨i b (sub b hb).1,(sub b hb).2⟩) (OwL.mono e r (λb o hb q=>f b o (sub b hb).1 q) λ_ q=>q)
 |_,_,_,_,.obj hc h hl ha sub r,f,i=> .obj hc (f _ _ ha h) hl (i _ ha) (λb hb=>⟨i b (sub b hb).1,(sub b hb).2⟩) (OwL.mono e r (λb o hb q=>f b o (sub b hb).1 q) λ_ q=>q)
theorem OwL.mono{G G' H H':Hp}(e:Same G G'):∀{vs:List V} {ds:List Tn} {S S':AS},OwL K G H vs ds S->(∀b o,S b->H b=some o->H' b=some o)->(∀b,S b->S' b)->OwL K G' H' vs ds S'
 |_,_,_,_,.nil,_,_=> .nil
 |_,_,_,_,.cons h r dj s1 s2,f,i=> .cons (Ow.mono e h (λb o hb q=>f b o (s1 b hb) q) λ_ q=>q) (OwL.mono e r (λb o hb q=>f b o (s2 b hb) q) λ_ q=>q) dj (λb q=>i b (s1 b q)) λb q=>i b (s2 b q)
end
mutual
theorem Ow.has{G G' H:Hp}(e:Same G G'):∀{v:V} {d:Tn} {S:AS},Ow K G H v d S->(∀b o,S b->H b=some o->G' b=some o)->Has K G' v d.d
 |_,_,_,.sh h,_=>h.mono e
 |_,_,_,.lst h ha sub r,f=> .lst (SqL.of (f _ _ ha h)) (OwL.has e r λb o hb q=>f b o (sub b hb).1 q)
 |_,_,_,.tup h ha sub r,f=> .tup (SqT.of (f _ _ ha h)) (OwL.has e r λb o hb q=>f b o (sub b hb).1 q)
 |_,_,_,.dic h hk ha sub r,f=> .dic (.inl (f _ _ ha h)) (by rw[Tn.ks_fst];exact hk) (by rw[Tn.ks_snd];exact OwL.has e r λb o hb q=>f b o (sub b hb).1 q)
 |_,_,_,.obj hc h hl ha sub r,f=> .obj hc (f _ _ ha h) hl (OwL.has e r λb o hb q=>f b o (sub b hb).1 q)
theorem OwL.has{G G' H:Hp}(e:Same G G'):∀{vs:List V} {ds:List Tn} {S:AS},OwL K G H vs ds S->(∀b o,S b->H b=some o->G' b=some o)->HasL K G' vs (Tn.ds ds)
 |_,_,_,.nil,_=> .nil
 |_,_,_,.cons h r dj s1 s2,f=> .cons (Ow.has e h λb o hb q=>f b o (s1 b hb) q) (OwL.has e r λb o hb q=>f b o (s2 b hb) q)
end
theorem OwL.of{G H:Hp}:∀{vs:List V} {ds:List D} {S:AS},HasL K G vs ds->OwL K G H vs (ds.map .sh) S
 |_,_,_,.nil=> .nil
 |_,_,_,.cons h r=> .cons (S1:=λ_=>False) (S2:=λ_=>False) (.sh h) (OwL.of r) (λ_ z _=>z) (λ_ z=>z.elim) λ_ z=>z.elim
theorem OwL.off{G H:Hp}:∀{vs:List V} {ds:List D} {S:AS},OwL K G H vs (ds.map .sh) S->HasL K G vs ds
 |_,[],_,h=>by cases h;exact .nil
 |_,d::ds,_,h=>by
  cases h with
  |cons h r dj s1 s2=>
   cases h with
   |sh h=>exact .cons h (OwL.off r)
theorem OwL.length{G H:Hp}:∀{vs:List V} {ds:List Tn} {S:AS},OwL K G H vs ds S->vs.length=ds.length
 |_,_,_,.nil=>rfl
 |_,_,_,.cons _ r _ _ _=>by rw[A9,A9,r.length]
def Ow.list{G H:Hp}{a:Addr}{vs:List V}{ds:List D}{S:AS}(h:H a=some (.lst vs))(ha:S a)(r:HasL K G vs ds):Ow K G H (.ref a) (Tn.of (.lst ds)) S:=
 .lst (S1:=λ_=>False) h ha (λ_ z=>z.elim) (.of r)
def Ow.list_of{G H:Hp}{ds:List D}{S:AS}(t:Ow K G H v (Tn.of (.lst ds)) S):∃a vs,v=.ref a/\S a/\H a=some (.lst vs)/\HasL K G vs ds:=by
 cases t with
 |lst h ha sub r=>exact⟨_,_,rfl,ha,h,r.off⟩
def cn_0(kds:List (Af×D)):(kds.map λp=>(p.1,Tn.sh p.2)).map (·.2)=(kds.map (·.2)).map Tn.sh:=by
 rw[L8,L8];rfl
def bz_0(kds:List (Af×D)):(kds.map λp=>(p.1,Tn.sh p.2)).map (·.1)=kds.map (·.1):=by
 rw[L8];rfl
def Ow.dict{G H:Hp}{a:Addr}{kvs:List (Af×V)}{kds:List (Af×D)}{S:AS}(h:H a=some (.dK kvs))(hk:kvs.map (·.1)=kds.map (·.1))(ha:S a)(r:HasL K G (kvs.map (·.2)) (kds.map (·.2))):Ow K G H (.ref a) (Tn.of (.dic kds)) S:=
 .dic (S1:=λ_=>False) h (by rw[bz_0];exact hk) ha (λ_ z=>z.elim) (by rw[cn_0];exact .of r)
def Ow.dict_of{G H:Hp}{kds:List (Af×D)}{S:AS}(t:Ow K G H v (Tn.of (.dic kds)) S):∃a kvs,v=.ref a/\S a/\H a=some (.dK kvs)/\kvs.map (·.1)=kds.map (·.1)/\HasL K G (kvs.map (·.2)) (kds.map (·.2)):=by
 generalize e:Tn.of (.dic kds)=t' at t;cases t with
 |dic h hk ha sub r=>
  injection e with e
  subst e;rw[cn_0]at r;rw[bz_0]at hk;exact⟨_,_,rfl,ha,h,hk,r.off⟩
 |_=>cases e
structure Step(G H G' H':Hp):Prop where
 hh:Same H H'
 gh:Same G' H'
 gg:Same G G'
 nw:∀b,G b=none->H b≠none->G' b=none
theorem Step.refl{G H:Hp}(h:Same G H):Step G H G H:=⟨Same.refl _,h,Same.refl _,λ_ e _=>e⟩
theorem Step.trans{G H G1 H1 G2 H2:Hp}(a:Step G H G1 H1)(b:Step G1 H1 G2 H2):Step G H G2 H2:=
 ⟨a.hh.trans b.hh,b.gh,a.gg.trans b.gg,λc e n=>b.nw c (a.nw c e n) λz=>n (a.hh.free z)⟩
def j_4{p:Addr}(h:H p=none)(o:HO):Same H (upd H p o):=λb u q=>by rw[Ao (Et q h)];exact q
def s_5{G H:Hp}(h:Same G H)(p:Addr)(o:HO):Same (upd G p o) (upd H p o):=λb u q=>by
 by_cases e:b=p
 ·subst e;rw[Bk]at q⊢;exact q
 ·rw[Ao e]at q⊢;exact h b u q
def Step.new{G H:Hp}(h:Same G H){p:Addr}(e:H p=none)(o:HO):Step G H (L2.upd G p o) (L2.upd H p o):=
 ⟨j_4 e o,s_5 h p o,j_4 (h.free e) o,λb n z=>by
  by_cases q:b=p
  ·subst q;exact absurd e z
  ·rw[Ao q];exact n⟩
def Step.own{G H:Hp}(h:Same G H){p:Addr}(e:H p=none)(o:HO):Step G H G (L2.upd H p o):=
 ⟨j_4 e o,h.trans (j_4 e o),Same.refl _,λ_ n _=>n⟩
open Classical in
def Do(G H:Hp)(S:AS):Hp:=λb=>if S b then H b else G b
def WP(K:Frag)(G H:Hp)(w:W)(Q:VK):Prop:=match w with
 | .sh d=>∀v G' H',Step G H G' H'->Has K G' v d->Q v H'
 | .ow d=>∀v S G' H',Step G H G' H'->(∀a,S a->H a=none/\G' a=none/\H' a≠none)->Ow K G' H' v (Tn.of d) S->Q v H'
 | .tr t=>∀v S G' H',Step G H G' H'->(∀a,S a->H a=none/\G' a=none/\H' a≠none)->Ow K G' H' v t S->Q v H'
structure EXT where
 p:Xn->Hp->Hp->Prop
 mono:∀x G H G' H',Step G H G' H'->p x G H->p x G' H'
def EX0:EXT:=⟨λ_ _ _=>False,λ_ _ _ _ _ _ h=>h⟩
abbrev Az:=Sg->EXT
def Bt:Az:=λ_=>EX0
def Out(K:Frag)(EX:EXT)(G H:Hp)(r:R W)(Q:VK):Prop:=match r with
 | .ok w=>WP K G H w Q
 | .ex x=>EX.p x G H
 | .no=>False
section
variable{K:Frag}{EX:EXT}{G H G' H':Hp}{Q Q':VK}{w:W}
def WP.mono(s:Step G H G' H')(h:WP K G H w Q):WP K G' H' w Q:=by
 cases w with
 |sh d=>exact λv G2 H2 s2 r=>h v G2 H2 (s.trans s2) r
 |ow d=>exact λv S G2 H2 s2 fr t=>h v S G2 H2 (s.trans s2) (λa ha=>⟨s.hh.free (fr a ha).1,(fr a ha).2⟩) t
 |tr d=>exact λv S G2 H2 s2 fr t=>h v S G2 H2 (s.trans s2) (λa ha=>⟨s.hh.free (fr a ha).1,(fr a ha).2⟩) t
theorem Out.mono{r:R W}(s:Step G H G' H')(h:Out K EX G H r Q):Out K EX G' H' r Q:=by
 cases r with
 |ok w=>exact WP.mono s h
 |ex x=>exact EX.mono _ _ _ _ _ s h
 |no=>exact h
def WP.join{t:Tn}{S:AS}(h:∀v G' H',Step G H G' H'->Has K G' v t.d->Q v H')(s:Step G H G' H')(fr:∀a,S a->H a=none/\G' a=none/\H' a≠none)(t:Ow K G' H' v t S):Q v H':=by
 have sg:Same G' (Do G' H' S):=λb o q=>by
  unfold Do
  split
  ·rename_i hb;rw[(fr b hb).2.1]at q;cases q
  ·exact q
 refine h v (Do G' H' S) H' ⟨s.hh,λb o q=> ?_,s.gg.trans sg,λb n z=> ?_⟩ (t.has sg λb o hb q=> ?_)
 ·unfold Do at q
  split at q
  ·exact q
  ·exact s.gh b o q
 ·unfold Do
  split
  ·rename_i hb;exact absurd (fr b hb).1 z
  ·exact s.nw b n z
 ·unfold Do;rw[if_pos hb];exact q
def WP.intro(h:∀v G' H',Step G H G' H'->Has K G' v w.d->Q v H'):WP K G H w Q:=by
 cases w with
 |sh d=>exact h
 |ow d=>exact λv S G' H' s fr t=>WP.join (t:=Tn.of d) (by rw[Tn.of_d];exact h) s fr t
 |tr d=>exact λv S G' H' s fr t=>WP.join h s fr t
theorem WP.sh(h:WP K G H (.sh w.d) Q):WP K G H w Q:=WP.intro h
def WP.use{d:D}(h:WP K G H (.sh d) Q)(s:Same G H)(r:Has K G v d):Q v H:=h v G H (Step.refl s) r
end
inductive ExcAt(K:Frag)(G:Hp):Value->Option Addr->Xn->Prop where
 |bare {C:Addr} {c:Str} (hc:ClsAt K c C):ExcAt K G (.ref C) none ⟨c,[],[]⟩
 |with_ {C d:Addr} {c:Str} {ns:List Str} {us:List V} {vs:List D} (hc:ClsAt K c C) (hd:G d=some (.xd (ns.zip us))) (hl:ns.length=us.length) (r:HasL K G us vs):ExcAt K G (.ref C) (some d) ⟨c,ns,vs⟩
def EXof(K:Frag)(E:XK):EXT:=⟨λx G H=>∀cls dx G' H',Step G H G' H'->ExcAt K G' cls dx x->E cls dx H',λ_ _ _ _ _ s h cls dx G2 H2 s2=>h cls dx G2 H2 (s.trans s2)⟩
def EXE(K:Frag)(EX:EXT):XK:=λcls dx H=>∃x G,Same G H/\ExcAt K G cls dx x/\EX.p x G H
def EXE.of{E:XK}{cls:Value}{dx:Option Addr}(h:EXE K (EXof K E) cls dx H):E cls dx H:=by
 obtain⟨x,G,s,e,q⟩:=h;exact q cls dx G H (Step.refl s) e
def EXof.in{EX:EXT}{G H:Hp}{x:Xn}(q:EX.p x G H):(EXof K (EXE K EX)).p x G H:=λ_ _ G' H' st e=>⟨x,G',st.gh,e,EX.mono _ _ _ _ _ st q⟩
abbrev DE:=List (Option D)
abbrev FE:=DE->R W
abbrev FT:=DE->R Bool
abbrev FA:=DE->R (List D)
structure HasS(K:Frag)(G:Hp)(σ:Sg)(δ:DE):Prop where
 len:σ.length=δ.length
 get:∀(i:Nat) (d:D),δ[i]? =some (some d)->∃v,σ[i]? =some (some v)/\Has K G v d
theorem HasS.mono{G G':Hp}{σ:Sg}{δ:DE}(e:Same G G')(h:HasS K G σ δ):HasS K G' σ δ:=⟨h.len,λi d q=>by
 obtain⟨v,e1,r⟩:=h.get i d q;exact⟨v,e1,r.mono e⟩⟩
def tD(K:Frag)(EX:Az)(f:FE):TE:=λ σ H Q=>∃G δ,Same G H/\HasS K G σ δ/\Out K (EX σ) G H (f δ) Q
def tDt(K:Frag)(EX:Az)(f:FT):TT:=λ σ H Q=>∃G δ,Same G H/\HasS K G σ δ/\match f δ with
 | .ok b=>∀G' H',Step G H G' H'->Q b H'
 | .ex x=>(EX σ).p x G H
 | .no=>False
def tDa(K:Frag)(EX:Az)(f:FA):TA:=λ σ H Q=>∃G δ,Same G H/\HasS K G σ δ/\match f δ with
 | .ok ds=>∀vs G' H',Step G H G' H'->HasL K G' vs ds->Q vs H'
 | .ex x=>(EX σ).p x G H
 | .no=>False
abbrev ED(X:Cx)(EX:Az)(e:Expr)(f:FE):Prop:=PE X e (tD X.K EX f)
abbrev TD(X:Cx)(EX:Az)(e:Expr)(f:FT):Prop:=PT X e (tDt X.K EX f)
abbrev AD(X:Cx)(EX:Az)(es:List Expr)(f:FA):Prop:=PA X es (tDa X.K EX f)
def PE.imp{e:Expr}{t t':TE}(h:PE X e t)(i:∀σ H Q,t' σ H Q->t σ H Q):PE X e t':=λzd s σ H Q I q=>h zd s σ H Q I (i σ H Q q)
def PT.imp{e:Expr}{t t':TT}(h:PT X e t)(i:∀σ H Q,t' σ H Q->t σ H Q):PT X e t':=λzd s σ H Q I q=>h zd s σ H Q I (i σ H Q q)
def PW.imp{e:Expr}{t t':TT}(h:PW X e t)(i:∀σ H Q,t' σ H Q->t σ H Q):PW X e t':=λwh zd s σ H Q I q=>h wh zd s σ H Q I (i σ H Q q)
def PA.imp{e:List Expr}{t t':TA}(h:PA X e t)(i:∀σ H Q,t' σ H Q->t σ H Q):PA X e t':=λpos zd s σ H Q I q=>h pos zd s σ H Q I (i σ H Q q)
def PS.imp{e:Stmt}{t t':TS}(h:PS X e t)(i:∀D σ H,t' D σ H->t D σ H):PS X e t':=λzd s σ H D I q=>h zd s σ H D I (i D σ H q)
def PSs.imp{e:List Stmt}{t t':TS}(h:PSs X e t)(i:∀D σ H,t' D σ H->t D σ H):PSs X e t':=λzd s σ H D I q=>h zd s σ H D I (i D σ H q)
section
variable{K:Frag}{EX:Az}{G H:Hp}{σ:Sg}{δ:DE}{Q:VK}
def tD.seq{f:FE}{k:W->R W}{P:VK}(g:Same G H)(s:HasS K G σ δ)(h:Out K (EX σ) G H ((f δ).bind k) Q)
  (i:∀w v G' H',f δ=.ok w->Step G H G' H'->Has K G' v w.d->Out K (EX σ) G' H' (k w) Q->P v H'):tD K EX f σ H P:=by
 refine⟨G,δ,g,s, ?_⟩;cases e:f δ with
 |ok w=>
  rw[e]at h;exact WP.intro λv G' H' st r=>i w v G' H' e st r (Out.mono st h)
 |ex x=>rw[e]at h;exact h
 |no=>rw[e]at h;exact h
def tDt.seq{f:FT}{k:Bool->R W}{P:Bool->Hp->Prop}(g:Same G H)(s:HasS K G σ δ)(h:Out K (EX σ) G H ((f δ).bind k) Q)
  (i:∀b G' H',f δ=.ok b->Step G H G' H'->Out K (EX σ) G' H' (k b) Q->P b H'):tDt K EX f σ H P:=by
 refine⟨G,δ,g,s, ?_⟩;cases e:f δ with
 |ok w=>
  rw[e]at h;exact λG' H' st=>i w G' H' e st (Out.mono st h)
 |ex x=>rw[e]at h;exact h
 |no=>rw[e]at h;exact h
abbrev AF:=List D->R W
def tDa.seq{f:FA}{k:AF}{P:List V->Hp->Prop}(g:Same G H)(s:HasS K G σ δ)(h:Out K (EX σ) G H ((f δ).bind k) Q)
  (i:∀ds vs G' H',f δ=.ok ds->Step G H G' H'->HasL K G' vs ds->Out K (EX σ) G' H' (k ds) Q->P vs H'):tDa K EX f σ H P:=by
 refine⟨G,δ,g,s, ?_⟩;cases e:f δ with
 |ok w=>
  rw[e]at h;exact λvs G' H' st r=>i w vs G' H' e st r (Out.mono st h)
 |ex x=>rw[e]at h;exact h
 |no=>rw[e]at h;exact h
end
def ac_5{EX:EXT}{G H:Hp}{Q:VK}{ds:List D}{vs:List V}(o:Out K EX G H (.ok (.ow (.lst ds))) Q)(g:Same G H)(r:HasL K G vs ds):∀p,H p=none->Q (.ref p) (upd H p (.lst vs)):=
 λp hp=>o (.ref p) (λb=>b=p) G _ (Step.own g hp _) (λa e=>by subst e;exact⟨hp,g.free hp,by rw[Bk];simp⟩) (.list Bk rfl r)
end L3
namespace L3
open PySem PySem.Spec PyProof.Rows L2
variable{K:Frag}{fd:FuncData}{mg:AB}{us:List Value}{base:Heap}{H:Hp}{X:Cx}{pos:Pos}{v:V}
def HdOk(A:Around)(h:Heap):Prop:=A.handled=none\/∃(x:Addr) (o:Obj) (us:Array Value),A.handled=some (.ref x)/\h.get? x=some o/\o.data=.fields us/\us[2]? =some .none
def HdOk.kept{A:Around}{h h':Heap}(z:HdOk A h)(k:∀(x:Addr) (o:Obj),A.handled=some (.ref x)->h.get? x=some o->h'.get? x=some o):HdOk A h':=by
 rcases z with z|⟨x,o,us,e,g,r⟩
 ·exact .inl z
 ·exact .inr ⟨x,o,us,e,k x o e g,r⟩
section
variable{prog:Program}{w:World}{A:Around}{E:AA}{s:Shared}
end
structure Tr(h:Heap)(a C:Addr)(dx:Option Addr)(fl:Value)(T:Addr):Prop where
 ob:∃o us,h.get? a=some o/\o.cls=.ref C/\o.dict=dx/\o.data=.fields us/\us[1]? =some (.ref T)/\us[2]? =some .none
 ne:T≠a
 tb:∃o us,h.get? T=some o/\o.data=.fields us/\us[3]? =some fl
structure KeepX(xs fr:List Addr)(h h':Heap):Prop where
 same:∀b o,b∉xs->b∉fr->h.get? b=some o->h'.get? b=some o
 slot:∀b o,b∉xs->h.get? b=some o->∃sl,h'.get? b=some {o with slots:=sl}
def KeepX.trans{xs ys fr:List Addr}{h1 h2 h3:Heap}(a:KeepX xs fr h1 h2)(b:KeepX ys fr h2 h3):KeepX (xs ++ ys) fr h1 h3:=
 ⟨λc o n m e=>b.same c o (λz=>n (B6 _ z)) m (a.same c o (λz=>n (E8 _ z)) m e),λc o n e=>by
  obtain⟨sl,e1⟩:=a.slot c o (λz=>n (E8 _ z)) e;obtain⟨sl',e2⟩:=b.slot c _ (λz=>n (B6 _ z)) e1;exact⟨sl',e2⟩⟩
def KeepX.of_same{xs fr:List Addr}{h h':Heap}(k:∀b o,b∉xs->h.get? b=some o->h'.get? b=some o):KeepX xs fr h h':=
 ⟨λb o n _ e=>k b o n e,λb o n e=>⟨o.slots,k b o n e⟩⟩
def cn_1(o:Obj)(f:Array Value->Array Value):(o.mapFields f).dict=o.dict:=by
 obtain⟨c,d,dt,sl⟩:=o;cases dt <;> rfl
section
variable{M:Model}{A:Around}{E:AA}{s:Shared}{env:Env}{outer:List Env}{base:Heap}{L a C:Addr}{dx:Option Addr}{Q:Unit->Shared->Prop}
def bz_1{o:Obj}{us:Array Value}{head:Value}{b:Bool}(hfr:A.frames=some (env::outer))(hl:s.heap.FunFrames base (env::outer))(hf:env.frame=some L)
  (he:s.heap.get? a=some o) (hc:o.cls=.ref C) (hx:o.dict=dx) (hd:o.data=.fields us) (hz:1 < us.size) (c2:us[2]? =some .none)
  (h:∀h' T,s.heap.objs.size<=T->KeepX [a] (frs (env::outer)) s.heap h'->Tr h' a C dx (rawInt L) T->Q .unit {s with heap:=h'}):
  wpAny M A (do let fv<-frameOf env;let pl<-entryPlaceOf L b;let en<-EntryCells.newEntry head fv .none (rawInt L) .none pl;setField (.ref a) 1 en) Q E s:=by
 have nfr:a∉frs (env::outer):=λhm=>by
  obtain⟨_,u,hu,hn⟩:=hl.mem hm;rw[he]at hu;cases hu;exact hn us hd
 refine A7 (wpAny_frameOf_fun hfr hl hf λh1 so=> ?_);refine A7 (wpAny_entryPlaceOf λpl hpl=> ?_);unfold EntryCells.newEntry newFields;refine A7 (Y0 ?_ (hpl.sizeOk5 _ _ _ _ _));have e1:h1.get? a=some o:=(so.2.1 a nfr).trans he;generalize hT:({cls:=.type "traceback",dict:=none,data:=.fields ([head,.ref L,.none,rawInt L,.none] ++ (if pl.isEmpty then List.replicate 6 Value.none else pl)).toArray}:Obj)=oT;have eT:oT.data=.fields ([head,.ref L,.none,rawInt L,.none] ++ (if pl.isEmpty then List.replicate 6 Value.none else pl)).toArray:=by rw[<-hT]
 have e2:(h1.push oT).get? a=some o:=A4 oT e1;refine ZB0 e2 hd hz ?_;have sz:h1.objs.size=s.heap.objs.size:=so.1;have ltA:a < s.heap.objs.size:=A5 he;have neT:h1.objs.size≠a:=λz=>absurd ltA (by rw[<-z,sz];exact F4 _);have d3:=X4 hd (·.setIfInBounds 1 (Value.ref h1.objs.size));refine h _ h1.objs.size (by rw[sz];exact B5 _) ⟨λb u n m e=> ?_,λb u n e=> ?_⟩ ⟨⟨_,_,R4 _ e2 (V0 d3),(Obj.cls_mapFields _ _).trans hc,(cn_1 _ _).trans hx,d3, ?_, ?_⟩,neT,⟨oT,_, ?_,eT, ?_⟩⟩
 ·have nb:a≠b:=λz=>n (by simp[z]);rw[K2 _ _ nb];exact A4 oT ((so.2.1 b m).trans e)
 ·have nb:a≠b:=λz=>n (by simp[z]);obtain⟨sl,es⟩:=so.2.2 b u e;exact⟨sl,by rw[K2 _ _ nb];exact A4 oT es⟩
 ·simp[hz]
 ·rw[<-c2];simp
 ·rw[K2 _ _ (Ne.symm neT)];exact B8 h1 (V0 eT)
 ·first|(simp;done)|(rcases hpl with rfl|⟨_,_,_,_,_,_,_,rfl⟩ <;> simp)
def bu_8{o:Obj}{us:Array Value}(hfr:A.frames=some (env::outer))(hl:s.heap.FunFrames base (env::outer))(hf:env.frame=some L)
  (he:s.heap.get? a=some o) (hc:o.cls=.ref C) (hx:o.dict=dx) (hd:o.data=.fields us) (h1:us[1]? =some .none) (c2:us[2]? =some .none)
  (h:∀h' T,s.heap.objs.size<=T->KeepX [a] (frs (env::outer)) s.heap h'->Tr h' a C dx (rawInt L) T->Q .unit {s with heap:=h'}):wpAny M A (noteFrame (.ref a) env) Q E s:=by
 unfold noteFrame;simp only[hf];refine A7 (ZB1 he hd h1 ?_);rw[if_neg ⋯];exact bz_1 hfr hl hf he hc hx hd (O5.mp h1).1 c2 h
def bc_0{T0:Addr}(hfr:A.frames=some (env::outer))(hl:s.heap.FunFrames base (env::outer))(hf:env.frame=some L)(t:Tr s.heap a C dx .none T0)
  (h:∀h' T,s.heap.objs.size<=T->KeepX [a,T0] (frs (env::outer)) s.heap h'->Tr h' a C dx (rawInt L) T->Q .unit {s with heap:=h'}):wpAny M A (noteFrame (.ref a) env) Q E s:=by
 obtain⟨⟨o,us,he,hc,hx,hd,h1,c2⟩,ne,⟨oT,ws,hT,hdT,h3⟩⟩:=t;unfold noteFrame;simp only[hf];refine A7 (ZB1 he hd h1 ?_);rw[if_pos (show(Value.ref T0 != Value.none)=true from by simp)];refine A7 (ZB1 hT hdT h3 ?_);rw[if_neg (show¬((Value.none ==rawInt L)=true) from by simp[rawInt])];refine A7 (ZB0 hT hdT (O5.mp h3).1 ?_);have oth:∀b,b≠T0->(s.heap.update T0 (Obj.mapFields (·.setIfInBounds 3 Value.none))).get? b=s.heap.get? b:=λb hb=>K2 _ _ (Ne.symm hb);have dn:∀b u,s.heap.get? b=some u->(∀zs,u.data≠ .fields zs)->b≠T0:=λb u hb hn q=>by
  subst q;rw[hT]at hb;cases hb;exact hn ws hdT
 refine bz_1 (s:={s with heap:=s.heap.update T0 (Obj.mapFields (·.setIfInBounds 3 Value.none))}) hfr (hl.of_keeps λb u hb hn=>⟨u,(oth b (dn b u hb hn)).trans hb,rfl⟩) hf ((oth a (Ne.symm ne)).trans he) hc hx hd (O5.mp h1).1 c2 λh' T n k tr=>h h' T ?_ ?_ tr
 ·have zz:(s.heap.update T0 (Obj.mapFields (·.setIfInBounds 3 Value.none))).objs.size=s.heap.objs.size:=Heap.size_update _ _ _;rw[<-zz];exact n
 ·have na:∀b,b∉ [a,T0]->b∉ [a]:=λb nb z=>nb (by rw[C9.mp z];exact C8);have nT:∀b,b∉ [a,T0]->b≠T0:=λb nb z=>nb (by rw[z];simp);exact⟨λb u nb m e=>k.same b u (na b nb) m ((oth b (nT b nb)).trans e),λb u nb e=>k.slot b u (na b nb) ((oth b (nT b nb)).trans e)⟩
def u_3{T:Addr}{fl:Value}(t:Tr s.heap a C dx fl T)(h:∀h',(∀b o,b∉ [T]->s.heap.get? b=some o->h'.get? b=some o)->Tr h' a C dx .none T->Q .unit {s with heap:=h'}):wpAny M A (setFlight (.ref a) none) Q E s:=by
 obtain⟨⟨o,us,he,hc,hx,hd,h1,c2⟩,ne,⟨oT,ws,hT,hdT,h3⟩⟩:=t;have sz3:3 < ws.size:=(O5.mp h3).1;unfold setFlight;refine A7 (ZB1 he hd h1 ?_);rw[if_pos (show(Value.ref T != Value.none)=true from by simp)];refine ZB0 hT hdT sz3 (h _ (λb u n e=> ?_) ⟨⟨o,us, ?_,hc,hx,hd,h1,c2⟩,ne,⟨_,_,R4 _ hT (V0 (X4 hdT _)),X4 hdT _, ?_⟩⟩)
 ·rw[K2 _ _ (λz=>n (by simp[z]))];exact e
 ·rw[K2 _ _ ne];exact he
 ·simp[sz3]
end
def CXr(P:Program)(w:World):CXT:=λouter H s E e s'=>∃a C dx T H',e=.ref a/\s'.os=s.os/\AllBare s'.gens/\Un (frs outer) [] H H' s.heap s'.heap/\HOk P w H' s'.heap/\
 Tr s'.heap a C dx .none T/\H' a=none/\H' T=none/\s.heap.objs.size<=a/\s.heap.objs.size<=T/\E (.ref C) dx H'
section
variable{X:Cx}{zd:AE}{σ:Sg}{H H':Hp}{s s':Shared}
def Inv.settle{ch:List Addr}{h2:Heap}(I:Inv X zd σ H s)(I':Inv X zd σ H' s')(n:∀b∈ch,s.heap.objs.size<=b/\H' b=none)(k:KeepX ch (frs X.stack) s'.heap h2):Inv X zd σ H' {s' with heap:=h2}:=by
 have trk:∀b u,H' b=some u->b∉ch/\b∉frs X.stack:=λb u e=>⟨λz=>(by rw[(n b z).2]at e;cases e),λz=>(by rw[I'.stkFree b z]at e;cases e)⟩;refine I'.step (g':=s'.gens) (d':=s'.drawn) (t':=s'.toks) (ch:=ch) (λb hb=> ?_) (λb o h1 h2 h3 e _=>k.same b o h3 (λz=> ?_) e) (λb o _ _ h3 e _=>k.slot b o h3 e) (λ_ _ _ _ z=>z) (λb o h3 e=> ?_) (λ_ _ z=>z) (λ_ _ _ z=>z) (λb ps z=>⟨#[],by rw[z];simp⟩) (λm hm=> ?_) (λb u e=> ?_) I'.bare
 ·have lb:=(n b hb).1;refine⟨.inr (D4 I.sz lb),λz=> ?_,λx c e z=> ?_,λp hp z=> ?_⟩
  ·exact absurd (C5 I.lt lb) (by rw[z];exact F4 _)
  ·obtain⟨v,hv⟩:=I.cell x c e;exact absurd (C5 hv.lt lb) (by rw[z];exact F4 _)
  ·exact absurd (C5 (A5 (I.pin p hp).1) lb) (by rw[z];exact F4 _)
 ·rcases C6.mp (I'.stkSub b z) with z|z
  ·exact h1 z
  ·exact h2 z
 ·obtain⟨sl,q⟩:=k.slot b o h3 e;exact⟨_,q⟩
 ·obtain⟨o,es,ep,ho,r⟩:=hm;have nl:X.env.locals∉ch:=λz=>absurd (C5 I.lt (n _ z).1) (F4 _);obtain⟨sl,q⟩:=k.slot _ o nl ho;exact⟨_,es,ep,q,r⟩
 ·refine(I'.hok b u e).stay (λc v hc q=> ?_) (λ_ z=>z) λ_ _ z=>z;rcases hc with rfl|hc
  ·exact k.same c v (trk c u e).1 (trk c u e).2 q
  ·exact k.same c v (trk c _ hc).1 (trk c _ hc).2 q
def Inv.raised{E:XK}{e:Value}(I:Inv X zd σ H s)(c:CXr X.prog X.w X.stack H s E e s'):∃a C dx T H',e=.ref a/\Inv X zd σ H' s'/\Tr s'.heap a C dx .none T/\H' a=none/\H' T=none/\s.heap.objs.size<=a/\s.heap.objs.size<=T/\E (.ref C) dx H':=by
 obtain⟨a,C,dx,T,H',e1,os,br,un,hok,tr,n1,n2,z1,z2,q⟩:=c;exact⟨a,C,dx,T,H',e1,I.call' (ch:=[]) os un hok br (λb z=>absurd z (by simp)),tr,n1,n2,z1,z2,q⟩
end
section
variable{cm:Bool}{P:Program}{w:World}{K:Frag}{mg:AB}{base:Heap}{N:List Str}{qual:Str}{scope:Scope}{f:Addr}{cd:Value}{A:Around}{outer:List Env}{s0:Shared}{H0:Hp}{E E':XK}
def cg_4{zd:AE}{σ:Sg}{s s':Shared}{e:Value}(I:Inv ({Fe (CXr P w) P w K mg base N qual scope f cd A outer s0 H0 E with calm:=cm}:Cx) zd σ H s)
  (c:CXr P w ({Fe (CXr P w) P w K mg base N qual scope f cd A outer s0 H0 E with calm:=cm}:Cx).stack H s E' e s') (i:∀cls dx H',E' cls dx H'->E cls dx H'):({Fe (CXr P w) P w K mg base N qual scope f cd A outer s0 H0 E with calm:=cm}:Cx).xe e s':=by
 obtain⟨a,C,dx,T,H',rfl,I',tr,n1,n2,z1,z2,q⟩:=Inv.raised I c;show wpAny (model P w) _ (leaving _ _) _ _ s';unfold leaving;refine A7 (bc_0 I'.ok.frames I'.stack rfl tr λh1 T2 z3 k1 t1=> ?_);refine u_3 t1 λh2 k2 t2=> ?_;have zT2:H' T2=none:=I'.hok.fresh z3;have J:Inv ({Fe (CXr P w) P w K mg base N qual scope f cd A outer s0 H0 E with calm:=cm}:Cx) zd σ H' {s' with heap:=h2}:=by
  refine Inv.settle (ch:=[a,T] ++ [T2]) I I' (λb hb=> ?_) (k1.trans (KeepX.of_same k2));have:b=a\/b=T\/b=T2:=by simpa using hb
  rcases this with rfl|rfl|rfl
  ·exact⟨z1,n1⟩
  ·exact⟨z2,n2⟩
  ·exact⟨D4 (D4 (B5 _) z1) (D4 (P0 (A5 tr.ob.choose_spec.choose_spec.1)) z3),zT2⟩
 exact⟨a,C,dx,T2,H',rfl,J.os,J.bare,J.base,J.hok,t2,n1,zT2,D4 I.sz z1,D4 I'.sz z3,i _ _ _ q⟩
def bg_5{zd:AE}{σ:Sg}{H H':Hp}{s s':Shared}{a C:Addr}{dx:Option Addr}{o:Obj}{us:Array Value}(I:Inv ({Fe (CXr P w) P w K mg base N qual scope f cd A outer s0 H0 E with calm:=cm}:Cx) zd σ H s)
  (I':Inv ({Fe (CXr P w) P w K mg base N qual scope f cd A outer s0 H0 E with calm:=cm}:Cx) zd σ H' s') (he:s'.heap.get? a=some o) (hc:o.cls=.ref C) (hx:o.dict=dx) (hd:o.data=.fields us) (h1:us[1]? =some .none) (c2:us[2]? =some .none) (n1:H' a=none) (z1:s.heap.objs.size<=a) (q:E (.ref C) dx H'):
  ({Fe (CXr P w) P w K mg base N qual scope f cd A outer s0 H0 E with calm:=cm}:Cx).xe (.ref a) s':=by
 show wpAny (model P w) _ (leaving _ _) _ _ s';unfold leaving;refine A7 (bu_8 I'.ok.frames I'.stack rfl he hc hx hd h1 c2 λh1 T2 z3 k1 t1=> ?_);refine u_3 t1 λh2 k2 t2=> ?_;have zT2:H' T2=none:=I'.hok.fresh z3;have J:Inv ({Fe (CXr P w) P w K mg base N qual scope f cd A outer s0 H0 E with calm:=cm}:Cx) zd σ H' {s' with heap:=h2}:=by
  refine Inv.settle (ch:=[a] ++ [T2]) I I' (λb hb=> ?_) (k1.trans (KeepX.of_same k2));have:b=a\/b=T2:=by simpa using hb
  rcases this with rfl|rfl
  ·exact⟨z1,n1⟩
  ·exact⟨D4 z1 (D4 (P0 (A5 he)) z3),zT2⟩
 exact⟨a,C,dx,T2,H',rfl,J.os,J.bare,J.base,J.hok,t2,n1,zT2,D4 I.sz z1,D4 I'.sz z3,q⟩
end
section
variable{prog:Program}{w:World}{A:Around}{E:AA}{h:Heap}{g:Array GenState}{d:Drawn}{t:Nat}{os:OsState}
variable{nm q:Str}{C N:Addr}{bs bm bmB:List Value}{ax:Bool}{sn:List Str}{sub:List Value}{ab:Bool}{col:Option Bool}{dd:Option Addr}{k0 k1 k2 k3 k5:Option Value}{B newId ah:String}
def cg_5(FB:ExcBaseFacts B newId ah bmB)(T:OwnTail h bmB bm){mN:AB}{fI:Addr}{oI:Obj}{Q:PySem.Fin->Shared->Prop}
  (hC:h.get? C=some (excClassObj nm q C N bs bm ax sn sub ab col dd k0 k1 k2 k3 k5 newId)) (hn:h.Ns N mN) (hi:mN "__init__" =some (.ref fI)) (ho:h.get? fI=some oI) (hf:oI.cls=.type "function")
  (z:∀h' e,Heap.MadeExcOf h h' e (.ref C) us->h.objs.size<=e->wpAny (model prog w) A (call (.ref fI) (.ref e::us)) (λr s'=>r=.none/\Q (.done (.ret (.ref e))) s') E ⟨h',g,d,t,os⟩) (hu:us.length<=sizeLine):
  wpAny (model prog w) A (Builtin.«type.__call__» ⟨.ref C::us,[]⟩) Q E ⟨h,g,d,t,os⟩:=by
 wp_walk using N3 hC,wpAny_madeBy_exc hC
 refine X8 (T6 _ FB.quiet) (wpAny_check_new_subT FB T hC ?_);refine codeAny_exc_new_subT FB T hC ?_ hu;show wpAny _ _ _ _ _ _;generalize e1:({cls:=.type "tuple",data:=.seq us.toArray}:Obj)=o1;generalize e2:({cls:=.ref C,data:=.fields #[.ref h.objs.size,.none,.none,.none,.bool false,.none]}:Obj)=o2;have up:∀b o,h.get? b=some o->((h.push o1).push o2).get? b=some o:=λb o e=>A4 _ (A4 _ e);have ge:((h.push o1).push o2).get? (h.objs.size + 1)=some o2:=by
  have:=B8 (h.push o1) (o:=o2) (by rw[<-e2];rfl)
  rwa[N2]at this
 have gt:((h.push o1).push o2).get? h.objs.size=some o1:=A4 _ (B8 h (by rw[<-e1];rfl));have hC1:=up _ _ hC;have hn1:((h.push o1).push o2).Ns N mN:=hn.keeps up;have cl:o2.cls=.ref C:=by rw[<-e2]
 have hcC:List.contains (Value.ref C::bm) (.ref C)=true:=R5.mpr (.head _);unfold isInstance
 repeat (first|(with_reducible refine N3 ge ?_;rw[cl])|(with_reducible refine W7 hC1 ?_;rw[hcC])|wp_step)
 change wpAny _ _ (mroOf (.ref C) >>=λl=>lookupAlong l _) _ _ _;refine A7 (wpAny_mroOf_exc hC1 ?_);rw[lookupAlong_cons];refine A7 (wpAny_classOwn_exc hC1 hn1 ?_);rw[hi];refine F0 (V8 (A7 ?_));unfold bindSpecial;refine A7 (wpAny_typeOf (T:= "function") ⟨_,up _ _ ho,hf⟩ ?_);rw[if_pos ⋯];refine F0 (A7 (F3 (z _ (h.objs.size + 1) ⟨up,P1 (M7 _),h.objs.size,by rw[e2];exact ge,P1 (B5 _),by rw[e1];exact gt⟩ (M7 _)) (λr s' hr=> ?_) λ_ _ x=>x));obtain⟨rfl,hQ⟩:=hr
 wp_walk
 exact hQ
def cn_2(FB:ExcBaseFacts B newId ah bmB)(T:OwnTail h bmB bm){mN:AB}{fI:Addr}{oI:Obj}{Q:AA}
  (hC:h.get? C=some (excClassObj nm q C N bs bm ax sn sub ab col dd k0 k1 k2 k3 k5 newId)) (hn:h.Ns N mN) (hi:mN "__init__" =some (.ref fI)) (ho:h.get? fI=some oI) (hf:oI.cls=.type "function")
  (z:∀h' e,Heap.MadeExcOf h h' e (.ref C) us->h.objs.size<=e->wpAny (model prog w) (A.under (.builtin "type.__call__" ⟨.ref C::us,[]⟩)) (call (.ref fI) (.ref e::us)) (λr s'=>r=.none/\Q (.ref e) s') E ⟨h',g,d,t,os⟩) (hu:us.length<=sizeLine):
  wpAny (model prog w) A (call (.ref C) us) Q E ⟨h,g,d,t,os⟩:=by
 have f1:=tc_lookup;have f2:=tc_bind (.ref C);have Dk:Shared.TypeIs ⟨h,g,d,t,os⟩ (.ref C) "type" :=⟨_,hC,rfl⟩;refine V5 (codeAny_of_tree (?_:wpAny _ _ (callAny (.ref C) _) _ _ _))
 wp_walk using N3 hC
 refine⟨rfl, ?_⟩;exact Y7 (T6 _ nofun) entry_typeCall (X9 hC (cg_5 FB T hC hn hi ho hf (λh' e hm hz=>z h' e hm hz) hu))
def bc_1{M:Model}{env:Env}{s:Shared}{x:Sem Value}{Q:Flow->Shared->Prop}(hb:bm.contains (.type "BaseException")=true)(hh:A.handled=none)
  (z:wpAny M A x (λv s1=>∃e t dx,v=.ref e/\s1.heap.get? C=some (excClassObj nm q C N bs bm ax sn sub ab col dd k0 k1 k2 k3 k5 newId)/\
   s1.heap.get? e=some {cls:=.ref C,dict:=dx,data:=.fields #[.ref t,.none,.none,.none,.bool false,.none]}/\E (.ref e) s1) E s):wpAny M A (raiseStmt env (some x) none) Q E s:=by
 have hcB:(Value.ref C::bm).contains (.type "BaseException")=true:=by rw[M4,hb,ZB7]
 unfold raiseStmt;refine A7 (F3 z (λv s1 z1=> ?_) λ_ _ y=>y);obtain⟨e,t,dx,rfl,hC,he,hE⟩:=z1;obtain⟨hp,g,d,tk,os⟩:=s1
 repeat (first|with_reducible refine N3 he ?_|with_reducible refine N3 hC ?_|(with_reducible refine W7 hC ?_;rw[hcB])|wp_step)
 exact wpAny_raiseNew_none hh hE
end
section
variable{X:Cx}{EX:Az}{a b c:Expr}{f g h:FE}{pos:Pos}
def Aa(i:Nat):FE:=λ δ=>match δ[i]? with
 |some (some d)=> .ok (.sh d)
 |_=> .no
def eC(d:D):FE:=λ_=> .ok (.sh d)
def Ad(i:Nat){x:Str}(hN:X.N[i]? =some x:=by rfl)(hv:Fd X.env.scope x:=by trivial)(hd:AG x:=by decide)
  (hcd:(x ==("__classdict__" :Str))=false:=by decide):ED X EX (.Name x pos) (Aa i):=
 PE.imp (Ff hN hv hd hcd) λ σ H Q ⟨G,δ,g,s,o⟩=>by
  unfold Aa at o
  split at o
  ·rename_i d e;obtain⟨v,e1,r⟩:=s.get i d e;exact⟨v,e1,WP.use o g r⟩
  ·exact o.elim
def v_7{e:Expr}{d:D}(he:PE X e (tC v))(hd:∀G,Has X.K G v d):ED X EX e (eC d):=
 PE.imp he λ σ H Q ⟨G,δ,g,s,o⟩=>WP.use o g (hd G)
def Am{i:Int}{j pos}:ED X EX (.Constant (.int i) j pos) (eC (.int i)):=v_7 dj_5 λ_=> .int i
def v_8{b:Bool}{j pos}:ED X EX (.Constant (.bool b) j pos) (eC (.bl b)):=v_7 dr_0 λ_=> .bl b
def au_0{j pos}:ED X EX (.Constant .none j pos) (eC .non):=v_7 dj_6 λ_=> .non
def al_5{x:Str}{j pos}:ED X EX (.Constant (.str x) j pos) (eC (.str x)):=v_7 dj_7 λ_=> .str x
def x_5{x:Str}{i:Int}{t:Tok}(hg:Gl X x)(hm:X.mg x=some (.int i t))(hd:AG x:=by decide):ED X EX (.Name x pos) (eC (.int i)):=v_7 (by_2 (v:=.int i) hg hm ⟨t,rfl⟩ hd) λ_=> .int i
def bz_2{x:Str}{z:Str}{t:Tok}(hg:Gl X x)(hm:X.mg x=some (.str z t))(hd:AG x:=by decide):ED X EX (.Name x pos) (eC (.str z)):=v_7 (by_2 (v:=.str z) hg hm ⟨t,rfl⟩ hd) λ_=> .str z
def rD(K:Frag)(r:D->D->R W):R2:=λx y H Q=>∃(EX:EXT) (G:Hp) (a b:D),Same G H/\Has K G x a/\Has K G y b/\Out K EX G H (r a b) Q
abbrev Eu(X:Cx)(f:Value->Value->Sem Value)(r:D->D->R W):Prop:=OpR X f (rD X.K r)
def Ae(r:D->D->R W)(f g:FE):FE:=λ δ=>(f δ).bind λa=>(g δ).bind λb=>r a.d b.d
def two{r:D->D->R W}{σ:Sg}{Q:VK}(q:tD K EX (Ae r f g) σ H Q):tOp (rD K r) (tD K EX f) (tD K EX g) σ H Q:=by
 obtain⟨G,δ,g0,s0,o⟩:=q;exact tD.seq g0 s0 o λw v G1 H1 _ st1 r1 o1=>tD.seq st1.gh (s0.mono st1.gg) o1 λw2 v2 G2 H2 _ st2 r2 o2=>⟨_,G2,w.d,w2.d,st2.gh,r1.mono st2.gg,r2,o2⟩
def Aq{op:Operator}{r:D->D->R W}(ho:Eu X (binaryOp op) r)(ha:ED X EX a f)(hb:ED X EX b g):ED X EX (.BinOp a op b pos) (Ae r f g):=
 PE.imp (dh_7 ho ha hb) λ_ _ _ q=>two q
def x_6{op:CmpOp}{r:D->D->R W}(ho:Eu X (compareOp op) r)(ha:ED X EX a f)(hb:ED X EX b g)(hm:behindInMarks op b=false):ED X EX (.Compare a [op] [b] pos) (Ae r f g):=
 PE.imp (cy_5 ho ha hb hm) λ_ _ _ q=>two q
def Ea:D->R Bool
 | .bl b=> .ok b
 |_=> .no
def Ah(f:FE):FT:=λ δ=>(f δ).bind λw=>Ea w.d
def cz_5{σ:Sg}{Q:Bool->Hp->Prop}(q:tDt K EX (Ah f) σ H Q):tD K EX f σ H λx H'=>∃k,x=.bl k/\Q k H':=by
 obtain⟨G,δ,g0,s0,o⟩:=q;refine⟨G,δ,g0,s0, ?_⟩;unfold Ah at o;cases e:f δ with
 |ok w=>
  rw[e]at o;simp only[R.bind_ok]at o;refine WP.intro λv G' H' st r=> ?_;revert r o;cases w.d with
  |bl k=>intro o r;cases r;exact⟨k,rfl,o G' H' st⟩
  |_=>intro o _;exact False.elim o
 |ex x=>rw[e]at o;exact o
 |no=>rw[e]at o;exact o
def Cn{op:CmpOp}{r:D->D->R W}(ho:Eu X (compareOp op) r)(ha:ED X EX a f)(hb:ED X EX b g)(hm:behindInMarks op b=false):TD X EX (.Compare a [op] [b] pos) (Ah (Ae r f g)):=
 PT.imp (cy_6 ho ha hb hm) λ σ H Q q=>two (cz_5 q)
def aa_4(r r':D->D->R W)(f g h:FE):FE:=λ δ=>(f δ).bind λa=>(g δ).bind λb=>(r a.d b.d).bind λz=>(Ea z.d).bind λk=>
 if k=true then(h δ).bind λc=>r' b.d c.d else .ok (.sh (.bl false))
def ds_9{r r':D->D->R W}{σ:Sg}{Q:VK}(q:tD K EX (aa_4 r r' f g h) σ H Q):cl_9 (rD K r) (rD K r') (tD K EX f) (tD K EX g) (tD K EX h) σ H Q:=by
 obtain⟨G,δ,g0,s0,o⟩:=q;refine tD.seq g0 s0 o λw v G1 H1 _ st1 r1 o1=>tD.seq st1.gh (s0.mono st1.gg) o1 λw2 v2 G2 H2 _ st2 r2 o2=>⟨EX σ,G2,w.d,w2.d,st2.gh,r1.mono st2.gg,r2, ?_⟩;revert o2;cases r w.d w2.d with
 |ok z=>
  intro o2;refine WP.intro λv3 G3 H3 st3 r3=> ?_;have o2:Out K (EX σ) G2 H2 ((Ea z.d).bind λk=>if k=true then(h δ).bind λc=>r' w2.d c.d else .ok (.sh (.bl false))) Q:=o2;revert r3 o2;cases z.d with
  |bl k=>
   intro r3 o2;cases r3;refine⟨k,rfl, ?_⟩;cases k with
   |true=>
    rw[if_pos rfl];have o3:Out K (EX σ) G2 H2 ((h δ).bind λc=>r' w2.d c.d) Q:=o2;exact tD.seq st3.gh (s0.mono (st1.gg.trans (st2.gg.trans st3.gg))) (o3.mono st3) λw4 v4 G4 H4 _ st4 r4 o4=>⟨_,G4,w2.d,w4.d,st4.gh,r2.mono (st3.gg.trans st4.gg),r4,o4⟩
   |false=>
    rw[if_neg A6];have o3:WP K G2 H2 (.sh (.bl false)) Q:=o2;exact(o3.mono st3).use st3.gh (.bl false)
  |_=>intro _ o2;exact False.elim o2
 |ex x=>exact λo2=>o2
 |no=>exact λo2=>o2
def bm_3{op op':CmpOp}{r r':D->D->R W}(ho:Eu X (compareOp op) r)(ho':Eu X (compareOp op') r')(ha:ED X EX a f)(hb:ED X EX b g)(hc:ED X EX c h)
  (hm:lastMarks [op,op'] [b,c]=false:=by with_unfolding_all rfl):ED X EX (.Compare a [op,op'] [b,c] pos) (aa_4 r r' f g h):=
 PE.imp (cm_0 ho ho' ha hb hc hm) λ_ _ _ q=>ds_9 q
abbrev TW(X:Cx)(EX:Az)(e:Expr)(f:FT):Prop:=PW X e (tDt X.K EX f)
variable{p q:FT}{z_9:List Expr}
def Cj(p q:FT):FT:=λ δ=>(p δ).bind λb=>if b=true then q δ else .ok false
def El(p q:FT):FT:=λ δ=>(p δ).bind λb=>if b=true then .ok true else q δ
def Cd(p:FT):FT:=λ δ=>(p δ).bind λb=> .ok (!b)
def ar_7(ha:TD X EX a p):TW X EX (.BoolOp .And [a] pos) p:=cy_1 ha
def au_1(ha:TD X EX a p):TW X EX (.BoolOp .Or [a] pos) p:=dj_8 ha
def tDt.two{σ:Sg}{Q:Bool->Hp->Prop}{k:Bool->DE->R Bool}{P:Bool->Hp->Prop}(h:tDt K EX (λ δ=>(p δ).bind λb=>k b δ) σ H Q)
  (i:∀b H',tDt K EX (k b) σ H' Q->P b H'):tDt K EX p σ H P:=by
 obtain⟨G,δ,g0,s0,o⟩:=h;refine⟨G,δ,g0,s0, ?_⟩;cases e:p δ with
 |ok b=>
  simp only[e,R.bind_ok]at o;refine λG' H' st=>i b H' ⟨G',δ,st.gh,s0.mono st.gg, ?_⟩;cases e2:k b δ with
  |ok c=>rw[e2]at o;exact λG2 H2 st2=>o G2 H2 (st.trans st2)
  |ex x=>rw[e2]at o;exact(EX σ).mono _ _ _ _ _ st o
  |no=>rw[e2]at o;exact o
 |ex x=>simp only[e,R.bind_ex]at o;exact o
 |no=>simp only[e,R.bind_no]at o
def tDt.now{σ:Sg}{Q:Bool->Hp->Prop}{c:Bool}(h:tDt K EX (λ_=> .ok c) σ H Q):Q c H:=by
 obtain⟨G,δ,g0,s0,o⟩:=h;exact o G H (Step.refl g0)
def bg_6(ha:TD X EX a p)(hb:TW X EX (.BoolOp .And (b::z_9) pos) q):TW X EX (.BoolOp .And (a::b::z_9) pos) (Cj p q):=
 PW.imp (dj_9 ha hb) λ σ H Q h=>tDt.two (k:=λb δ=>if b=true then q δ else .ok false) h λb H' h'=>by
  cases b with
  |true=>rw[if_pos rfl];exact h'
  |false=>rw[if_neg A6];exact tDt.now h'
def bm_4(ha:TD X EX a p)(hb:TW X EX (.BoolOp .Or (b::z_9) pos) q):TW X EX (.BoolOp .Or (a::b::z_9) pos) (El p q):=
 PW.imp (dr_1 ha hb) λ σ H Q h=>tDt.two (k:=λb δ=>if b=true then .ok true else q δ) h λb H' h'=>by
  cases b with
  |true=>rw[if_pos rfl];exact tDt.now h'
  |false=>rw[if_neg A6];exact h'
def td_w{e:Expr}(h:TW X EX e p):TD X EX e p:=h.pt
def al_6(ha:TD X EX a p):TD X EX (.UnaryOp .Not a pos) (Cd p):=
 PT.imp (cl_2 ha) λ σ H Q h=>tDt.two (k:=λb _=> .ok (!b)) h λb H' h'=>tDt.now h'
def eAnd(f g:FE):FE:=λ δ=>(f δ).bind λa=>(Ea a.d).bind λk=>if k=true then g δ else .ok (.sh (.bl false))
def eOr(f g:FE):FE:=λ δ=>(f δ).bind λa=>(Ea a.d).bind λk=>if k=true then .ok (.sh (.bl true)) else g δ
def eNot(f:FE):FE:=λ δ=>(f δ).bind λa=>(Ea a.d).bind λk=> .ok (.sh (.bl (!k)))
def bg_8{op}(h:ED X EX a f):ED X EX (.BoolOp op [a] pos) f:=dk_0 h
def tD.boolThen{σ:Sg}{Q:VK}{k:Bool->DE->R W}{P:Bool->Hp->Prop}(h:tD K EX (λ δ=>(f δ).bind λa=>(Ea a.d).bind λc=>k c δ) σ H Q)
  (i:∀c H',tD K EX (k c) σ H' Q->P c H'):tD K EX f σ H λx H'=>∃c,x=.bl c/\P c H':=by
 obtain⟨G,δ,g0,s0,o⟩:=h;refine tD.seq g0 s0 o λw v G1 H1 _ st1 r1 o1=> ?_;revert r1 o1;cases w.d with
 |bl c=>intro r1 o1;cases r1;exact⟨c,rfl,i c H1 ⟨G1,δ,st1.gh,s0.mono st1.gg,o1⟩⟩
 |_=>intro _ o1;exact False.elim o1
def tD.now{σ:Sg}{Q:VK}{d:D}(h:tD K EX (λ_=> .ok (.sh d)) σ H Q)(r:∀G,Has K G v d):Q v H:=by
 obtain⟨G,δ,g0,s0,o⟩:=h;exact WP.use o g0 (r G)
def bg_9(ha:ED X EX a f)(hb:ED X EX (.BoolOp .And (b::z_9) pos) g):ED X EX (.BoolOp .And (a::b::z_9) pos) (eAnd f g):=
 PE.imp (dk_1 ha hb) λ σ H Q h=>tD.boolThen (k:=λk δ=>if k=true then g δ else .ok (.sh (.bl false))) h λc H' h'=>by
  cases c with
  |true=>rw[if_pos rfl];exact h'
  |false=>rw[if_neg A6];exact tD.now h' λ_=> .bl false
def dm_3(ha:ED X EX a f):ED X EX (.UnaryOp .Not a pos) (eNot f):=
 PE.imp (dk_2 ha) λ σ H Q h=>tD.boolThen (k:=λk _=> .ok (.sh (.bl (!k)))) h λc H' h'=>tD.now h' λ_=> .bl (!c)
def eIf(p:FT)(f g:FE):FE:=λ δ=>(p δ).bind λk=>if k=true then f δ else g δ
def cn_3(hc:TD X EX c p)(ha:ED X EX a f)(hb:ED X EX b g):ED X EX (.IfExp c a b pos) (eIf p f g):=
 PE.imp (cl_3 hc ha hb) λ σ H Q ⟨G,δ,g0,s0,o⟩=>tDt.seq g0 s0 o λk G' H' _ st o'=>by
  cases k with
  |true=>rw[if_pos rfl];exact⟨G',δ,st.gh,s0.mono st.gg,o'⟩
  |false=>rw[if_neg A6];exact⟨G',δ,st.gh,s0.mono st.gg,o'⟩
def Cc:D->R Bool
 | .non=> .ok false
 | .bl b=> .ok b
 | .int i=> .ok (i != 0)
 | .str x=>if x.length<=16777216 then .ok ((x.length:Int) != 0) else .no
 | .lst ds=> .ok (!ds.isEmpty)
 | .tup ds=> .ok (!ds.isEmpty)
 |_=> .no
def Ay(f:FE):FT:=λ δ=>(f δ).bind λw=>Cc w.d
def bm_5{G:Hp}{vs:List V}{ds:List D}(r:HasL K G vs ds):(!ds.isEmpty)= !vs.isEmpty:=by cases r <;> rfl
def dm_4{G H:Hp}{d:D}{k:Bool}(g:Same G H)(r:Has K G v d)(e:Cc d=.ok k):TruV K v H k:=by
 cases r with
 |non=>cases e;rfl
 |bl b=>cases e;rfl
 |int i=>cases e;rfl
 |str x=>
  have e:(if x.length<=16777216 then R.ok ((x.length:Int) != 0) else .no)=.ok k:=e
  split at e
  ·rename_i hz;cases e;exact⟨by rw[F1];exact hz,rfl⟩
  ·cases e
 |lst h r=>cases e;exact .inl ⟨_,g.seq h,bm_5 r⟩
 |tup h r=>cases e;exact .inr (.inl ⟨_,Same.tupS g h,bm_5 r⟩)
 |exn0 _ _=>cases e
 |exn1 _ _ _ _ _=>cases e
 |dic _ _ _=>cases e
 |obj _ _ _ _=>cases e
def j_5(ha:ED X EX a f)(he:∀whole,isTrue a X.env whole=(do let v<-whole;standAt a.pos;holding [v] (truthy v)):=by intro _;rfl):TD X EX a (Ay f):=
 PT.imp (bm_0 ha he) λ σ H Q ⟨G,δ,g0,s0,o⟩=>by
  refine⟨G,δ,g0,s0, ?_⟩;unfold Ay at o;cases e:f δ with
  |ok w=>
   rw[e]at o;simp only[R.bind_ok]at o;refine WP.intro λv G' H' st r=> ?_;cases e2:Cc w.d with
   |ok k=>rw[e2]at o;exact⟨k,dm_4 st.gh r e2,o G' H' st⟩
   |ex x=>rw[e2]at o;exfalso;revert e2;cases w.d <;> simp only[Cc] <;> intro e2 <;> first|cases e2|(split at e2 <;> cases e2)
   |no=>rw[e2]at o;exact o.elim
  |ex x=>rw[e]at o;exact o
  |no=>rw[e]at o;exact o
variable{e:Expr}{es:List Expr}{fa:FA}
def Ac:FA:=λ_=> .ok []
def Ab(f:FE)(fa:FA):FA:=λ δ=>(f δ).bind λw=>(fa δ).bind λds=> .ok (w.d::ds)
def Ax:AD X EX [] Ac:=PA.imp q_2 λ σ H Q ⟨G,δ,g0,s0,o⟩=>o [] G H (Step.refl g0) .nil
def Aj(ha:ED X EX e f)(hr:AD X EX es fa)(hs:starEach (e::es) X.env=(false,eval e X.env)::starEach es X.env:=by rfl):AD X EX (e::es) (Ab f fa):=
 PA.imp (j_2 ha hr hs) λ σ H Q ⟨G,δ,g0,s0,o⟩=>by
  refine⟨G,δ,g0,s0, ?_⟩;unfold Ab at o;cases e1:f δ with
  |ok w=>
   rw[e1]at o;simp only[R.bind_ok]at o;refine WP.intro λv G' H' st r=>⟨G',δ,st.gh,s0.mono st.gg, ?_⟩;cases e2:fa δ with
   |ok ds=>rw[e2]at o;exact λvs G2 H2 st2 r2=>o (v::vs) G2 H2 (st.trans st2) (.cons (r.mono st2.gg) r2)
   |ex x=>rw[e2]at o;exact(EX σ).mono _ _ _ _ _ st o
   |no=>rw[e2]at o;exact o
  |ex x=>rw[e1]at o;exact o
  |no=>rw[e1]at o;exact o
def Dy(fa:FA):FE:=λ δ=>(fa δ).bind λds=>if ds.length<=16777216 then .ok (.sh (.tup ds)) else .no
def By(fa:FA):FE:=λ δ=>(fa δ).bind λds=>if ds.length<=16777216 then .ok (.ow (.lst ds)) else .no
def aa_5{x1}(ha:AD X EX es fa):ED X EX (.Tuple es x1 pos) (Dy fa):=
 PE.imp (dl_4 ha) λ σ H Q ⟨G,δ,g0,s0,o⟩=>tDa.seq g0 s0 o λds vs G' H' _ st r o'=>by
  split at o'
  ·rename_i hz;refine⟨by rw[r.length,F1];exact hz,λp hp=>o' (.ref p) _ _ (Step.new st.gh hp _) (.tup (SqT.of Bk) (r.mono (j_4 (st.gh.free hp) _)))⟩
  ·exact o'.elim
def q_3(ha:AD X EX es fa):ED X EX (.List es pos) (By fa):=
 PE.imp (bu_6 ha) λ σ H Q ⟨G,δ,g0,s0,o⟩=>tDa.seq g0 s0 o λds vs G' H' _ st r o'=>by
  split at o'
  ·rename_i hz;refine⟨by rw[r.length,F1];exact hz,λp hp=>ac_5 o' st.gh r p hp⟩
  ·exact o'.elim
def rDc(K:Frag)(fn:AF):List V->Hp->VK->Prop:=λvs H Q=>∃(EX:EXT) (G:Hp) (ds:List D),Same G H/\HasL K G vs ds/\Out K EX G H (fn ds) Q
abbrev Fx(X:Cx)(v:Value)(fn:AF):Prop:=CallR X v (rDc X.K fn)
def At(fn:AF)(fa:FA):FE:=λ δ=>(fa δ).bind fn
def bz_3{fn:AF}{σ:Sg}{Q:VK}(q:tD K EX (At fn fa) σ H Q):tCB (rDc K fn) (tDa K EX fa) σ H Q:=by
 obtain⟨G,δ,g0,s0,o⟩:=q;exact tDa.seq g0 s0 o λds vs G' H' _ st r o'=>⟨_,G',ds,st.gh,r,o'⟩
variable{x:Str}{pp:Pos}{id T:String}{fn:AF}
def Fj(hc:Fx X (.builtin id) fn)(hg:Gl X x)(hm:X.mg x=none)(hv:bootBuiltins x=some (.builtin id))(ha:AD X EX (e::es) fa)(hn:x≠ "__name__" :=by decide)(hdb:AG x:=by decide)
  (he:starEach (e::es) X.env=(false,eval e X.env)::starEach es X.env:=by rfl) (hpl:(backTo pos (starEach es X.env)).any (·.1)=false:=by rfl):ED X EX (.Call (.Name x pp) (e::es) [] pos) (At fn fa):=
 PE.imp (bm_2 hc hg hm hv ha hn hdb he hpl) λ_ _ _ q=>bz_3 q
def bc_2(hc:Fx X (.type T) fn)(hg:Gl X x)(hm:X.mg x=none)(hv:bootBuiltins x=some (.type T))(ha:AD X EX (e::es) fa)(hn:x≠ "__name__" :=by decide)(hdb:AG x:=by decide)
  (he:starEach (e::es) X.env=(false,eval e X.env)::starEach es X.env:=by rfl) (hpl:(backTo pos (starEach es X.env)).any (·.1)=false:=by rfl):ED X EX (.Call (.Name x pp) (e::es) [] pos) (At fn fa):=
 PE.imp (cg_0 hc hg hm hv ha hn hdb he hpl) λ_ _ _ q=>bz_3 q
def Bf:D->D->R W
 | .lst ds,.int i=>match atI ds i with|some d=> .ok (.sh d)|none=> .no
 | .tup ds,.int i=>match atI ds i with|some d=> .ok (.sh d)|none=> .no
 | .str z,.int i=>if z.length<=16777216 then(match atI z.cps.toList i with|some c=> .ok (.sh (.str ⟨#[c]⟩))|none=> .no) else .no
 |_,_=> .no
theorem HasL.atI{G:Hp}{vs:List V}{ds:List D}{i:Int}{d:D}(r:HasL K G vs ds)(h:L2.atI ds i=some d):∃v,L2.atI vs i=some v/\Has K G v d:=by
 unfold L2.atI at h⊢;rw[r.length];cases e:ixN ds.length i with
 |none=>rw[e]at h;cases h
 |some j=>rw[e]at h;exact r.get h
def ix_d:IxR X (rD X.K Bf):=by
 intro value slice zd s σ H x y v u Q I rx ry h hs;obtain⟨EX,G,a,b,g,ra,rb,o⟩:=h;cases rb with
 |int i=>
  cases ra with
  |lst h r=>
   simp only[Bf]at o
   split at o
   ·rename_i d e;obtain⟨v,e1,r1⟩:=HasL.atI r e;exact cz_2 value slice zd s σ H _ _ _ _ Q I rx ry ⟨_,_,i,v,rfl,rfl,g.seq h,e1,WP.use o g r1⟩ hs
   ·exact o.elim
  |tup h r=>
   simp only[Bf]at o
   split at o
   ·rename_i d e;obtain⟨v,e1,r1⟩:=HasL.atI r e;exact dl_5 value slice zd s σ H _ _ _ _ Q I rx ry ⟨_,_,i,v,rfl,rfl,Same.tupS g h,e1,WP.use o g r1⟩ hs
   ·exact o.elim
  |str z=>
   simp only[Bf]at o
   split at o
   ·rename_i hz
    split at o
    ·rename_i c e;exact dl_6 value slice zd s σ H _ _ _ _ Q I rx ry ⟨z,i,c,rfl,rfl,by rw[F1];exact hz,e,WP.use o g (.str _)⟩ hs
    ·exact o.elim
   ·exact o.elim
  |_=>exact False.elim o
 |_=>cases ra <;> exact False.elim o
def Ct(ha:ED X EX a f)(hb:ED X EX b g)(hs:by_8 b:=by intro _ _;rfl):ED X EX (.Subscript a b pos) (Ae Bf f g):=
 PE.imp (ds_8 ix_d ha hb hs) λ_ _ _ q=>two q
end
end L3
namespace L2
open PySem PySem.Spec PyProof.Rows
section
variable{κ:Type} [DecidableEq κ]
def Co(kvs:List (κ×V))(k:κ):Option V:=(kvs.find? λkv=>decide (kv.1=k)).map (·.2)
def Em(kvs:List (κ×V))(k:κ)(v:V):List (κ×V):=
 if(kvs.any λkv=>decide (kv.1=k))=true then kvs.map (λkv=>if kv.1=k then(kv.1,v) else kv) else kvs ++ [(k,v)]
def p_6(kvs:List (κ×V))(k:κ):List (κ×V):=kvs.filter λkv=>decide (kv.1≠k)
def j_6{p:κ×V}{r:List (κ×V)}{k:κ}(e:p.1=k):Co (p::r) k=some p.2:=by simp[Co,O9,e]
def i_6{p:κ×V}{r:List (κ×V)}{k:κ}(e:¬p.1=k):Co (p::r) k=Co r k:=by simp[Co,O9,e]
theorem aa_6(k:κ):∀kvs:List (κ×V),(kvs.any λkv=>decide (kv.1=k))=(Co kvs k).isSome
 | []=>rfl
 |p::r=>by
  rw[P5]
  by_cases e:p.1=k
  ·simp only[j_6 e,D6 e,Bool.true_or,Option.isSome_some]
  ·rw[i_6 e,C1 e,Bool.false_or];exact aa_6 k r
theorem bm_6(k j:κ)(y:V):∀kvs:List (κ×V),Co (kvs.map λkv=>if kv.1=k then(kv.1,y) else kv) j=(Co kvs j).map λx=>if j=k then y else x
 | []=>rfl
 |p::r=>by
  have ih:=bm_6 k j y r;rw[B3]
  by_cases h:p.1=k
  ·rw[if_pos h]
   by_cases e:p.1=j
   ·rw[j_6 (p:=(p.1,y)) e,j_6 e,K9,if_pos (e.symm.trans h)]
   ·rw[i_6 (p:=(p.1,y)) e,i_6 e,ih]
  ·rw[if_neg h]
   by_cases e:p.1=j
   ·rw[j_6 (p:=p) e,j_6 e,K9,if_neg (λz=>h (e.trans z))]
   ·rw[i_6 (p:=p) e,i_6 e,ih]
theorem bc_3(k j:κ)(y:V):∀kvs:List (κ×V),Co kvs k=none->Co (kvs ++ [(k,y)]) j=if j=k then some y else Co kvs j
 | [],_=>by
  by_cases e:k=j
  ·rw[if_pos e.symm];exact j_6 (p:=(k,y)) e
  ·rw[if_neg (λz=>e z.symm)];exact i_6 (p:=(k,y)) e
 |p::r,hn=>by
  rw[P9];have hk:¬p.1=k:=λz=>by rw[j_6 z]at hn;cases hn
  rw[i_6 hk]at hn;have ih:=bc_3 k j y r hn
  by_cases e:p.1=j
  ·rw[j_6 e,j_6 e,if_neg (λz=>hk (e.trans z))]
  ·rw[i_6 e,i_6 e,ih]
def cn_4(kvs:List (κ×V))(k j:κ)(y:V):Co (Em kvs k y) j=if j=k then some y else Co kvs j:=by
 unfold Em
 by_cases a:(kvs.any λkv=>decide (kv.1=k))=true
 ·rw[if_pos a,bm_6];rw[aa_6]at a
  by_cases e:j=k
  ·obtain⟨x,hx⟩:=L6.mp a;rw[if_pos e,e,hx,K9,if_pos rfl]
  ·rw[if_neg e];cases Co kvs j with
   |none=>rfl
   |some x=>rw[K9,if_neg e]
 ·rw[if_neg a];refine bc_3 k j y kvs ?_;rw[aa_6]at a;cases q:Co kvs k with
  |none=>rfl
  |some x=>rw[q]at a;exact(a rfl).elim
def u_4(kvs:List (κ×V))(k:κ)(v:V):(Em kvs k v).length<=kvs.length + 1:=by
 unfold Em
 split
 ·rw[A3];omega
 ·rw[B7,A9,F9];omega
def RelO.isSome_eq{o:Option V}{u:Option Value}(r:RelO o u):o.isSome=u.isSome:=by
 cases o with
 |none=>cases u with
  |none=>rfl
  |some _=>exact(show False from r).elim
 |some _=>cases u with
  |none=>exact(show False from r).elim
  |some _=>rfl
theorem RelO.getD{o:Option V}{u:Option Value}{d:V}{d':Value}(r:RelO o u)(rd:RelV d d'):RelV (o.getD d) (u.getD d'):=by
 cases o with
 |none=>cases u with
  |none=>exact rd
  |some _=>exact(show False from r).elim
 |some _=>cases u with
  |none=>exact(show False from r).elim
  |some _=>exact r
def KV.val{kvs:List (κ×V)}{vs:List (κ×Value)}(r:KV kvs vs)(k:κ):RelO (Co kvs k) (valueAt vs k):=by
 unfold KV at r
 induction r with
 |nil=>exact True.intro
 | @cons p q ps qs h t ih=>
  obtain⟨h1,h2⟩:=h
  by_cases e:p.1=k
  ·have e':q.1=k:=h1.symm.trans e;have b:valueAt (q::qs) k=some q.2:=by simp[valueAt,O9,e']
   rw[j_6 e,b];exact h2
  ·have e':¬q.1=k:=λz=>e (h1.trans z);have b:valueAt (q::qs) k=valueAt qs k:=by simp[valueAt,O9,e']
   rw[i_6 e,b];exact ih
theorem KV.any{kvs:List (κ×V)}{vs:List (κ×Value)}(r:KV kvs vs)(k:κ):(kvs.any λkv=>decide (kv.1=k))=vs.any λkv=>decide (kv.1=k):=by
 unfold KV at r
 induction r with
 |nil=>rfl
 |cons h t ih=>rw[P5,P5,ih,h.1]
def KV.repl{kvs:List (κ×V)}{vs:List (κ×Value)}(r:KV kvs vs)(k:κ){y:V}{u:Value}(ry:RelV y u):
  KV (kvs.map λkv=>if kv.1=k then(kv.1,y) else kv) (vs.map λkv=>if kv.1=k then(kv.1,u) else kv):=by
 unfold KV at r⊢
 induction r with
 |nil=>exact .nil
 | @cons p q ps qs h t ih=>
  rw[B3,B3];refine .cons ?_ ih;obtain⟨h1,h2⟩:=h
  by_cases e:p.1=k
  ·rw[if_pos e,if_pos (h1.symm.trans e)];exact⟨h1,ry⟩
  ·rw[if_neg e,if_neg (λz=>e (h1.trans z))];exact⟨h1,h2⟩
def KV.put{kvs:List (κ×V)}{vs:List (κ×Value)}(r:KV kvs vs)(k:κ){y:V}{u:Value}(ry:RelV y u):KV (Em kvs k y) (stored vs k u):=by
 unfold Em stored;rw[r.any k]
 by_cases e:(vs.any λkv=>decide (kv.1=k))=true
 ·rw[if_pos e,if_pos e];exact r.repl k ry
 ·rw[if_neg e,if_neg e];exact Paired.snoc r ⟨rfl,ry⟩
def KV.drop{kvs:List (κ×V)}{vs:List (κ×Value)}(r:KV kvs vs)(k:κ):KV (p_6 kvs k) (without vs k):=by
 unfold KV at r⊢;unfold p_6 without
 induction r with
 |nil=>exact .nil
 | @cons p q ps qs h t ih=>
  obtain⟨h1,h2⟩:=h;rw[Q0,Q0]
  by_cases e:p.1=k
  ·have a:¬decide (p.1≠k)=true:=by simp[e]
   have b:¬decide (q.1≠k)=true:=by simp[h1.symm.trans e]
   rw[if_neg a,if_neg b];exact ih
  ·have e':¬q.1=k:=λz=>e (h1.trans z);have a:decide (p.1≠k)=true:=by simp[e]
   have b:decide (q.1≠k)=true:=by simp[e']
   rw[if_pos a,if_pos b];exact .cons ⟨h1,h2⟩ ih
def KV.keys{kvs:List (κ×V)}{vs:List (κ×Value)}(r:KV kvs vs):kvs.map (·.1)=vs.map (·.1):=by
 unfold KV at r
 induction r with
 |nil=>rfl
 |cons h t ih=>rw[B3,B3,ih,h.1]
theorem KV.length{kvs:List (κ×V)}{vs:List (κ×Value)}(r:KV kvs vs):kvs.length=vs.length:=V7 r
def cn_5(kvs:List (κ×V))(k:κ):(p_6 kvs k).length<=kvs.length:=L4 _ _
end
def ah_8{P:Program}{w:World}{k:Af}{u:Value}(r:RelV (kV k) u):(Dx P w).is k u=true:=by
 cases k with
 |inl i=>obtain⟨t,e⟩:=(show∃t,u=Value.int i t from r);subst e;exact bl_7 P w i t
 |inr x=>obtain⟨t,e⟩:=(show∃t,u=Value.str x t from r);subst e;exact bl_8 P w x t
theorem bc_4{P:Program}{w:World}:∀{ks:List Af} {us:List Value},Vals (ks.map kV) us->ItemsAre (Dx P w) ks us
 | [],_,r=>by rw[N7]at r;cases r;exact .nil
 |k::ks,_,r=>by
  rw[B3]at r;cases r with
  |cons h t=>exact .cons (ah_8 h) (bc_4 t)
abbrev KT(H:Hp):List (List Af×V)->List (List Af×Addr×Value)->Prop:=Paired λp q=>p.1=q.1/\H q.2.1=some (.tup (p.1.map kV))/\RelV p.2 q.2.2
def KT.val{kvs:List (List Af×V)}{xs:List (List Af×Addr×Value)}(r:KT H kvs xs)(k:List Af):RelO (Co kvs k) ((atKey xs k).map (·.2)):=by
 induction r with
 |nil=>exact True.intro
 | @cons p q ps qs h t ih=>
  obtain⟨h1,_,h2⟩:=h
  by_cases e:p.1=k
  ·have e':q.1=k:=h1.symm.trans e;have b:atKey (q::qs) k=some q.2:=by simp[atKey,O9,e']
   rw[j_6 e,b];exact h2
  ·have e':¬q.1=k:=λz=>e (h1.trans z);have b:atKey (q::qs) k=atKey qs k:=by simp[atKey,O9,e']
   rw[i_6 e,b];exact ih
def KT.repl{kvs:List (List Af×V)}{xs:List (List Af×Addr×Value)}(r:KT H kvs xs)(k:List Af){y:V}{u:Value}(ry:RelV y u):
  KT H (kvs.map λkv=>if kv.1=k then(kv.1,y) else kv) (xs.map (putAt k u)):=by
 induction r with
 |nil=>exact .nil
 | @cons p q ps qs h t ih=>
  rw[B3,B3];refine .cons ?_ ih;obtain⟨h1,h2,h3⟩:=h;unfold putAt
  by_cases e:p.1=k
  ·rw[if_pos e,if_pos (h1.symm.trans e)];exact⟨h1,h2,ry⟩
  ·rw[if_neg e,if_neg (λz=>e (h1.trans z))];exact⟨h1,h2,h3⟩
def KT.put{kvs:List (List Af×V)}{xs:List (List Af×Addr×Value)}(r:KT H kvs xs)(k:List Af){b:Addr}{y:V}{u:Value}(hb:H b=some (.tup (k.map kV)))(ry:RelV y u):
  KT H (Em kvs k y) (storedH xs k b u):=by
 have e:(kvs.any λkv=>decide (kv.1=k))=(atKey xs k).isSome:=by
  rw[aa_6,(r.val k).isSome_eq,Y1]
 unfold Em storedH;rw[e]
 by_cases q:(atKey xs k).isSome=true
 ·rw[if_pos q,if_pos q];exact r.repl k ry
 ·rw[if_neg q,if_neg q];exact Paired.snoc r ⟨rfl,hb,ry⟩
def KT.keeps{H H':Hp}{kvs:List (List Af×V)}{xs:List (List Af×Addr×Value)}(r:KT H kvs xs)(ht:∀b ys,H b=some (.tup ys)->H' b=some (.tup ys)):KT H' kvs xs:=
 Paired.mapP r λ_ _ z=>⟨z.1,ht _ _ z.2.1,z.2.2⟩
section
variable{P:Program}{w:World}{H:Hp}{h:Heap}{a:Addr}
def dh_9{u:HO}(ok:HOk P w H h)(e:Rd H a u):ObjOk P w H h a u:=e.ok ok
def q_8{kvs:List (Af×V)}(ok:HOk P w H h)(e:Rd H a (.dK kvs)):kvs.length<=sizeLine/\(a ==sysModules)=false/\∃vs,KV kvs vs/\h.DictOf (Dx P w) a vs:=
 show ObjOk P w H h a (.dK kvs) from dh_9 ok e
def bz_4{kvs:List (Af×V)}(ok:HOk P w H h)(e:H a=some (.dK kvs)):kvs.length<=sizeLine/\(a ==sysModules)=false/\∃vs,KV kvs vs/\h.DictOf (Dx P w) a vs:=q_8 ok (.inl e)
def al_7{ks:List Af}(ok:HOk P w H h)(e:H a=some (.tup (ks.map kV))):(tupleKind (Dx P w)).is h ks a:=by
 obtain⟨_,its,r,o,h1,h2,n,h3⟩:=(show ObjOk P w H h a (.tup (ks.map kV)) from ok a _ e);exact⟨o,its.toArray,n,h1,h2,h3,by simpa using bc_4 r⟩
def au_2{kvs:List (List Af×V)}(ok:HOk P w H h)(e:Rd H a (.dT kvs)):kvs.length<=sizeLine/\(a ==sysModules)=false/\
  ∃xs,KT H kvs xs/\h.DictOfH (tupleKind (Dx P w)) a xs:=by
 obtain⟨z,y,xs,r,o,es,ep,h1,h2,h3,h4,h5⟩:=(show ObjOk P w H h a (.dT kvs) from dh_9 ok e);refine⟨z,y,xs,r,o,es,ep,h1,h2,h3,h4,λx hx=> ?_,h5⟩;have all:∀{l:List (List Af×V)} {m:List (List Af×Addr×Value)},KT H l m->∀x∈m,(tupleKind (Dx P w)).is h x.1 x.2.1:=by
  intro l m q
  induction q with
  |nil=>intro x hx;exact nomatch hx
  | @cons p q ps qs hq t ih=>
   intro x hx;rcases C6.mp hx with e|hx
   ·subst e;exact al_7 ok (by rw[<-hq.1];exact hq.2.1)
   ·exact ih x hx
 exact all r x hx
def dt_0{kvs:List (List Af×V)}(ok:HOk P w H h)(e:H a=some (.dT kvs)):kvs.length<=sizeLine/\(a ==sysModules)=false/\
  ∃xs,KT H kvs xs/\h.DictOfH (tupleKind (Dx P w)) a xs:=au_2 ok (.inl e)
end
def DGet(H:Hp)(a:Addr)(y:V)(r:Option V):Prop:=
 (∃kvs k,Rd H a (.dK kvs)/\y=kV k/\r=Co kvs k)\/∃kvs k b,Rd H a (.dT kvs)/\y=.ref b/\H b=some (.tup (k.map kV))/\r=Co kvs k
def DPut(H:Hp)(a:Addr)(y v:V)(H':Hp):Prop:=
 (∃kvs k,H a=some (.dK kvs)/\y=kV k/\kvs.length < sizeLine/\H'=upd H a (.dK (Em kvs k v)))\/
 ∃kvs k b,H a=some (.dT kvs)/\y=.ref b/\H b=some (.tup (k.map kV))/\kvs.length < sizeLine/\H'=upd H a (.dT (Em kvs k v))
def DGet.t{a b:Addr}{kvs:List (List Af×V)}{k:List Af}(e:H a=some (.dT kvs))(eb:H b=some (.tup (k.map kV))):DGet H a (.ref b) (Co kvs k):=.inr ⟨kvs,k,b,.inl e,rfl,eb,rfl⟩
theorem DPut.k{a:Addr}{kvs:List (Af×V)}{k:Af}(e:H a=some (.dK kvs))(hl:kvs.length < sizeLine):DPut H a (kV k) v (upd H a (.dK (Em kvs k v))):=.inl ⟨kvs,k,e,rfl,hl,rfl⟩
def DPut.t{a b:Addr}{kvs:List (List Af×V)}{k:List Af}(e:H a=some (.dT kvs))(eb:H b=some (.tup (k.map kV)))(hl:kvs.length < sizeLine):
  DPut H a (.ref b) v (upd H a (.dT (Em kvs k v))):=.inr ⟨kvs,k,b,e,rfl,eb,hl,rfl⟩
section
variable{X:Cx}{zd:AE}{σ:St}{H:Hp}{s:Shared}{a:Addr}{y v:V}{u r:Value}{o:Option V}{A:Around}{E:AA}
def Inv.big(I:Inv X zd σ H s):sysModules < s.heap.objs.size:=by
 have h:mainGlobals < s.heap.objs.size:=(I.mod.glob.keeps I.bk).lt;exact Nat.lt_trans ⋯ h
def cg_6{Q:AA}(hu:A.units + 1 < cLine)(I:Inv X zd σ H s)(g:DGet H a y (some v))(ry:RelV y u)(h:∀w' s',Inv X zd σ H s'->RelV v w'->Q w' s'):
  wpAny (model X.prog X.w) A (getItem (.ref a) u) Q E s:=by
 rcases g with⟨kvs,k,e,ey,l⟩|⟨kvs,k,b,e,ey,eb,l⟩
 ·subst ey;obtain⟨z,hd,vs,rel,dd⟩:=q_8 I.hok e;obtain⟨w',hw,rw'⟩:=RelO.some_of (v:=v) (o:=valueAt vs k) (by rw[l];exact rel.val k);exact wpAny_getItem_of (ah_8 ry) dd.mapOf hw (h w' _ (I.tok _) rw')
 ·subst ey;cases(show u=Value.ref b from ry);obtain⟨z,hd,xs,rel,dd⟩:=au_2 I.hok e;obtain⟨w',hw,rw'⟩:=RelO.some_of (v:=v) (o:=(atKey xs k).map (·.2)) (by rw[l];exact rel.val k);obtain⟨p,hp,hp2⟩:=E7.mp hw;refine wpAny_getItem_heap (Q5 hu) (al_7 I.hok eb) dd hp ?_;rw[hp2];exact h w' _ (I.tok _) rw'
def d_in{Q:AA}(hu:A.units + 1 < cLine)(I:Inv X zd σ H s)(g:DGet H a y o)(ry:RelV y u)(h:∀s',Inv X zd σ H s'->Q (.bool o.isSome) s'):
  wpAny (model X.prog X.w) A (compareOp .In u (.ref a)) Q E s:=by
 rcases g with⟨kvs,k,e,ey,l⟩|⟨kvs,k,b,e,ey,eb,l⟩
 ·subst ey;obtain⟨z,hd,vs,rel,dd⟩:=q_8 I.hok e;refine wpAny_in_of (ah_8 ry) hd dd.mapOf ?_;rw[<-(rel.val k).isSome_eq,<-l];exact h _ (I.tok _)
 ·subst ey;cases(show u=Value.ref b from ry);obtain⟨z,hd,xs,rel,dd⟩:=au_2 I.hok e;refine wpAny_in_heap (Q5 hu) (al_7 I.hok eb) hd dd ?_;have q:=(rel.val k).isSome_eq;rw[Y1]at q;rw[<-q,<-l];exact h _ (I.tok _)
def cz_6{Q:AA}(hu:A.units + 1 < cLine)(I:Inv X zd σ H s)(g:DGet H a y o)(ry:RelV y u)(h:∀s',Inv X zd σ H s'->Q (.bool (!o.isSome)) s'):
  wpAny (model X.prog X.w) A (compareOp .NotIn u (.ref a)) Q E s:=by
 rcases g with⟨kvs,k,e,ey,l⟩|⟨kvs,k,b,e,ey,eb,l⟩
 ·subst ey;obtain⟨z,hd,vs,rel,dd⟩:=q_8 I.hok e;refine wpAny_notIn_of (ah_8 ry) hd dd.mapOf ?_;rw[<-(rel.val k).isSome_eq,<-l];exact h _ (I.tok _)
 ·subst ey;cases(show u=Value.ref b from ry);obtain⟨z,hd,xs,rel,dd⟩:=au_2 I.hok e;refine wpAny_notIn_heap (Q5 hu) (al_7 I.hok eb) hd dd ?_;have q:=(rel.val k).isSome_eq;rw[Y1]at q;rw[<-q,<-l];exact h _ (I.tok _)
def ah_9{h':Heap}{t':Nat}{ob:HO}(I:Inv X zd σ H s)(mu:Mut (H a))(hs:Heap.SameBut a s.heap h')(he:∃q,h'.get? a=some q)(new:ObjOk X.prog X.w (upd H a ob) h' a ob):
  Inv X zd σ (upd H a ob) {s with heap:=h',toks:=t'}:=
 I.write (x:=a) (e:=a) mu (.inl rfl) (λb q hb z=>(hs.2 b hb).trans z) he new
def bh_0{P:Program}{w:World}{H':Hp}{h':Heap}{kvs:List (Af×V)}{vs:List (Af×Value)}(z:kvs.length<=sizeLine)(hd:(a ==sysModules)=false)(rel:KV kvs vs)(dd:h'.DictOf (Dx P w) a vs):
  ObjOk P w H' h' a (.dK kvs):=⟨z,hd,vs,rel,dd⟩
def cg_7{H':Hp}{Q:Unit->Shared->Prop}(hu:A.units + 1 < cLine)(I:Inv X zd σ H s)(g:DPut H a y v H')(ry:RelV y u)(rv:RelV v r)(h:∀s',Inv X zd σ H' s'->Q .unit s'):
  wpAny (model X.prog X.w) A (setItem (.ref a) u r) Q E s:=by
 rcases g with⟨kvs,k,e,ey,l,eH⟩|⟨kvs,k,b,e,ey,eb,l,eH⟩
 ·subst ey eH;obtain⟨z,hd,vs,rel,dd⟩:=bz_4 I.hok e;have hz:vs.length<=sizeLine:=by rw[<-rel.length];exact z
  have hl:(Em kvs k v).length<=sizeLine:=by have:=u_4 kvs k v;omega
  refine wpAny_setItem_pairs (hsz:=hz) (ah_8 ry) dd λh' dd' hs=>h _ ?_;have he:∃q,h'.get? a=some q:=let⟨q,_,_,hq,_⟩:=dd';⟨q,hq⟩;exact ah_9 I (by rw[e];exact True.intro) hs he (bh_0 hl hd (rel.put k rv) dd')
 ·subst ey eH;cases(show u=Value.ref b from ry);obtain⟨z,hd,xs,rel,dd⟩:=dt_0 I.hok e;have hz:xs.length<=sizeLine:=by rw[<-V7 rel];exact z
  have hl:(Em kvs k v).length<=sizeLine:=by have:=u_4 kvs k v;omega
  refine wpAny_setItem_heap (hsz:=hz) (Q5 hu) (al_7 I.hok eb) dd λh' dd' hs=>h _ ?_;obtain⟨q,es,ep,hq,h2,h3,h4,_,h5⟩:=dd';refine ah_9 I (by rw[e];exact True.intro) hs ⟨q,hq⟩ ⟨hl,hd,_,(rel.put k eb rv).keeps λc ys ec=> ?_,q,es,ep,hq,h2,h3,h4,h5⟩;rw[Ao (dq_9 ec e (λz=>nomatch z))];exact ec
end
section
variable{X:Cx}{zd:AE}{σ:St}{H:Hp}{s:Shared}{a:Addr}{kvs:List (Af×V)}{k:Af}{u:Value}{A:Around}{E:AA}
def dt_1{more:List Value}{Q:AA}(I:Inv X zd σ H s)(e:H a=some (.dK kvs))(ry:RelV (kV k) u)(l:Co kvs k=some v)(hm:more= []\/∃x,more= [x])
  (h:∀w' s',Inv X zd σ (upd H a (.dK (p_6 kvs k))) s'->RelV v w'->Q w' s'):wpAny (model X.prog X.w) A (call (.builtin "dict.pop") (.ref a::u::more)) Q E s:=by
 obtain⟨z,hd,vs,rel,dd⟩:=bz_4 I.hok e;obtain⟨w',hw,rw'⟩:=RelO.some_of (v:=v) (o:=valueAt vs k) (by rw[<-l];exact rel.val k);have hp:(keyPart u).isSome=true:=by
  cases k with
  |inl i=>obtain⟨t,q⟩:=(show∃t,u=Value.int i t from ry);subst q;rfl
  |inr x=>obtain⟨t,q⟩:=(show∃t,u=Value.str x t from ry);subst q;rfl
 have ha:argsOk "dict.pop" ⟨.ref a::u::more,[]⟩:=by
  rcases hm with q|⟨x,q⟩
  ·subst q;exact PySem.F.args_dict_pop_2 _ _
  ·subst q;exact PySem.F.args_dict_pop_3 _ _ _
 refine T9 PySem.F.slot_dict_pop dd.typeIs PySem.F.entry_dict_pop ha (meets_dict_pop_there (Dx X.prog X.w) a (ah_8 ry) more hm hp)
  ⟨vs,w',dd,by rw[<-rel.length];exact z,hw,λh' dd' hs=>h w' _ ?_ rw'⟩
 have he:∃q,h'.get? a=some q:=let⟨q,_,_,hq,_⟩:=dd';⟨q,hq⟩;exact ah_9 I (by rw[e];exact True.intro) hs he (bh_0 (D4 (cn_5 kvs k) z) hd (rel.drop k) dd')
def dt_2{Q:AA}(I:Inv X zd σ H s)(e:Rd H a (.dK kvs))(h:∀t s',Inv X zd σ H s'->Q (.int kvs.length t) s'):wpAny (model X.prog X.w) A (call (.builtin "len") [.ref a]) Q E s:=by
 obtain⟨z,hd,vs,rel,dd⟩:=q_8 I.hok e;refine call_len_dict hd dd (by rw[<-rel.length];rw[F1]at z;omega) ?_;rw[<-rel.length];exact h _ _ (I.tok _)
end
def NoSl(i:Expr):Prop:=∀ov iv,subscripted i false ov iv=operate [ov,iv] (getItem ov iv)
def cz_7{prog:Program}{w:World}{A:Around}{E:AA}{s:Shared}{env:Env}{value slice:Expr}{T id:String}{Q:AA}
  (hl:typeLookup (.type T) "__getitem__" =pure (some (.builtin id))) (hs:NoSl slice)
  (h:wpAny (model prog w) A (eval value env) (λo s₁=>wpAny (model prog w) A (eval slice env) (λi s₂=>s₂.TypeIs o T/\wpAny (model prog w) A (getItem o i) Q E s₂) E s₁) E s):
  wpAny (model prog w) A (eval (.Subscript value slice pos) env) Q E s:=by
 refine Subscript_ (F3 h (λo s₁ h₁=>F3 h₁ (λi s₂ h₂=> ?_) λ_ _ x=>x) λ_ _ x=>x);obtain⟨hT,h₂⟩:=h₂;unfold subscriptTail;refine A7 ?_;rw[getitemInPython_of_ne hT.not_modules];refine A7 (wpAny_specialOf hT hl ?_);have fin:wpAny (model prog w) A (subscripted slice false o i) (λr s₃=>wpAny (model prog w) A (letTemporaryGo value o r >>=λ_=>pure r) Q E s₃) E s₂:=by
  rw[hs o i];exact wpAny_operating (F3 h₂ (λr s₃ h₃=>A7 (wpAny_letTemporaryGo (F0 h₃))) λ_ _ x=>x)
 first
  |exact F0 (A7 fin)
  |exact A7 (F0 (A7 fin))
  |exact A7 fin
def bm_7{zd:AE}{σ:St}{s:Shared}{a:Addr}{y:V}{o:Option V}(I:Inv X zd σ H s)(g:DGet H a y o):s.TypeIs (.ref a) "dict" :=by
 rcases g with⟨kvs,k,e,_,_⟩|⟨kvs,k,b,e,_,_,_⟩
 ·obtain⟨_,_,vs,_,dd⟩:=q_8 I.hok e;exact dd.typeIs
 ·obtain⟨_,_,xs,_,dd⟩:=au_2 I.hok e;exact dd.typeIs
def dt_3(td ty:TE):TE:=λ σ H Q=>td σ H λx H1=>ty σ H1 λy H2=>∃a v,x=.ref a/\DGet H2 a y (some v)/\Q v H2
def dt_4(td ty tv:TE):TS:=λD σ H=>tv σ H λv H1=>td σ H1 λx H2=>ty σ H2 λy H3=>∃a H4,x=.ref a/\DPut H3 a y v H4/\D.nx σ H4
section
variable{X:Cx}{o i e value:Expr}{pos pos' zh:Pos}{td ty tv:TE}
def cz_8(hu:X.A.units + 1 < cLine)(ho:PE X o td)(hi:PE X i ty)(hs:NoSl i):PE X (.Subscript o i pos) (dt_3 td ty):=by
 intro zd s σ H Q I h;refine cz_7 PySem.F.slot_dict_getitem.lookup hs (Bc (ho zd s σ H _ I h) λu s1 ⟨x,H1,I1,rx,q1⟩=>Bc (hi zd s1 σ H1 _ I1 q1) λiv s2 ⟨y,H2,I2,ry,a,v,ex,g,q2⟩=> ?_);subst ex;obtain rfl:u=Value.ref a:=rx;exact⟨bm_7 I2 g,cg_6 hu I2 g ry λw' s3 I3 rw'=>⟨v,H2,I3,rw',q2⟩⟩
def bh_1(hu:X.A.units + 1 < cLine)(ho:PE X o td)(hi:PE X i ty)(hv:PE X value tv)(hs:swapsWith value (some (.Subscript o i pos')) pos.line X.env=pure false):
  PS X (.Assign [.Subscript o i pos'] value pos) (dt_4 td ty tv):=by
 intro zd s σ H D I h;refine wpAny_Assign_Subscript (Bc (hv zd s σ H _ I h) λr s1 ⟨v,H1,I1,rv,q1⟩=>Bc (ho zd s1 σ H1 _ I1 q1) λu s2 ⟨x,H2,I2,rx,q2⟩=>Bc (hi zd s2 σ H2 _ I2 q2) λiv s3 ⟨y,H3,I3,ry,a,H4,ex,g,q3⟩=> ?_) hs;subst ex;obtain rfl:u=Value.ref a:=rx;exact cg_7 hu I3 g ry rv λs4 I4=>⟨σ,H4,I4,q3⟩
end
def bm_8{P:Program}{w:World}(h:Heap)(hb:sysModules < h.objs.size):ObjOk P w H (h.push {cls:=.type "dict",data:=.dict #[]}) h.objs.size (.dK []):=
 ⟨K6 _,O4.mpr (Ne.symm (D7 hb)),[],.nil,Heap.DictOf.new h⟩
def dm_6:TE:=λ_ H Q=>∀p,H p=none->Q (.ref p) (upd H p (.dK []))
section
variable{X:Cx}{pos:Pos}
def cn_6:PE X (.Dict [] [] pos) dm_6:=λzd s σ H Q I h=>
 wpAny_Dict_empty ⟨.ref s.heap.objs.size,_,I.laid (a:=s.heap.objs.size) (o:=.dK []) (t':=s.toks) (λ_ _ q=>A4 _ q) (B5 _) (bm_8 s.heap I.big),rfl,h _ (I.hok.fresh (B5 _))⟩
end
def bu_9:List (TE×TE)->St->Hp->(List (V×V)->Hp->Prop)->Prop
 | [],_,H,Q=>Q [] H
 |(tk,tv)::r,σ,H,Q=>tk σ H λx H1=>tv σ H1 λy H2=>bu_9 r σ H2 λps H3=>Q ((x,y)::ps) H3
abbrev VV:List (V×V)->List (Value×Value)->Prop:=Paired λp q=>RelV p.1 q.1/\RelV p.2 q.2
def PPs(X:Cx)(pos:Pos)(keys:List (Option Expr))(values:List Expr)(trs:List (TE×TE)):Prop:=
 ∀(zd:AE) (s:Shared) (σ:St) (H:Hp) (Q:List (V×V)->Hp->Prop),Inv X zd σ H s->bu_9 trs σ H Q->
  wpAny (model X.prog X.w) X.A (evalPairs (pairTrees keys values X.env pos)) (λvs s'=>∃ps H',Inv X zd σ H' s'/\VV ps vs/\Q ps H') X.xe s
def cz_9:PPs X pos [] [] []:=λzd s σ H Q I h=>pairTrees_nil_walk ⟨[],H,I,.nil,h⟩
def cn_7{k v:Expr}{ks:List (Option Expr)}{vs:List Expr}{tk tv:TE}{trs:List (TE×TE)}(hk:PE X k tk)(hv:PE X v tv)(hr:PPs X pos ks vs trs):
  PPs X pos (some k::ks) (v::vs) ((tk,tv)::trs):=λzd s σ H Q I h=>
 pairTrees_cons_walk (Bc (hk zd s σ H _ I h) λu s1 ⟨x,H1,I1,rx,q1⟩=>Bc (hv zd s1 σ H1 _ I1 q1) λw2 s2 ⟨y,H2,I2,ry,q2⟩=>
  Bc (hr zd s2 σ H2 _ I2 q2) λws s3 ⟨ps,H3,I3,rel,q3⟩=>⟨(x,y)::ps,H3,I3,.cons ⟨rx,ry⟩ rel,q3⟩)
def au_3(kvs more:List (Af×V)):List (Af×V):=more.foldl (λzn kv=>Em zn kv.1 kv.2) kvs
def KV.merge:∀{more:List (Af×V)} {rs:List (Af×Value)} {kvs:List (Af×V)} {vs:List (Af×Value)},KV more rs->KV kvs vs->KV (au_3 kvs more) (merged vs rs):=by
 intro more rs kvs vs r;unfold KV at r
 induction r generalizing kvs vs with
 |nil=>intro q;exact q
 | @cons p q ps qs h t ih=>
  intro r0;have e:KV (Em kvs p.1 p.2) (stored vs q.1 q.2):=by
   have:=r0.put p.1 h.2;rw[<-h.1];exact this
  exact ih e
theorem ae_8:∀(more kvs:List (Af×V)),(au_3 kvs more).length<=kvs.length + more.length
 | [],kvs=>by show kvs.length<=kvs.length + 0;omega
 |p::r,kvs=>by
  have h1:=ae_8 r (Em kvs p.1 p.2);have h2:=u_4 kvs p.1 p.2;show(au_3 (Em kvs p.1 p.2) r).length<=_;rw[A9];omega
theorem au_4{P:Program}{w:World}:∀{kvs:List (Af×V)} {ws:List (Value×Value)},VV (kvs.map λkv=>(kV kv.1,kv.2)) ws->∃rs,Carries (Dx P w) ws rs/\KV kvs rs
 | [],_,r=>by rw[N7]at r;cases r;exact⟨[],True.intro,.nil⟩
 |p::kvs,_,r=>by
  rw[B3]at r;cases r with
  | @cons a b as bs h t=>
   obtain⟨rs,c,q⟩:=au_4 (P:=P) (w:=w) t;obtain⟨b1,b2⟩:=b;exact⟨(p.1,b2)::rs,⟨ah_8 h.1,rfl,c⟩,.cons ⟨rfl,h.2⟩ q⟩
def dt_5(trs:List (TE×TE)):TE:=λ σ H Q=>∀p,H p=none->bu_9 trs σ (upd H p (.dK [])) λps H2=>H2 p=some (.dK [])/\∃kvs:List (Af×V),ps=kvs.map (λkv=>(kV kv.1,kv.2))/\kvs.length<=15/\Q (.ref p) (upd H2 p (.dK (au_3 [] kvs)))
def da_0{keys:List (Option Expr)}{values:List Expr}{trs:List (TE×TE)}(h:PPs X pos keys values trs)(bg:keys.all (·.isSome)=true)(hl:keys.length=values.length)(h0:keys≠ [])
  (h15:keys.length<=15):PE X (.Dict keys values pos) (dt_5 trs):=by
 intro zd s σ H Q I q;have hn:=I.hok.fresh (B5 s.heap.objs.size);have I1:=I.laid (a:=s.heap.objs.size) (o:=.dK []) (h':=s.heap.push {cls:=.type "dict",data:=.dict #[]}) (t':=s.toks) (λ_ _ q=>A4 _ q) (B5 _) (bm_8 s.heap I.big);refine wpAny_Dict_walk (knd:=Dx X.prog X.w) bg hl h0 h15 (Bc (h zd _ σ _ _ I1 (q _ hn)) λws s2 ⟨ps,H2,I2,rel,e,kvs,ep,lk,q2⟩=> ?_);subst ep;obtain⟨rs,c,rk⟩:=au_4 (P:=X.prog) (w:=X.w) rel;obtain⟨z,hd,vs0,r0,dd⟩:=bz_4 I2.hok e;cases r0;refine⟨rs,c,dd,λh' dd' hs=>⟨.ref s.heap.objs.size,_, ?_,rfl,q2⟩⟩;have hz:(au_3 [] kvs).length<=sizeLine:=by
  have h1:=ae_8 kvs [];rw[F9]at h1;rw[F1];omega
 have he:∃q,h'.get? s.heap.objs.size=some q:=let⟨q,_,_,hq,_⟩:=dd';⟨q,hq⟩;exact ah_9 I2 (by rw[e];exact True.intro) hs he (bh_0 hz hd (rk.merge .nil) dd')
structure M1(X:Cx)(o:Expr)(m:Str)(zg:Pos)(e:Expr)(zf:Pos):Prop where
 base:attributeBase o m X.env (eval o X.env)=eval o X.env
 few:((backTo zf (starEach [e] X.env)).all (λx=> !x.1) && (backToKw zf (keywordEach [] X.env)).all (λx=>x.1.isSome)
  && decide (([e]:List Expr).length + ([]:List Keyword).length + (if([]:List Keyword).isEmpty then 0 else 1) < 30))=true
 line:(zg.endLine ==zf.line)=true
 trees:backTo zf (starEach [e] X.env)= [(false,eval e X.env)]
structure M2(X:Cx)(o:Expr)(m:Str)(zg:Pos)(e f:Expr)(zf:Pos):Prop where
 base:attributeBase o m X.env (eval o X.env)=eval o X.env
 few:((backTo zf (starEach [e,f] X.env)).all (λx=> !x.1) && (backToKw zf (keywordEach [] X.env)).all (λx=>x.1.isSome)
  && decide (([e,f]:List Expr).length + ([]:List Keyword).length + (if([]:List Keyword).isEmpty then 0 else 1) < 30))=true
 line:(zg.endLine ==zf.line)=true
 trees:backTo zf (starEach [e,f] X.env)= [(false,eval e X.env),(false,eval f X.env)]
def IsD(H:Hp)(a:Addr):Prop:=(∃kvs,Rd H a (.dK kvs))\/∃kvs,Rd H a (.dT kvs)
def bv_0{zd:AE}{σ:St}{s:Shared}{a:Addr}(I:Inv X zd σ H s)(d:IsD H a):
  s.TypeIs (.ref a) "dict" /\(∀b,Value.ref a=.ref b->∃ob,s.heap.get? b=some ob/\ob.dict=none)/\(a ==sysModules)=false:=by
 rcases d with⟨kvs,e⟩|⟨kvs,e⟩
 ·obtain⟨_,hd,vs,_,dd⟩:=q_8 I.hok e;refine⟨dd.typeIs,λb q=> ?_,hd⟩;cases q;obtain⟨ob,_,_,h1,h2,_⟩:=dd;exact⟨ob,h1,h2.2.1⟩
 ·obtain⟨_,hd,xs,_,dd⟩:=au_2 I.hok e;refine⟨dd.typeIs,λb q=> ?_,hd⟩;cases q;obtain⟨ob,_,_,h1,h2,_⟩:=dd;exact⟨ob,h1,h2.2.1⟩
section
variable{X:Cx}{zd:AE}{σ:St}{H:Hp}{s:Shared}{a:Addr}{y d:V}{u r:Value}{o:Option V}{A:Around}{E:AA}
def dm_7{Q:AA}(hu:A.units + 1 < cLine)(I:Inv X zd σ H s)(g:DGet H a y o)(ry:RelV y u)(rd:RelV d r)(h:∀w' s',Inv X zd σ H s'->RelV (o.getD d) w'->Q w' s'):
  wpAny (model X.prog X.w) A (call (.builtin "dict.get") [.ref a,u,r]) Q E s:=by
 rcases g with⟨kvs,k,e,ey,l⟩|⟨kvs,k,b,e,ey,eb,l⟩
 ·subst ey;obtain⟨z,hd,vs,rel,dd⟩:=q_8 I.hok e;refine T9 V1 dd.typeIs ZA0 (Y8 _ _ _) (meets_dict_get_default (Dx X.prog X.w) a (ah_8 ry) hd r) ⟨_,dd.mapOf,h _ _ (I.tok _) ?_⟩;rw[l];exact(rel.val k).getD rd
 ·subst ey;cases(show u=Value.ref b from ry);obtain⟨z,hd,xs,rel,dd⟩:=au_2 I.hok e;refine T9 V1 dd.typeIs ZA0 (Y8 _ _ _) (meetsH_dict_get_default (tupleKind (Dx X.prog X.w)) a b hd r) ⟨Q5 hu,k,xs,al_7 I.hok eb,dd,h _ _ (I.tok _) ?_⟩;rw[l];exact(rel.val k).getD rd
end
def dm_8(td ty tx:TE):TE:=λ σ H Q=>td σ H λx H1=>∃a,x=.ref a/\IsD H1 a/\ty σ H1 λy H2=>tx σ H2 λz H3=>∃o,DGet H3 a y o/\Q (o.getD z) H3
def dm_9(td ty:TE):TE:=λ σ H Q=>td σ H λx H1=>∃a,x=.ref a/\IsD H1 a/\ty σ H1 λy H2=>∃kvs k v,H2 a=some (.dK kvs)/\y=kV k/\Co kvs k=some v/\Q v (upd H2 a (.dK (p_6 kvs k)))
section
variable{X:Cx}{o e f:Expr}{zg zf:Pos}{td ty tx:TE}
def cn_8(hu:X.A.units + 1 < cLine)(ho:PE X o td)(he:PE X e ty)(hf:PE X f tx)(m:M2 X o "get" zg e f zf):PE X (.Call (.Attribute o "get" zg) [e,f] [] zf) (dm_8 td ty tx):=by
 intro zd s σ H Q I h;refine Y2 m.base m.few m.line N9 V1 PySem.F.type_dict_get (Bc (ho zd s σ H _ I h) λu s1 ⟨x,H1,I1,rx,a,ex,d,q1⟩=> ?_);subst ex;obtain rfl:u=Value.ref a:=rx;obtain⟨t1,t2,_⟩:=bv_0 I1 d;refine⟨t1,t2, ?_⟩;rw[m.trees];refine L0 rfl (R7 (M0 (Bc (he zd s1 σ H1 _ I1 q1) λiv s2 ⟨y,H2,I2,ry,q2⟩=>
  M0 (Bc (hf zd s2 σ H2 _ I2 q2) λfv s3 ⟨z,H3,I3,rz,ov,g,q3⟩=>P3 ?_))))
 exact dm_7 hu I3 g ry rz λw' s4 I4 rw'=>⟨_,H3,I4,rw',q3⟩
def bm_9(ho:PE X o td)(he:PE X e ty)(m:M1 X o "pop" zg e zf):PE X (.Call (.Attribute o "pop" zg) [e] [] zf) (dm_9 td ty):=by
 intro zd s σ H Q I h;refine Y2 m.base m.few m.line N9 PySem.F.slot_dict_pop PySem.F.type_dict_pop (Bc (ho zd s σ H _ I h) λu s1 ⟨x,H1,I1,rx,a,ex,d,q1⟩=> ?_);subst ex;obtain rfl:u=Value.ref a:=rx;obtain⟨t1,t2,_⟩:=bv_0 I1 d;refine⟨t1,t2, ?_⟩;rw[m.trees];refine L0 rfl (R7 (M0 (Bc (he zd s1 σ H1 _ I1 q1) λiv s2 ⟨y,H2,I2,ry,kvs,k,v,ea,ey,l,q2⟩=>P3 ?_)));subst ey;exact dt_1 I2 ea ry l (.inl rfl) λw' s3 I3 rw'=>⟨v,_,I3,rw',q2⟩
end
section
variable{X:Cx}{zd:AE}{σ:St}{H:Hp}{s:Shared}{a:Addr}{kvs:List (Af×V)}{A:Around}{E:AA}
end
section
variable{X:Cx}{zd:AE}{σ:St}{H:Hp}{s:Shared}{a:Addr}{y:V}{u:Value}{A:Around}{E:AA}
end
section
variable{X:Cx}
end
section
variable{κ:Type} [DecidableEq κ]
def cg_8{p:κ×V}{r:List (κ×V)}{k:κ}(e:p.1=k):p_6 (p::r) k=p_6 r k:=by
 unfold p_6;rw[Q0,if_neg (by simp[e])]
def cg_9{p:κ×V}{r:List (κ×V)}{k:κ}(e:¬p.1=k):p_6 (p::r) k=p::p_6 r k:=by
 unfold p_6;rw[Q0,if_pos (by simp[e])]
end
end L2
namespace L3
open PySem PySem.Spec PyProof.Rows L2
variable{K:Frag}{fd:FuncData}{mg:AB}{us:List Value}{base:Heap}{H:Hp}{X:Cx}{pos:Pos}{v:V}
section
variable{X:Cx}
def Dj{EX:EXT}{G H:Hp}{Q:VK}{d:D}(o:Out K EX G H (.ok (.sh d)) Q)(g:Same G H)(r:Has K G v d):Q v H:=WP.use o g r
def dt_6(K:Frag):R2:=λx y H Q=>∃l b xs zs,x=.ref l/\y=.ref b/\SqL K H l xs/\SqL K H b zs/\xs.length + zs.length<=sizeLine/\∀p,H p=none->Q (.ref p) (upd H p (.lst (xs ++ zs)))
def da_1:OpR X (binaryOp .Add) (dt_6 X.K):=by
 intro zd s σ H x y v u Q I rx ry h;obtain⟨l,b,xs,zs,rfl,rfl,hH,hB,hz,q⟩:=h;cases rx;cases ry;obtain⟨its,r,⟨o,n,e,c,dd,dat⟩,z⟩:=I.list hH;obtain⟨its2,r2,⟨o2,n2,e2,c2,dd2,dat2⟩,z2⟩:=I.list hB;have hl:=r.length;have hl2:=r2.length;obtain⟨cls,dd',data,sl⟩:=o;obtain⟨gi,gj,data2,sl2⟩:=o2;simp only at c dd dat c2 dd2 dat2;subst c dd dat c2 dd2 dat2;refine concat_meets ⟨_,e,rfl⟩ ⟨_,e2,rfl⟩ noFill_list_add seq_list_add PySem.F.slot_list_add PySem.F.entry_list_add (PySem.F.args_list_add_2 _ _) (list_addW l b its.toArray its2.toArray n n2 none none sl sl2 (by rw[D5,D5];omega)) ⟨e,e2, ?_⟩;have ea:its.toArray ++ its2.toArray=(its ++ its2).toArray:=by simp
 rw[ea];exact⟨.ref _,_,I.lnew (t':=s.toks) (r.append r2) (by rw[B7];omega),rfl,q _ I.fresh⟩
def Ca:D->D->R W
 | .int i,.int j=> .ok (.sh (.int (i + j)))
 | .str x,.str y=>if x.length + y.length<=16777216 then .ok (.sh (.str (x ++ y))) else .no
 | .lst a,.lst b=>if a.length + b.length<=16777216 then .ok (.ow (.lst (a ++ b))) else .no
 |_,_=> .no
def Cl:Eu X (binaryOp .Add) Ca:=by
 intro zd s σ H x y v u Q I rx ry h;obtain⟨EX,G,a,b,g,ra,rb,o⟩:=h;cases ra with
 |int i=>
  cases rb with
  |int j=>exact dk_6 zd s σ H _ _ _ _ Q I rx ry ⟨i,j,rfl,rfl,Dj o g (.int _)⟩
  |_=>exact False.elim o
 |str x=>
  cases rb with
  |str y=>
   simp only[Ca]at o
   split at o
   ·rename_i hz;exact bt_9 zd s σ H _ _ _ _ Q I rx ry ⟨x,y,rfl,rfl,by rw[F1];exact hz,Dj o g (.str _)⟩
   ·exact o.elim
  |_=>exact False.elim o
 |lst h1 r1=>
  cases rb with
  |lst h2 r2=>
   simp only[Ca]at o
   split at o
   ·rename_i hz;exact da_1 zd s σ H _ _ _ _ Q I rx ry ⟨_,_,_,_,rfl,rfl,g.seq h1,g.seq h2,by rw[r1.length,r2.length,F1];exact hz,ac_5 o g (r1.append r2)⟩
   ·exact o.elim
  |_=>exact False.elim o
 |_=>cases rb <;> exact False.elim o
def intD(C:Int->Int->Bool)(f:Int->Int->Int):D->D->R W
 | .int i,.int j=>if C i j=true then .ok (.sh (.int (f i j))) else .no
 |_,_=> .no
def ai_0{fn:Value->Value->Sem Value}{C:Int->Int->Bool}{P:Int->Int->Prop}{f:Int->Int->Int}(h:OpR X fn (rI P λi j=> .int (f i j)))(hC:∀i j,C i j=true->P i j):Eu X fn (intD C f):=by
 intro zd s σ H x y v u Q I rx ry q;obtain⟨EX,G,a,b,g,ra,rb,o⟩:=q;cases ra with
 |int i=>
  cases rb with
  |int j=>
   simp only[intD]at o
   split at o
   ·rename_i hc;exact h zd s σ H _ _ _ _ Q I rx ry ⟨i,j,rfl,rfl,hC i j hc,Dj o g (.int _)⟩
   ·exact o.elim
  |_=>exact False.elim o
 |_=>cases rb <;> exact False.elim o
def Ds:D->D->R W:=intD (λ_ _=>true) (λi j=>i - j)
def Er(i j:Int):Bool:=decide (i.natAbs < 18446744073709551616\/j.natAbs < 18446744073709551616)
def Du:D->D->R W:=intD Er (λi j=>i * j)
def divC(_ j:Int):Bool:=decide (0 < j/\j.natAbs < 1361129467683753853853498429727072845824)
def Gg:D->D->R W:=intD divC (λi j=>i / j)
def modC(_ j:Int):Bool:=decide (0 < j)
def Bu:D->D->R W:=intD modC (λi j=>i % j)
def powC(i j:Int):Bool:=decide (0<=j/\j.natAbs<=1000000/\i.natAbs < 18446744073709551616)
def powD:D->D->R W:=intD powC (λi j=>i ^ j.toNat)
def p_3:Eu X (binaryOp .Sub) Ds:=ai_0 (P:=λ_ _=>True) (opI λ_ _ _ _ _ _ _ _ q=>sub_int q) λ_ _ _=>trivial
def Ej:Eu X (binaryOp .Mult) Du:=ai_0 dk_7 λi j h=>by
 have h:=N4 h;rcases h with h|h
 ·exact .inl ⟨by omega,by omega⟩
 ·exact .inr ⟨by omega,by omega⟩
def l_4:Eu X (binaryOp .FloorDiv) Gg:=ai_0 (P:=λ_ j=>0 < j/\j.natAbs < 1361129467683753853853498429727072845824) (opI λi j _ _ _ _ _ hc q=>by
 have h1:(0:Int) < j:=hc.1;have h2:=hc.2;refine floordiv_int () ?_ (.inl (PyProof.noPylong_of_log2 ?_))
 ·rw[Int.fdiv_eq_ediv_of_nonneg i ()];exact q
 ·have:j.natAbs < 2 ^ 130:=by
   have e:(2:Nat) ^ 130=1361129467683753853853498429727072845824:=by decide
   omega
  have l:j.natAbs.log2 < 130:=(Nat.log2_lt ()).mpr this;omega) λi j h=>N4 h
def Cp:Eu X (binaryOp .Mod) Bu:=ai_0 dk_8 λi j h=>N4 h
def da_3{i j:Int}(h:powC i j=true):CPow i j:=by
 obtain⟨h1,h2,h3⟩:=N4 h;refine⟨h1,by omega, ?_⟩;have e:(2:Nat) ^ 64=18446744073709551616:=by decide
 omega
def bz_5:Eu X (binaryOp .Pow) powD:=ai_0 dk_9 λi j h=>da_3 h
def cmpD(f:Int->Int->Bool):D->D->R W
 | .int i,.int j=> .ok (.sh (.bl (f i j)))
 |_,_=> .no
def bh_3{fn:Value->Value->Sem Value}{f:Int->Int->Bool}(h:OpR X fn (rI0 λi j=> .bl (f i j))):Eu X fn (cmpD f):=by
 intro zd s σ H x y v u Q I rx ry q;obtain⟨EX,G,a,b,g,ra,rb,o⟩:=q;cases ra with
 |int i=>
  cases rb with
  |int j=>exact h zd s σ H _ _ _ _ Q I rx ry ⟨i,j,rfl,rfl,Dj o g (.bl _)⟩
  |_=>exact False.elim o
 |_=>cases rb <;> exact False.elim o
def ltD:D->D->R W:=cmpD λi j=>decide (i < j)
def leD:D->D->R W:=cmpD λi j=>decide (i<=j)
def gtD:D->D->R W:=cmpD λi j=>decide (j < i)
def au_5:Eu X (compareOp .Lt) ltD:=bh_3 ds_4
def au_6:Eu X (compareOp .LtE) leD:=bh_3 ds_5
def cn_9:Eu X (compareOp .Gt) gtD:=bh_3 ds_6
mutual
def Ec:D->PyData
 | .non=> .none
 | .bl b=> .bool b
 | .int i=> .int i
 | .str x=> .str x
 | .lst ds=> .list (u_5 ds)
 | .tup ds=> .tuple (u_5 ds)
 | .dic _=> .dict []
 | .exn _ _ _=> .dict []
 | .obj _ _ _=> .dict []
def u_5:List D->List PyData
 | []=> []
 |d::ds=>Ec d::u_5 ds
end
mutual
theorem Has.reads(hK:X.K=K){zd:AE}{σ:Sg}{s:Shared}(I:Inv X zd σ H s){G:Hp}(g:Same G H):∀{v:V} {d:D} {u:Value},(Ec d).canLay0=true->Has K G v d->RelV v u->∃as,Reads s.heap u (Ec d) as
 |_,_,_,_,.non,r=>by cases r;exact⟨_,.none⟩
 |_,_,_,_,.bl b,r=>by cases r;exact⟨_,.bool b⟩
 |_,_,_,_,.int i,r=>by obtain⟨t,rfl⟩:=r;exact⟨_,.int i t⟩
 |_,_,_,_,.str x,r=>by obtain⟨t,rfl⟩:=r;exact⟨_,.str x t⟩
 |_,_,_,c,.lst h r,q=>by
  cases q;obtain⟨its,rv,⟨o,n,e,c',_,dat⟩,_⟩:=I.list (by rw[hK];exact g.seq h);obtain⟨as,z⟩:=HasL.reads hK I g c r rv;exact⟨_,.list e c' dat z⟩
 |_,_,_,c,.tup h r,q=>by
  cases q;obtain⟨its,rv,⟨o,e,c',n,dat⟩,_⟩:=I.tuple (by rw[hK];exact Same.tupS g h);obtain⟨as,z⟩:=HasL.reads hK I g c r rv;exact⟨_,.tuple e c' dat z⟩
 |_,_,_,c,.exn0 _ _,_=>absurd c A6
 |_,_,_,c,.exn1 _ _ _ _ _,_=>absurd c A6
 |_,_,_,c,.dic _ _ _,_=>absurd c A6
 |_,_,_,c,.obj _ _ _ _,_=>absurd c A6
theorem HasL.reads(hK:X.K=K){zd:AE}{σ:Sg}{s:Shared}(I:Inv X zd σ H s){G:Hp}(g:Same G H):∀{vs:List V} {ds:List D} {us:List Value},PyData.canLayAll0 (u_5 ds)=true->HasL K G vs ds->Vals vs us->∃as,ReadsAll s.heap us (u_5 ds) as
 |_,_,_,_,.nil,r=>by cases r;exact⟨_,.nil⟩
 |_,_,_,c,.cons h t,r=>by
  cases r with
  |cons r1 r2=>
   have c':(PyData.canLay0 (Ec _) && PyData.canLayAll0 (u_5 _))=true:=c;rw[D9]at c';obtain⟨a1,z1⟩:=Has.reads hK I g c'.1 h r1;obtain⟨a2,z2⟩:=HasL.reads hK I g c'.2 t r2;exact⟨_,.cons z1 z2⟩
end
def Gh(a b:D):Bool:=(Ec a).canLay0 && (Ec b).canLay0 && decide ((Ec a).depth<=60)
def Fq(a b:D):Bool:=(Ec a).eqv (Ec b)
def Cm(a b:D):R W:=match a,b with
 | .str x,.str y=> .ok (.sh (.bl (decide (x=y))))
 |a,b=>if Gh a b=true then .ok (.sh (.bl (Fq a b))) else .no
def Dt(a b:D):R W:=match a,b with
 | .str x,.str y=> .ok (.sh (.bl (!decide (x=y))))
 |a,b=>if Gh a b=true then .ok (.sh (.bl (!Fq a b))) else .no
def bn_0(x y:Str):decide (V.str x=V.str y)=decide (x=y):=by
 by_cases e:x=y
 ·subst e;simp
 ·rw[C1 e,C1 (λz=>e (by injection z))]
def n_5(hu:X.A.units + 64 < cLine):Eu X (compareOp .Eq) Cm:=by
 intro zd s σ H x y v u Q I rx ry q;obtain⟨EX,G,a,b,g,ra,rb,o⟩:=q;unfold Cm at o
 split at o
 ·rename_i x y;cases ra;cases rb;exact ds_2 zd s σ H _ _ _ _ Q I rx ry ⟨rfl,by rw[bn_0];exact Dj o g (.bl _)⟩
 ·split at o
  ·rename_i hc;unfold Gh at hc;rw[D9,D9]at hc;obtain⟨⟨h1,h2⟩,h3⟩:=hc;have h3:=N4 h3;obtain⟨as,za⟩:=Has.reads rfl I g h1 ra rx;obtain⟨bs,zb⟩:=Has.reads rfl I g h2 rb ry;refine PySem.SeqAt.compareEq_reads za zb h1 h2 ?_ ⟨.bl _,H,I,rfl,Dj o g (.bl _)⟩;have:=Nat.min_le_left (Ec a).depth (Ec b).depth;omega
  ·exact o.elim
def x_7(hu:X.A.units + 64 < cLine):Eu X (compareOp .NotEq) Dt:=by
 intro zd s σ H x y v u Q I rx ry q;obtain⟨EX,G,a,b,g,ra,rb,o⟩:=q;unfold Dt at o
 split at o
 ·rename_i x y;cases ra;cases rb;exact ds_3 zd s σ H _ _ _ _ Q I rx ry ⟨rfl,by rw[bn_0];exact Dj o g (.bl _)⟩
 ·split at o
  ·rename_i hc;unfold Gh at hc;rw[D9,D9]at hc;obtain⟨⟨h1,h2⟩,h3⟩:=hc;have h3:=N4 h3;obtain⟨as,za⟩:=Has.reads rfl I g h1 ra rx;obtain⟨bs,zb⟩:=Has.reads rfl I g h2 rb ry;refine PySem.SeqAt.compareNe_reads za zb h1 h2 ?_ ⟨.bl _,H,I,rfl,Dj o g (.bl _)⟩;have:=Nat.min_le_left (Ec a).depth (Ec b).depth;omega
  ·exact o.elim
def Bb:D->Bool
 | .non=>true
 | .bl _=>true
 | .int _=>true
 | .str _=>true
 |_=>false
def flV:D->V
 | .bl b=> .bl b
 | .int i=> .int i
 | .str x=> .str x
 |_=> .non
def Has.fl{G:Hp}{d:D}(r:Has K G v d)(f:Bb d=true):v=flV d/\Fv v=true:=by
 cases r with
 |non=>exact⟨rfl,rfl⟩
 |bl b=>exact⟨rfl,rfl⟩
 |int i=>exact⟨rfl,rfl⟩
 |str x=>exact⟨rfl,rfl⟩
 |lst _ _=>cases f
 |tup _ _=>cases f
 |exn0 _ _=>cases f
 |exn1 _ _ _ _ _=>cases f
 |dic _ _ _=>cases f
 |obj _ _ _ _=>cases f
def Has.ofFl{G G':Hp}{d:D}(r:Has K G v d)(f:Bb d=true):Has K G' v d:=by
 cases r with
 |non=>exact .non
 |bl b=>exact .bl b
 |int i=>exact .int i
 |str x=>exact .str x
 |lst _ _=>cases f
 |tup _ _=>cases f
 |exn0 _ _=>cases f
 |exn1 _ _ _ _ _=>cases f
 |dic _ _ _=>cases f
 |obj _ _ _ _=>cases f
theorem HasL.fl{G:Hp}:∀{vs:List V} {ds:List D},HasL K G vs ds->ds.all Bb=true->vs=ds.map flV/\vs.all Fv=true
 |_,_,.nil,_=>⟨rfl,rfl⟩
 |_,_,.cons h r,f=>by
  rw[P4,D9]at f;obtain⟨e1,e2⟩:=h.fl f.1;obtain⟨e3,e4⟩:=HasL.fl r f.2;exact⟨by rw[B3,<-e1,<-e3],by rw[P4,e2,e4];rfl⟩
def eqF(a b:D):Bool:=eqV (flV a) (flV b)
def Cv(d:D)(ds:List D):Bool:=ds.any λy=>eqF y d
def bz_6(d:D)(ds:List D):inV (flV d) (ds.map flV)=Cv d ds:=by
 unfold inV Cv;rw[List.any_map];rfl
def Ep(neg:Bool):D->D->R W
 | .str i,.str j=> .ok (.sh (.bl (if neg then !(!(Builtin.Str.occurrences j i 0 j.length 1).isEmpty) else !(Builtin.Str.occurrences j i 0 j.length 1).isEmpty)))
 |d,.lst ds=>if(Bb d && ds.all Bb)=true then .ok (.sh (.bl (if neg then !Cv d ds else Cv d ds))) else .no
 |d,.tup ds=>if(Bb d && ds.all Bb)=true then .ok (.sh (.bl (if neg then !Cv d ds else Cv d ds))) else .no
 |_,_=> .no
def bz_7{EX:EXT}{G H:Hp}{x y:V}{d:D}{e:D}{Q:VK}{neg:Bool}(g:Same G H)(ra:Has X.K G x d)(rb:Has X.K G y e)(hd:∀i j,d=.str i->e=.str j->False)(o:Out X.K EX G H (Ep neg d e) Q):rIn X.K neg x y H Q:=by
 cases rb with
 |lst h r=>
  rename_i ds;have o':Out X.K EX G H (if(Bb d && ds.all Bb)=true then .ok (.sh (.bl (if neg then !Cv d ds else Cv d ds))) else .no) Q:=by
   cases d <;> exact o
  split at o'
  ·rename_i f;rw[D9]at f;obtain⟨e1,e2⟩:=ra.fl f.1;obtain⟨e3,e4⟩:=r.fl f.2;refine⟨_,_,rfl,.inl (g.seq h),e2,e4, ?_⟩;rw[e1,e3,bz_6];exact Dj o' g (.bl _)
  ·exact o'.elim
 |tup h r=>
  rename_i ds;have o':Out X.K EX G H (if(Bb d && ds.all Bb)=true then .ok (.sh (.bl (if neg then !Cv d ds else Cv d ds))) else .no) Q:=by
   cases d <;> exact o
  split at o'
  ·rename_i f;rw[D9]at f;obtain⟨e1,e2⟩:=ra.fl f.1;obtain⟨e3,e4⟩:=r.fl f.2;refine⟨_,_,rfl,.inr (Same.tupS g h),e2,e4, ?_⟩;rw[e1,e3,bz_6];exact Dj o' g (.bl _)
  ·exact o'.elim
 |str j=>
  cases d with
  |str i=>exact(hd i j rfl rfl).elim
  |_=>exact False.elim o
 |_=>cases d <;> exact False.elim o
def bv_1:Eu X (compareOp .In) (Ep false):=by
 intro zd s σ H x y v u Q I rx ry q;obtain⟨EX,G,a,b,g,ra,rb,o⟩:=q
 by_cases hs:∃i j,a=.str i/\b=.str j
 ·obtain⟨i,j,rfl,rfl⟩:=hs;cases ra;cases rb;exact cf_4 zd s σ H _ _ _ _ Q I rx ry ⟨i,j,rfl,rfl,Dj o g (.bl _)⟩
 ·exact cg_1 zd s σ H _ _ _ _ Q I rx ry (bz_7 g ra rb (λi j e1 e2=>hs ⟨i,j,e1,e2⟩) o)
def al_8:Eu X (compareOp .NotIn) (Ep true):=by
 intro zd s σ H x y v u Q I rx ry q;obtain⟨EX,G,a,b,g,ra,rb,o⟩:=q
 by_cases hs:∃i j,a=.str i/\b=.str j
 ·obtain⟨i,j,rfl,rfl⟩:=hs;cases ra;cases rb;exact bg_2 zd s σ H _ _ _ _ Q I rx ry ⟨i,j,rfl,rfl,Dj o g (.bl _)⟩
 ·exact bg_1 zd s σ H _ _ _ _ Q I rx ry (bz_7 g ra rb (λi j e1 e2=>hs ⟨i,j,e1,e2⟩) o)
def x_8:List D->R W
 | [.str x]=>if x.length<=16777216 then .ok (.sh (.int x.length)) else .no
 | [.lst ds]=> .ok (.sh (.int ds.length))
 | [.tup ds]=> .ok (.sh (.int ds.length))
 |_=> .no
def i_2:Fx X (.builtin "len") x_8:=by
 intro zd s σ H vs us Q I rv q;obtain⟨EX,G,ds,g,r,o⟩:=q;cases r with
 |nil=>exact False.elim o
 |cons h t=>
  cases t with
  |cons _ _=>cases h <;> exact False.elim o
  |nil=>
   cases h with
   |str x=>
    simp only[x_8]at o
    split at o
    ·rename_i hz;exact bg_3 zd s σ H _ _ Q I rv ⟨x,rfl,by rw[F1];exact hz,Dj o g (.int _)⟩
    ·exact o.elim
   |lst h r=>exact ah_6 zd s σ H _ _ Q I rv ⟨_,_,rfl,.inl (g.seq h),by rw[r.length];exact Dj o g (.int _)⟩
   |tup h r=>exact ah_6 zd s σ H _ _ Q I rv ⟨_,_,rfl,.inr (Same.tupS g h),by rw[r.length];exact Dj o g (.int _)⟩
   |_=>exact False.elim o
def maxD:List D->R W
 | [.int i,.int j]=> .ok (.sh (.int (if j > i then j else i)))
 |_=> .no
def minD:List D->R W
 | [.int i,.int j]=> .ok (.sh (.int (if j < i then j else i)))
 |_=> .no
def bn_2{G:Hp}{vs:List V}{ds:List D}(r:HasL K G vs ds){P:Prop}(h:∀i j,vs= [.int i,.int j]->ds= [.int i,.int j]->P)(n:(∀i j,ds≠ [.int i,.int j])->P):P:=by
 by_cases e:∃i j,ds= [.int i,.int j]
 ·obtain⟨i,j,rfl⟩:=e;cases r with
  |cons a t=>
   cases t with
   |cons b t2=>
    cases t2;cases a;cases b;exact h i j rfl rfl
 ·exact n λi j z=>e ⟨i,j,z⟩
def da_5{ds:List D}(h:∀i j,ds≠ [.int i,.int j]):maxD ds=.no:=by
 unfold maxD
 split
 ·rename_i i j;exact absurd rfl (h i j)
 ·rfl
def da_6{ds:List D}(h:∀i j,ds≠ [.int i,.int j]):minD ds=.no:=by
 unfold minD
 split
 ·rename_i i j;exact absurd rfl (h i j)
 ·rfl
def al_9(hc:X.calm=true):Fx X (.builtin "max") maxD:=by
 intro zd s σ H vs us Q I rv q;obtain⟨EX,G,ds,g,r,o⟩:=q;refine bn_2 r (λi j e1 e2=> ?_) λn=> ?_
 ·subst e1 e2;exact cf_5 hc zd s σ H _ _ Q I rv ⟨i,j,rfl,Dj o g (.int _)⟩
 ·rw[da_5 n]at o;exact o.elim
def ch_1(hc:X.calm=true):Fx X (.builtin "min") minD:=by
 intro zd s σ H vs us Q I rv q;obtain⟨EX,G,ds,g,r,o⟩:=q;refine bn_2 r (λi j e1 e2=> ?_) λn=> ?_
 ·subst e1 e2;exact cf_6 hc zd s σ H _ _ Q I rv ⟨i,j,rfl,Dj o g (.int _)⟩
 ·rw[da_6 n]at o;exact o.elim
def bv_2:List D->R W
 | [.lst ds]=> .ok (.ow (.lst ds))
 | [.tup ds]=> .ok (.ow (.lst ds))
 |_=> .no
def bn_3:Fx X (.type "list") bv_2:=by
 intro zd s σ H vs us Q I rv q;obtain⟨EX,G,ds,g,r,o⟩:=q;cases r with
 |nil=>exact False.elim o
 |cons h t=>
  cases t with
  |cons _ _=>cases h <;> exact False.elim o
  |nil=>
   cases h with
   |lst h r=>exact ah_7 zd s σ H _ _ Q I rv ⟨_,_,rfl,.inl (g.seq h),ac_5 o g r⟩
   |tup h r=>exact ah_7 zd s σ H _ _ Q I rv ⟨_,_,rfl,.inr (Same.tupS g h),ac_5 o g r⟩
   |_=>exact False.elim o
def co_1:List D->R W
 | [.lst ds]=> .ok (.sh (.tup ds))
 | [.tup ds]=> .ok (.sh (.tup ds))
 |_=> .no
def bv_3:Fx X (.type "tuple") co_1:=by
 intro zd s σ H vs us Q I rv q;obtain⟨EX,G,ds,g,r,o⟩:=q;cases r with
 |nil=>exact False.elim o
 |cons h t=>
  cases t with
  |cons _ _=>cases h <;> exact False.elim o
  |nil=>
   cases h with
   |lst h r=>
    refine ae_6 zd s σ H _ _ Q I rv ⟨_,_,rfl,.inl ⟨g.seq h,λp hp=> ?_⟩⟩;exact o (.ref p) _ _ (Step.new g hp _) (.tup (SqT.of Bk) (r.mono (j_4 (g.free hp) _)))
   |tup h r=>exact ae_6 zd s σ H _ _ Q I rv ⟨_,_,rfl,.inr ⟨Same.tupS g h,Dj o g (.tup h r)⟩⟩
   |_=>exact False.elim o
end
structure RoomC(c:Bool)(k:Nat)(A:Around):Prop where
 hd:c=true->A.handled=none
 dp:A.depth + 3 * k + 5 < recursionLimit
 un:A.units + 16 * k + 200 < cLine
def RoomC.mono{c:Bool}{j k:Nat}{A:Around}(r:RoomC c k A)(h:j<=k):RoomC c j A:=⟨r.hd,by have:=r.dp;omega,by have:=r.un;omega⟩
theorem RoomC.deeper{c:Bool}{k:Nat}{A:Around}(r:RoomC c (k + 1) A)(env:Env):RoomC c k (A.deeper env):=
 ⟨r.hd,by have:=r.dp;show A.depth + 1 + 3 * k + 5 < _;omega,by have:=r.un;show A.units + 3 + 16 * k + 200 < _;omega⟩
def RoomC.make{c:Bool}{k:Nat}{A:Around}(r:RoomC c (k + 1) A)(C:Addr)(us:List Value)(kw:List (Str×Value)):RoomC c k (A.under (.builtin "type.__call__" ⟨.ref C::us,kw⟩)):=
 ⟨r.hd,by have:=r.dp;rw[bu_4];omega,by have:=r.un;rw[bu_5];omega⟩
def RoomC.loose{c:Bool}{k:Nat}{A:Around}(r:RoomC c k A):RoomC false k A:=⟨λz=>absurd z A6,r.dp,r.un⟩
theorem RoomC.mark{c:Bool}{k:Nat}{A:Around}(r:RoomC c k A)(h:Option Value):RoomC false k (A.mark h):=⟨λz=>absurd z A6,r.dp,r.un⟩
def RoomC.of{k:Nat}{A:Around}(r:Room k A):RoomC true k A:=⟨λ_=>r.hd,r.dp,r.un⟩
structure FnX(P:Program)(w:World)(K:Frag)(mg:AB)(base:Heap)(c:Bool)(k:Nat)(f:Addr)(fd:FuncData)(ps:List Str)(sp:Sp):Prop where
 len:∀vs H Q E,sp vs H Q E->vs.length=ps.length
 run:∀(A:Around) (outer:List Env) (s:Shared) (H:Hp) (args:Args) (us:List Value) (vs:List V) (Q:VK) (E:XK),RoomC c k A->Env0 P w K mg base A outer s H->BindsTo s fd args (ps.zip us)->Vals vs us->sp vs H Q E->
  codeAny (model P w) A (.call (.ref f) args) (CR (CXr P w) outer P w H s Q E) s
abbrev Gc(c:Bool)(P:Program)(w:World)(K:Frag)(mg:AB)(base:Heap)(N:List Str)(qual:Str)(scope:Scope)(f:Addr)(cd:Value)(A:Around)(outer:List Env)(s:Shared)(H:Hp)(E:XK):Cx:=
 {Fe (CXr P w) P w K mg base N qual scope f cd A outer s H E with calm:=c}
def bv_4{c:Bool}{P:Program}{w:World}{N ps:List Str}{qual:Str}{scope:Scope}{f:Addr}{cd:Value}{A:Around}{outer:List Env}{s s1:Shared}{E:XK}{vs:List V}
  (S:FnScope N ps scope) (hd:c=true->A.handled=none) (e0:Env0 P w K mg base A outer s H) (hl:vs.length=ps.length) (r:Vals vs us)
  (x:InCallC s s.heap.objs.size (bindL (envOfC qual scope s.heap.objs.size f cd).kindOf (ps.zip us) λ_=>none) (cellsFrom (s.heap.objs.size + 1) scope.names []) (bindC (envOfC qual scope s.heap.objs.size f cd).kindOf (ps.zip us) λ_=>none) s1):
  Inv (Gc c P w K mg base N qual scope f cd A outer s H E) [] (start N vs) H s1:=by
 have I:=cf_9 (CX:=CXr P w) (E:=E) (qual:=qual) (f:=f) (cd:=cd) (A:={A with handled:=none}) S rfl ⟨e0.frames,e0.mod,e0.bs,e0.bsz,e0.funs,e0.frf,e0.hok,e0.bare⟩ hl r x;exact⟨⟨I.ok.mod,I.ok.kind,I.ok.glob,I.ok.blt,I.ok.above,I.ok.inj,I.ok.has,I.ok.cab,hd,Around.frames_deeper e0.frames,I.ok.stk,I.ok.exf,I.ok.bs,I.ok.bsz,I.ok.noex,I.ok.exfs,I.ok.funs,I.ok.frf⟩,
  I.os,I.bare,I.base,I.loc,I.cell,I.free,I.freeC,I.pin,I.hok,I.len⟩
def dn_0{c:Bool}{P:Program}{w:World}{k:Nat}{f:Addr}{name qual:Str}{params:Arguments}{body:List Stmt}{scope:Scope}{dV kV doc pm zp ct oc:Value}{an od:Option Addr}
  {osl:Array (Option Value)} {N ps:List Str} {sp:Sp} (lk:K.lookup f=some ⟨oc,od,.func (fnOf name qual params body scope dV kV doc pm an zp ct),osl⟩) (hcd:codeIn K zp qual=true) (S:FnScope N ps scope)
  (len:∀vs H Q E,sp vs H Q E->vs.length=ps.length)
  (zj:∀(A:Around) (outer:List Env) (s:Shared) (H:Hp) (vs:List V) (Q:VK) (E:XK),RoomC c k (A.deeper (envOfC qual scope s.heap.objs.size f zp))->sp vs H Q E->
   ∃t,PSs (Gc c P w K mg base N qual scope f zp A outer s H E) body t/\t {nx:=λ_ H'=>Q .non H',rt:=Q} (start N vs) H):
  FnX P w K mg base c (k + 1) f (fnOf name qual params body scope dV kV doc pm an zp ct) ps sp:=by
 refine⟨len,λA outer s H args us vs Q E hr e0 hb r hsp=> ?_⟩;have hl:=len _ _ _ _ hsp;have KX:K.In s.heap:=e0.mod.kin.keeps λb o e=>(e0.bs b o e).1;have lim:s.heap.NoLimit:=e0.mod.nolimit.keeps λb o e=>(e0.bs b o e).1;have cv:∀y∈ps.zip us,scope.names.lookup y.1=some .local\/(scope.names.lookup y.1=some .cell/\((cellsFrom (s.heap.objs.size + 1) scope.names []).lookup y.1).isSome=true):=λ⟨n,v⟩ hy=>by
  rcases S.par n (W2 hy).1 with q|q
  ·exact .inl q
  ·exact .inr ⟨q,ZA7 _ _ _ (.inl q)⟩
 have dp:A.depth < recursionLimit:=by have:=hr.dp;omega
 refine codeAny_call_function dp (KX _ _ lk) rfl S.co S.gen rfl (codeRec_of KX hcd) (hb _ _ _ _ ?_);refine wpAny_newFunctionEnv_cells S.kind cv λenv he s1 x=> ?_;subst he;refine⟨lim.keeps x.toInCall.keep,codeAny_func ?_⟩;obtain⟨t,ht,hq⟩:=zj A outer s H vs Q E (hr.deeper _) hsp;have I:Inv (Gc c P w K mg base N qual scope f zp A outer s H E) [] (start N vs) H s1:=bv_4 S hr.hd e0 hl r x;refine F3 (ht [] s1 (start N vs) H _ I hq) (λfl s' hs=> ?_) λe s' hs=>hs;have fin:∀{σ':Sg} {H':Hp} {v:V} {u:Value},Inv (Gc c P w K mg base N qual scope f zp A outer s H E) [] σ' H' s'->RelV v u->Q v H'->CE outer P w H s Q u s':=
  λ{σ' H' v u} J rv q=>⟨v,H',J.os,J.bare,J.base,J.hok,rv,q⟩
 cases fl with
 |ret u=>
  obtain⟨v,σ',H',J,rv,q⟩:=hs;exact fin J rv q
 |next=>
  obtain⟨σ',H',J,q⟩:=hs;exact fin (v:=V.non) (u:=Value.none) J rfl q
 |brk=>
  obtain⟨_,_,_,q⟩:=hs;exact False.elim q
 |cont=>
  obtain⟨_,_,_,q⟩:=hs;exact False.elim q
def Fun.okX{c:Bool}{P:Program}{w:World}{x qual:Str}{st:Stmt}{f:Addr}{N ps:List Str}{k:Nat}{sp:Sp}(F:Fun K x qual st f fd)(S:FnScope N ps (Ch st))(len:∀vs H Q E,sp vs H Q E->vs.length=ps.length)
  (zj:∀(zp:Value) (A:Around) (outer:List Env) (s:Shared) (H:Hp) (vs:List V) (Q:VK) (E:XK),RoomC c k (A.deeper (envOfC qual (Ch st) s.heap.objs.size f zp))->sp vs H Q E->
   ∃t,PSs (Gc c P w K mg base N qual (Ch st) f zp A outer s H E) (Ft st) t/\t {nx:=λ_ H'=>Q .non H',rt:=Q} (start N vs) H):FnX P w K mg base c (k + 1) f fd ps sp:=by
 obtain⟨oc,od,kV,doc,pm,an,zp,ct,osl,rfl,lk,hcd⟩:=F.ex;exact dn_0 lk hcd S len λA outer s H vs Q E hr hsp=>zj zp A outer s H vs Q E hr hsp
def Lk(X:Cx)(EX:Az):Prop:=∀(zd:AE) (σ:Sg) (H:Hp) (s:Shared) (e:Value) (s':Shared),Inv X zd σ H s->CXr X.prog X.w X.stack H s (EXE X.K (EX σ)) e s'->X.xe e s'
def ai_1:Lk X Bt:=λzd σ H s e s' I c=>by
 obtain⟨a,C,dx,T,H',_,_,_,_,_,_,_,_,_,_,x,G,_,_,q⟩:=c;exact False.elim q
def bh_4{c:Bool}{P:Program}{w:World}{N:List Str}{qual:Str}{scope:Scope}{f:Addr}{cd:Value}{A:Around}{outer:List Env}{s:Shared}{E:XK}:
  Lk (Gc c P w K mg base N qual scope f cd A outer s H E) (λ_=>EXof K E):=λzd σ H s e s' I h=>cg_4 I h λcls dx H' q=>q.of
def Bx(K:Frag)(n:Nat)(F:AF):Sp:=λvs H Q E=>vs.length=n/\∃G ds,Same G H/\HasL K G vs ds/\Out K (EXof K E) G H (F ds) Q
def Bi(n:Nat)(F:AF)(fa:FA):FE:=λ δ=>(fa δ).bind λds=>if ds.length=n then F ds else .no
def FnD(P:Program)(w:World)(K:Frag)(mg:AB)(base:Heap)(c:Bool)(x:Str)(k:Nat)(ps:List Str)(F:AF):Prop:=
 ∃f fd,FnX P w K mg base c k f fd ps (Bx K ps.length F)/\mg x=some (.ref f)/\keepIn K (.ref f)=true/\Binds K fd ps []
section
variable{X:Cx}{EX:Az}{e:Expr}{es:List Expr}{fa:FA}{x:Str}{pp pos:Pos}{c:Bool}{k k':Nat}{ps:List Str}{F:AF}
def ar_8{zd:AE}{σ:Sg}{s:Shared}{Q:VK}{vs:List V}{f:Addr}{sp:Sp}(F:FnX X.prog X.w X.K X.mg X.base c k f fd ps sp)(hr:RoomC c k X.A)(hb:Binds X.K fd ps [])(lk:Lk X EX)
  (I:Inv X zd σ H s) (r:Vals vs us) (h:sp vs H Q (EXE X.K (EX σ))):wpAny (model X.prog X.w) X.A (call (.ref f) us) (EP X zd σ Q) X.xe s:=by
 have hl:us.length=ps.length:=by rw[<-r.length];exact F.len _ _ _ _ h
 have hb':=hb s us I.kIn (by rw[D8];exact hl);rw[D8]at hb';refine V5 (Q4 (F.run X.A X.stack s H ⟨us,[]⟩ us vs Q _ hr I.env0 hb' r h) λr s' hq=> ?_);cases r with
 |error e=>exact lk zd σ H s e s' I hq
 |ok fl=>
  cases fl with
  |ret u=>exact I.after hq
  |next=>exact False.elim hq
  |brk=>exact False.elim hq
  |cont=>exact False.elim hq
def Bw(hr:RoomC c k' X.A)(lk:Lk X EX)(h:FnD X.prog X.w X.K X.mg X.base c x k ps F)(ha:AD X EX (e::es) fa)(hk:k<=k':=by decide)(hg:Gl X x:=by rfl)(hdb:AG x:=by decide)
  (he:starEach (e::es) X.env=(false,eval e X.env)::starEach es X.env:=by rfl) (hpl:(backTo pos (starEach es X.env)).any (·.1)=false:=by rfl):
  ED X EX (.Call (.Name x pp) (e::es) [] pos) (Bi ps.length F fa):=by
 obtain⟨f,fd,ok,hm,kp,hb⟩:=h;intro zd s σ H Q I q;obtain⟨G,δ,g0,s0,o⟩:=q;refine M3 (r_1 I hg hm ?_ hdb);have ta:tDa X.K EX fa σ H λvs H1=>Bx X.K ps.length F vs H1 Q (EXE X.K (EX σ)):=by
  refine tDa.seq g0 s0 o λds vs G' H' _ st r o'=> ?_
  split at o'
  ·rename_i hl;refine⟨by rw[r.length];exact hl,G',ds,st.gh,r, ?_⟩;cases q:F ds with
   |ok w=>rw[q]at o';exact o'
   |ex x=>rw[q]at o';exact EXof.in o'
   |no=>rw[q]at o';exact o'.elim
  ·exact o'.elim
 refine X2 (h₀:=X.base) I.ok.mod.kin kp (Bc (ha pos zd s σ H _ I ta) λus s1 ⟨vs,H1,I1,r,q⟩=>⟨I1.kIn, ?_⟩) he hpl;exact ar_8 ok (hr.mono hk) hb lk I1 r q
end
inductive Sl where
 |no|sh (d:D)|ow (d:D)|tr (t:Tn)|lk (d:D)|lt (t:Tn)
abbrev SE:=List Sl
inductive Fl where
 |nx (Δ:SE)|rt (w:W)|bk (Δ:SE)|ct (Δ:SE)|ex (x:Xn) (Δ:SE)|rv (d:D) (Δ:SE)|no
abbrev FS:=SE->Fl
def Sl.pub:Sl->Option D
 | .sh d=>some d
 |_=>none
def Sl.any:Sl->Option D
 | .sh d=>some d
 | .ow d=>some d
 | .tr t=>some t.d
 | .lk d=>some d
 | .lt t=>some t.d
 | .no=>none
def Sl.give:Sl->Sl
 | .ow d=> .sh d
 | .tr t=> .sh t.d
 |s=>s
def Sl.own:Sl->Option Tn
 | .ow d=>some (Tn.of d)
 | .tr t=>some t
 | .lk d=>some (Tn.of d)
 | .lt t=>some t
 |_=>none
def Aw(Δ:SE):DE:=Δ.map Sl.pub
def Bj(Δ:SE):DE:=Δ.map Sl.any
def gall(Δ:SE):SE:=Δ.map Sl.give
abbrev OS:=Nat->AS
structure HB where
 h:Hp
 b:Nat->Addr
structure Ev(K:Frag)(H0:HB)(G0 G H:Hp)(σ:Sg)(Δ:SE)(A:OS):Prop where
 st:Step G0 H0.h G H
 len:σ.length=Δ.length
 sh:∀(i:Nat) (d:D),Δ[i]? =some (.sh d)->∃v,σ[i]? =some (some v)/\Has K G v d
 ow:∀(i:Nat) (s:Sl) (t:Tn),Δ[i]? =some s->s.own=some t->∃v,σ[i]? =some (some v)/\Ow K G H v t (A i)
 out:∀(i:Nat) (a:Addr),A i a->G a=none/\H0.h a=none/\H a≠none
 dj:∀(i j:Nat) (a:Addr),A i a->A j a->i=j
 lk:∀(i:Nat) (d:D),Δ[i]? =some (.lk d)->σ[i]? =some (some (.ref (H0.b i)))
 lt:∀(i:Nat) (t:Tn),Δ[i]? =some (.lt t)->σ[i]? =some (some (.ref (H0.b i)))
def Dd(G H:Hp)(A:OS):Hp:=Do G H λb=>∃i,A i b
structure MStep(S:AS)(G H G' H':Hp):Prop where
 hh:∀b o,¬S b->H b=some o->H' b=some o
 al:∀b,H b≠none->H' b≠none
 gh:Same G' H'
 gg:Same G G'
 nw:∀b,G b=none->H b≠none->G' b=none
structure MStep2(S:AS)(G H G' H':Hp):Prop where
 hh:∀b o,¬S b->H b=some o->H' b=some o
 gh:Same G' H'
 gg:Same G G'
 nw:∀b,¬S b->G b=none->H b≠none->G' b=none
def MStep.weak{S:AS}{G H G' H':Hp}(m:MStep S G H G' H'):MStep2 S G H G' H':=⟨m.hh,m.gh,m.gg,λb _=>m.nw b⟩
def Step.m{S:AS}{G H G' H':Hp}(s:Step G H G' H'):MStep S G H G' H':=⟨λb o _ q=>s.hh b o q,λb n z=>n (s.hh.free z),s.gh,s.gg,s.nw⟩
def MStep.andThen{S:AS}{G H G1 H1 G2 H2:Hp}(a:MStep S G H G1 H1)(b:Step G1 H1 G2 H2):MStep S G H G2 H2:=
 ⟨λc o n q=>b.hh c o (a.hh c o n q),λc n z=>a.al c n (b.hh.free z),b.gh,a.gg.trans b.gg,λc e n=>b.nw c (a.nw c e n) (a.al c n)⟩
def MStep.write{S:AS}{G H:Hp}(g:Same G H){a:Addr}(hs:S a)(n:G a=none)(o:HO):MStep S G H G (L2.upd H a o):=
 ⟨λb o' nb q=>by rw[Ao (λz=>nb (by rw[z];exact hs))];exact q,λb nb=>by
  by_cases z:b=a
  ·subst z;rw[Bk];simp
  ·rw[Ao z];exact nb,λb o' q=>by
  by_cases z:b=a
  ·subst z;rw[n]at q;cases q
  ·rw[Ao z];exact g b o' q,Same.refl _,λ_ e _=>e⟩
def x_9(A:OS)(i:Nat)(S:AS):OS:=λj=>if j=i then S else A j
def g_2{A:OS}{i:Nat}{S:AS}:x_9 A i S i=S:=if_pos rfl
def Gf{A:OS}{i j:Nat}{S:AS}(h:j≠i):x_9 A i S j=A j:=if_neg h
section
variable{K:Frag}{H0:HB}{G0 G H G' H':Hp}{σ:Sg}{Δ:SE}{A:OS}
def Ev.gsh(E:Ev K H0 G0 G H σ Δ A):HasS K G σ (Aw Δ):=⟨by rw[E.len];unfold Aw;rw[A3],λi d q=>by
 unfold Aw at q;rw[A8]at q;cases e:Δ[i]? with
 |none=>rw[e]at q;cases q
 |some z=>
  rw[e]at q;cases z with
  |sh d'=>cases q;exact E.sh i d e
  |_=>cases q⟩
def Ev.aH(E:Ev K H0 G0 G H σ Δ A):Same (Dd G H A) H:=λb o q=>by
 unfold Dd Do at q
 split at q
 ·exact q
 ·exact E.st.gh b o q
def Ev.aG(E:Ev K H0 G0 G H σ Δ A):Same G (Dd G H A):=λb o q=>by
 unfold Dd Do
 split
 ·rename_i hb;obtain⟨i,hb⟩:=hb;rw[(E.out i b hb).1]at q;cases q
 ·exact q
def Ev.aStep(E:Ev K H0 G0 G H σ Δ A):Step G0 H0.h (Dd G H A) H:=
 ⟨E.st.hh,E.aH,E.st.gg.trans E.aG,λb n z=>by
  unfold Dd Do
  split
  ·rename_i hb;obtain⟨i,hb⟩:=hb;exact absurd (E.out i b hb).2.1 z
  ·exact E.st.nw b n z⟩
def Ev.aIn{A:OS}{G H:Hp}{i:Nat}{b:Addr}{o:HO}(hb:A i b)(q:H b=some o):Dd G H A b=some o:=by
 unfold Dd Do;rw[if_pos ⟨i,hb⟩];exact q
def Ev.gall(E:Ev K H0 G0 G H σ Δ A):HasS K (Dd G H A) σ (Bj Δ):=⟨by rw[E.len];unfold Bj;rw[A3],λi d q=>by
 unfold Bj at q;rw[A8]at q;cases e:Δ[i]? with
 |none=>rw[e]at q;cases q
 |some z=>
  rw[e]at q;cases z with
  |sh d'=>
   cases q;obtain⟨v,e1,r⟩:=E.sh i d e;exact⟨v,e1,r.mono E.aG⟩
  |ow d'=>
   cases q;obtain⟨v,e1,t⟩:=E.ow i _ _ e rfl;have r:=t.has E.aG λb o hb q=>Ev.aIn hb q;rw[Tn.of_d]at r;exact⟨v,e1,r⟩
  |tr t'=>
   cases q;obtain⟨v,e1,t⟩:=E.ow i _ _ e rfl;exact⟨v,e1,t.has E.aG λb o hb q=>Ev.aIn hb q⟩
  |lk d'=>
   cases q;obtain⟨v,e1,t⟩:=E.ow i _ _ e rfl;have r:=t.has E.aG λb o hb q=>Ev.aIn hb q;rw[Tn.of_d]at r;exact⟨v,e1,r⟩
  |lt t'=>
   cases q;obtain⟨v,e1,t⟩:=E.ow i _ _ e rfl;exact⟨v,e1,t.has E.aG λb o hb q=>Ev.aIn hb q⟩
  |no=>cases q⟩
def Ev.grow(E:Ev K H0 G0 G H σ Δ A)(s:Step G H G' H'):Ev K H0 G0 G' H' σ Δ A:=
 ⟨E.st.trans s,E.len,λi d e=>let⟨v,e1,r⟩:=E.sh i d e;⟨v,e1,r.mono s.gg⟩,λi z d e z'=>let⟨v,e1,t⟩:=E.ow i z d e z';⟨v,e1,t.mono s.gg (λb o _ q=>s.hh b o q) λ_ q=>q⟩,
  λi a ha=>let⟨h1,h2,h3⟩:=E.out i a ha;⟨s.nw a h1 h3,h2,λz=>h3 (s.hh.free z)⟩,E.dj,E.lk,E.lt⟩
def Ev.keep(E:Ev K H0 G0 G H σ Δ A)(s:Same H H'):Ev K H0 G0 G H' σ Δ A:=
 E.grow ⟨s,E.st.gh.trans s,Same.refl _,λ_ n _=>n⟩
def Fg{α:Type}{l:List α}{i j:Nat}{x y:α}(h:(l.set i x)[j]? =some y):(i=j/\y=x)\/(i≠j/\l[j]? =some y):=by
 by_cases e:i=j
 ·subst e;rw[List.getElem?_set]at h;simp only[if_true]at h
  split at h
  ·exact .inl ⟨rfl,(F6 h).symm⟩
  ·cases h
 ·rw[C7 e]at h;exact .inr ⟨e,h⟩
def bv_5{α:Type}{l:List α}{i:Nat}{x y:α}(h:(l.set i x)[i]? =some y):i < l.length:=by
 by_cases hh:i < l.length
 ·exact hh
 ·rw[L5 (by rw[G6];omega)]at h;cases h
def Ev.put(E:Ev K H0 G0 G H σ Δ A){i:Nat}{d:D}(r:Has K G v d):Ev K H0 G0 G H (σ.set i (some v)) (Δ.set i (.sh d)) A:=by
 refine⟨E.st,by rw[G6,G6];exact E.len,λj d' e=> ?_,λj z d' e zo=> ?_,E.out,E.dj,λj d' e=> ?_,λj d' e=> ?_⟩
 ·rcases Fg e with⟨rfl,q⟩|⟨n,q⟩
  ·cases q;exact⟨v,by rw[J7 (by rw[E.len];exact bv_5 e)],r⟩
  ·obtain⟨v',e1,r'⟩:=E.sh j d' q;exact⟨v',by rw[C7 n];exact e1,r'⟩
 ·rcases Fg e with⟨rfl,q⟩|⟨n,q⟩
  ·subst q;cases zo
  ·obtain⟨v',e1,t⟩:=E.ow j z d' q zo;exact⟨v',by rw[C7 n];exact e1,t⟩
 ·rcases Fg e with⟨rfl,q⟩|⟨n,q⟩
  ·cases q
  ·rw[C7 n];exact E.lk j d' q
 ·rcases Fg e with⟨rfl,q⟩|⟨n,q⟩
  ·cases q
  ·rw[C7 n];exact E.lt j d' q
def Ev.putO(E:Ev K H0 G0 G H σ Δ A){i:Nat}{z:Sl}{d:Tn}{S:AS}(fr:∀a,S a->H0.h a=none/\G a=none/\H a≠none)(zo:z.own=some d)(zl:∀d,z≠ .lk d)(t:Ow K G H v d S)(nw:∀j a,A j a->¬S a)(zt:∀d,z=.lt d->v=.ref (H0.b i):=by intro _ z;cases z):
  Ev K H0 G0 G H (σ.set i (some v)) (Δ.set i z) (x_9 A i S):=by
 refine⟨E.st,by rw[G6,G6];exact E.len,λj d' e'=> ?_,λj z' d' e' zo'=> ?_,λj a ha=> ?_,λj j' a h1 h2=> ?_,λj d' e'=> ?_,λj d' e'=> ?_⟩
 ·rcases Fg e' with⟨rfl,q⟩|⟨nn,q⟩
  ·subst q;cases zo
  ·obtain⟨v',e1,r'⟩:=E.sh j d' q;exact⟨v',by rw[C7 nn];exact e1,r'⟩
 ·rcases Fg e' with⟨rfl,q⟩|⟨nn,q⟩
  ·subst q;rw[zo]at zo';cases zo';exact⟨v,by rw[J7 (by rw[E.len];exact bv_5 e')],by rw[g_2];exact t⟩
  ·obtain⟨v',e1,x⟩:=E.ow j z' d' q zo';exact⟨v',by rw[C7 nn];exact e1,by rw[Gf (Ne.symm nn)];exact x⟩
 ·by_cases z:j=i
  ·subst z;rw[g_2]at ha;obtain⟨a1,a2,a3⟩:=fr a ha;exact⟨a2,a1,a3⟩
  ·rw[Gf z]at ha;exact E.out j a ha
 ·by_cases z:j=i
  ·by_cases z':j'=i
   ·rw[z,z']
   ·rw[z,g_2]at h1;rw[Gf z']at h2;exact absurd h1 (nw j' a h2)
  ·by_cases z':j'=i
   ·rw[Gf z]at h1;rw[z',g_2]at h2;exact absurd h2 (nw j a h1)
   ·rw[Gf z]at h1;rw[Gf z']at h2;exact E.dj j j' a h1 h2
 ·rcases Fg e' with⟨rfl,q⟩|⟨nn,q⟩
  ·exact absurd q.symm (zl d')
  ·rw[C7 nn];exact E.lk j d' q
 ·rcases Fg e' with⟨rfl,q⟩|⟨nn,q⟩
  ·rw[J7 (by rw[E.len];exact bv_5 e'),zt d' q.symm]
  ·rw[C7 nn];exact E.lt j d' q
def Ev.step2(E:Ev K H0 G0 G H σ Δ A){i:Nat}{z:Sl}{d':Tn}{S:AS}(zo:z.own=some d')(zl:∀d,z≠ .lk d)(zt:∀d,z=.lt d->σ[i]? =some (some (.ref (H0.b i))))(ms:MStep2 (A i) G H G' H')(s:σ[i]? =some (some v))(fr:∀a,S a->(A i a\/H a=none)/\G' a=none/\H' a≠none)(t:Ow K G' H' v d' S):
  Ev K H0 G0 G' H' σ (Δ.set i z) (x_9 A i S):=by
 have st:Step G0 H0.h G' H':=⟨λb o q=>ms.hh b o (λhb=>by rw[(E.out i b hb).2.1]at q;cases q) (E.st.hh b o q),ms.gh,E.st.gg.trans ms.gg,
  λb n z=>ms.nw b (λhb=>z (E.out i b hb).2.1) (E.st.nw b n z) λq=>z (E.st.hh.free q)⟩
 refine⟨st,by rw[G6];exact E.len,λj d2 e'=> ?_,λj z' d2 e' zo'=> ?_,λj a ha=> ?_,λj j' a h1 h2=> ?_,λj d2 e'=> ?_,λj d2 e'=> ?_⟩
 ·rcases Fg e' with⟨rfl,q⟩|⟨nn,q⟩
  ·subst q;cases zo
  ·obtain⟨v',e1,r'⟩:=E.sh j d2 q;exact⟨v',e1,r'.mono ms.gg⟩
 ·rcases Fg e' with⟨rfl,q⟩|⟨nn,q⟩
  ·subst q;rw[zo]at zo';cases zo';exact⟨v,s,by rw[g_2];exact t⟩
  ·obtain⟨v',e1,x⟩:=E.ow j z' d2 q zo';rw[Gf (Ne.symm nn)];exact⟨v',e1,x.mono ms.gg (λb o hb q=>ms.hh b o (λhi=>nn (E.dj i j b hi hb)) q) λ_ q=>q⟩
 ·by_cases z:j=i
  ·subst z;rw[g_2]at ha;obtain⟨a1,a2,a3⟩:=fr a ha;refine⟨a2, ?_,a3⟩;rcases a1 with a1|a1
   ·exact(E.out j a a1).2.1
   ·exact E.st.hh.free a1
  ·rw[Gf z]at ha;obtain⟨h1,h2,h3⟩:=E.out j a ha;have hn:¬A i a:=λhb=>z (E.dj j i a ha hb);refine⟨ms.nw a hn h1 h3,h2,λq=> ?_⟩;cases e:H a with
   |none=>exact h3 e
   |some o=>rw[ms.hh a o hn e]at q;cases q
 ·have own:∀k,k≠i->A k a->¬S a:=λk nk hk hs=>by
   rcases(fr a hs).1 with q|q
   ·exact nk (E.dj k i a hk q)
   ·exact(E.out k a hk).2.2 q
  by_cases z:j=i
  ·by_cases z':j'=i
   ·rw[z,z']
   ·rw[z,g_2]at h1;rw[Gf z']at h2;exact absurd h1 (own j' z' h2)
  ·by_cases z':j'=i
   ·rw[Gf z]at h1;rw[z',g_2]at h2;exact absurd h2 (own j z h1)
   ·rw[Gf z]at h1;rw[Gf z']at h2;exact E.dj j j' a h1 h2
 ·rcases Fg e' with⟨rfl,q⟩|⟨nn,q⟩
  ·exact absurd q.symm (zl d2)
  ·exact E.lk j d2 q
 ·rcases Fg e' with⟨rfl,q⟩|⟨nn,q⟩
  ·exact zt d2 q.symm
  ·exact E.lt j d2 q
def Ev.step(E:Ev K H0 G0 G H σ Δ A){i:Nat}{z:Sl}{d':Tn}{S:AS}(zo:z.own=some d')(zl:∀d,z≠ .lk d)(ms:MStep (A i) G H G' H')(s:σ[i]? =some (some v))(fr:∀a,S a->(A i a\/H a=none)/\G' a=none/\H' a≠none)(t:Ow K G' H' v d' S)(zt:∀d,z≠ .lt d:=by intro _ z;cases z):
  Ev K H0 G0 G' H' σ (Δ.set i z) (x_9 A i S):=E.step2 zo zl (λd e=>absurd e (zt d)) ms.weak s fr t
def Ev.writeL(E:Ev K H0 G0 G H σ Δ A){i:Nat}{a:Addr}{vs:List V}{ds:List D}(s:σ[i]? =some (some (.ref a)))(m:A i a)(r:HasL K G vs ds):Ev K H0 G0 G (upd H a (.lst vs)) σ (Δ.set i (.ow (.lst ds))) (x_9 A i (A i)):=
 have ms:=MStep.write E.st.gh m (E.out i a m).1 (.lst vs)
 E.step rfl (λ_ z=>by cases z) ms s (λb hb=>⟨.inl hb,(E.out i b hb).1,ms.al b (E.out i b hb).2.2⟩) (Ow.list Bk m r)
def Ev.writeD(E:Ev K H0 G0 G H σ Δ A){i:Nat}{a:Addr}{kvs:List (Af×V)}{kds:List (Af×D)}(s:σ[i]? =some (some (.ref a)))(m:A i a)(hk:kvs.map (·.1)=kds.map (·.1))(r:HasL K G (kvs.map (·.2)) (kds.map (·.2))):Ev K H0 G0 G (upd H a (.dK kvs)) σ (Δ.set i (.ow (.dic kds))) (x_9 A i (A i)):=
 have ms:=MStep.write E.st.gh m (E.out i a m).1 (.dK kvs)
 E.step rfl (λ_ z=>by cases z) ms s (λb hb=>⟨.inl hb,(E.out i b hb).1,ms.al b (E.out i b hb).2.2⟩) (Ow.dict Bk hk m r)
end
def give1(Δ:SE)(j:Nat):SE:=match Δ[j]? with
 |some s=>Δ.set j s.give
 |none=>Δ
def gsome(js:List Nat)(Δ:SE):SE:=js.foldl give1 Δ
section
variable{K:Frag}{H0:HB}{G0 G H:Hp}{σ:Sg}{Δ:SE}{A:OS}
def s_6{α:Type}{l:List α}{j:Nat}{x:α}(h:l[j]? =some x):l.set j x=l:=by
 apply U1;intro i
 by_cases e:j=i
 ·subst e;have hlt:j < l.length:=(B4.mp h).1;rw[J7 hlt,h]
 ·rw[C7 e]
def Ev.give3(E:Ev K H0 G0 G H σ Δ A){j:Nat}{z:Sl}{t:Tn}(e:Δ[j]? =some z)(zo:z.own=some t):Same G (Do G H (A j))/\Ev K H0 G0 (Do G H (A j)) H σ (Δ.set j (.sh t.d)) (x_9 A j λ_=>False):=by
   obtain⟨v,s1,t⟩:=E.ow j z t e zo;have sg:Same G (Do G H (A j)):=λb o q=>by
    unfold Do
    split
    ·rename_i hb;rw[(E.out j b hb).1]at q;cases q
    ·exact q
   have gh:Same (Do G H (A j)) H:=λb o q=>by
    unfold Do at q
    split at q
    ·exact q
    ·exact E.st.gh b o q
   refine⟨sg,⟨E.st.hh,gh,E.st.gg.trans sg,λb h1 h2=> ?_⟩,by rw[G6];exact E.len,λi d' e'=> ?_,λi z' d' e' zo'=> ?_,λi b hb=> ?_,λi i' b h1 h2=> ?_,λi d' e'=> ?_,λi d' e'=> ?_⟩
   ·unfold Do
    split
    ·rename_i hb;exact absurd (E.out j b hb).2.1 h2
    ·exact E.st.nw b h1 h2
   ·rcases Fg e' with⟨rfl,q⟩|⟨n,q⟩
    ·cases q;refine⟨v,s1,t.has sg λb o hb q=> ?_⟩;unfold Do;rw[if_pos hb];exact q
    ·obtain⟨v',e1,r⟩:=E.sh i d' q;exact⟨v',e1,r.mono sg⟩
   ·rcases Fg e' with⟨rfl,q⟩|⟨n,q⟩
    ·subst q;cases zo'
    ·obtain⟨v',e1,t'⟩:=E.ow i z' d' q zo';rw[Gf (Ne.symm n)];exact⟨v',e1,t'.mono sg (λb o _ q=>q) λ_ q=>q⟩
   ·by_cases z:i=j
    ·subst z;rw[g_2]at hb;exact hb.elim
    ·rw[Gf z]at hb;obtain⟨k1,k2,k3⟩:=E.out i b hb;refine⟨?_,k2,k3⟩;unfold Do;rw[if_neg λq=>z (E.dj i j b hb q)];exact k1
   ·by_cases z:i=j
    ·subst z;rw[g_2]at h1;exact h1.elim
    ·by_cases z':i'=j
     ·subst z';rw[g_2]at h2;exact h2.elim
     ·rw[Gf z]at h1;rw[Gf z']at h2;exact E.dj i i' b h1 h2
   ·rcases Fg e' with⟨rfl,q⟩|⟨n,q⟩
    ·cases q
    ·exact E.lk i d' q
   ·rcases Fg e' with⟨rfl,q⟩|⟨n,q⟩
    ·cases q
    ·exact E.lt i d' q
def Ev.give2(E:Ev K H0 G0 G H σ Δ A){j:Nat}{z:Sl}{t:Tn}(e:Δ[j]? =some z)(zo:z.own=some t):∃G' A',Same G G'/\Ev K H0 G0 G' H σ (Δ.set j (.sh t.d)) A':=⟨_,_,E.give3 e zo⟩
theorem Ev.give1(E:Ev K H0 G0 G H σ Δ A)(j:Nat):∃G' A',Same G G'/\Ev K H0 G0 G' H σ (L3.give1 Δ j) A':=by
 unfold L3.give1;cases e:Δ[j]? with
 |none=>exact⟨G,A,Same.refl _,E⟩
 |some s=>
  cases s with
  |no=>exact⟨G,A,Same.refl _,by show Ev K H0 G0 G H σ (Δ.set j .no) A;rw[s_6 e];exact E⟩
  |sh d=>exact⟨G,A,Same.refl _,by show Ev K H0 G0 G H σ (Δ.set j (.sh d)) A;rw[s_6 e];exact E⟩
  |ow d=>
   have:=E.give2 e (t:=Tn.of d) rfl;rw[Tn.of_d]at this;exact this
  |tr t=>exact E.give2 e rfl
  |lk d=>exact⟨G,A,Same.refl _,by show Ev K H0 G0 G H σ (Δ.set j (.lk d)) A;rw[s_6 e];exact E⟩
  |lt t=>exact⟨G,A,Same.refl _,by show Ev K H0 G0 G H σ (Δ.set j (.lt t)) A;rw[s_6 e];exact E⟩
theorem Ev.gsome:∀(js:List Nat) {G:Hp} {Δ:SE} {A:OS},Ev K H0 G0 G H σ Δ A->∃G' A',Same G G'/\Ev K H0 G0 G' H σ (L3.gsome js Δ) A'
 | [],G,Δ,A,E=>⟨G,A,Same.refl _,E⟩
 |j::js,G,Δ,A,E=>by
  obtain⟨G1,A1,s1,E1⟩:=E.give1 j;obtain⟨G2,A2,s2,E2⟩:=Ev.gsome js E1;exact⟨G2,A2,s1.trans s2,E2⟩
end
def Fin(K:Frag)(EX:Az)(H0:HB)(G0 G1:Hp)(D:Ends):Fl->Prop
 | .nx Δ=>∀σ G H O,Ev K H0 G0 G H σ Δ O->Same G1 G->D.nx σ H
 | .bk Δ=>∀σ G H O,Ev K H0 G0 G H σ Δ O->Same G1 G->D.bk σ H
 | .ct Δ=>∀σ G H O,Ev K H0 G0 G H σ Δ O->Same G1 G->D.ct σ H
 | .rt w=>WP K G0 H0.h w D.rt
 | .rv d Δ=>∀v σ G H O,Ev K H0 G0 G H σ Δ O->Same G1 G->Has K G v d->D.rt v H
 | .ex x Δ=>∀σ G H O,Ev K H0 G0 G H σ Δ O->Same G1 G->(EX σ).p x G H
 | .no=>False
def Fin.mono{EX:Az}{H0:HB}{G0 G1 G2:Hp}{D:Ends}{r:Fl}(s:Same G1 G2)(h:Fin K EX H0 G0 G1 D r):Fin K EX H0 G0 G2 D r:=by
 cases r with
 |nx Δ=>exact λ σ G H O E q=>h σ G H O E (s.trans q)
 |bk Δ=>exact λ σ G H O E q=>h σ G H O E (s.trans q)
 |ct Δ=>exact λ σ G H O E q=>h σ G H O E (s.trans q)
 |rt w=>exact h
 |rv d Δ=>exact λv σ G H O E q=>h v σ G H O E (s.trans q)
 |ex x Δ=>exact λ σ G H O E q=>h σ G H O E (s.trans q)
 |no=>exact h
def tS(K:Frag)(EX:Az)(g:FS):TS:=λD σ H=>∃H0 G0 G Δ O,Ev K H0 G0 G H σ Δ O/\Fin K EX H0 G0 G D (g Δ)
abbrev SD(X:Cx)(EX:Az)(st:Stmt)(g:FS):Prop:=PS X st (tS X.K EX g)
abbrev BD(X:Cx)(EX:Az)(st:List Stmt)(g:FS):Prop:=PSs X st (tS X.K EX g)
section
variable{X:Cx}{EX:Az}{st:Stmt}{sts:List Stmt}{g h:FS}{pos:Pos}{e:Expr}{f:FE}{p:FT}
def Ar:FS:=λ Δ=> .nx Δ
def Ag(g h:FS):FS:=λ Δ=>match g Δ with
 | .nx Δ'=>h Δ'
 |r=>r
def Dg:BD X EX [] Ar:=PSs.imp cy_2 λD σ H ⟨H0,G0,G,Δ,O,E,q⟩=>q σ G H O E (Same.refl _)
def Bd(h1:SD X EX st g):BD X EX [st] g:=bf_7 h1
def Au(h1:SD X EX st g)(h2:BD X EX sts h):BD X EX (st::sts) (Ag g h):=
 PSs.imp (cl_4 h1 h2) λD σ H ⟨H0,G0,G,Δ,O,E,q⟩=>by
  refine⟨H0,G0,G,Δ,O,E, ?_⟩;unfold Ag at q;cases e:g Δ with
  |nx Δ'=>rw[e]at q;exact λ σ' G' H' O' E' sm=>⟨H0,G0,G',Δ',O',E',Fin.mono sm q⟩
  |bk Δ'=>rw[e]at q;exact q
  |ct Δ'=>rw[e]at q;exact q
  |rt w=>rw[e]at q;exact q
  |rv d Δ'=>rw[e]at q;exact q
  |ex x Δ'=>rw[e]at q;exact q
  |no=>rw[e]at q;exact q
def exG(js:List Nat)(f:FE)(Δ:SE):Fl:=match f (Aw (gsome js Δ)) with
 | .ex x=> .ex x (gsome js Δ)
 |_=> .no
def exT(js:List Nat)(p:FT)(Δ:SE):Fl:=match p (Aw (gsome js Δ)) with
 | .ex x=> .ex x (gsome js Δ)
 |_=> .no
def bn_4{H0:HB}{G0 G G1 H:Hp}{σ:Sg}{Δ:SE}{O:OS}{D:Ends}{js:List Nat}{Q:VK}(E:Ev K H0 G0 G H σ Δ O)(sg:Same G1 G)(q:Fin K EX H0 G0 G1 D (exG js f Δ)):tD K EX f σ H Q:=by
 obtain⟨G',O',s',E'⟩:=E.gsome js;refine⟨G',Aw (gsome js Δ),E'.st.gh,E'.gsh, ?_⟩;unfold exG at q;cases e:f (Aw (gsome js Δ)) with
 |ok w=>rw[e]at q;exact q.elim
 |ex x=>rw[e]at q;exact q σ G' H O' E' (sg.trans s')
 |no=>rw[e]at q;exact q.elim
def co_2{H0:HB}{G0 G G1 H:Hp}{σ:Sg}{Δ:SE}{O:OS}{D:Ends}{js:List Nat}{Q:Bool->Hp->Prop}(E:Ev K H0 G0 G H σ Δ O)(sg:Same G1 G)(q:Fin K EX H0 G0 G1 D (exT js p Δ)):tDt K EX p σ H Q:=by
 obtain⟨G',O',s',E'⟩:=E.gsome js;refine⟨G',Aw (gsome js Δ),E'.st.gh,E'.gsh, ?_⟩;unfold exT at q;cases e:p (Aw (gsome js Δ)) with
 |ok w=>rw[e]at q;exact q.elim
 |ex x=>rw[e]at q;exact q σ G' H O' E' (sg.trans s')
 |no=>rw[e]at q;exact q.elim
def As(js:List Nat)(f:FE):FS:=λ Δ=>match f (Bj Δ) with
 | .ok w=> .rt w
 | .ex _=>exG js f Δ
 | .no=> .no
def Cf(js:List Nat)(he:ED X EX e f):SD X EX (.Return (some e) pos) (As js f):=
 PS.imp (bt_2 he) λD σ H ⟨H0,G0,G,Δ,O,E,q⟩=>by
  unfold As at q;cases e1:f (Bj Δ) with
  |ok w=>
   rw[e1]at q;exact⟨Dd G H O,Bj Δ,E.aH,E.gall,by rw[e1];exact WP.mono E.aStep q⟩
  |ex x=>rw[e1]at q;exact bn_4 E (Same.refl _) q
  |no=>rw[e1]at q;exact q.elim
def Cb(i:Nat):FS:=λ Δ=>match Δ[i]? with
 |some (.sh d)=> .rt (.sh d)
 |some (.ow d)=> .rt (.ow d)
 |some (.tr t)=> .rt (.tr t)
 |_=> .no
def y_0(i:Nat){x:Str}{pos pos':Pos}(hN:X.N[i]? =some x:=by rfl)(hv:Fd X.env.scope x:=by trivial)(hd:AG x:=by decide)
  (hcd:(x ==("__classdict__" :Str))=false:=by decide):SD X EX (.Return (some (.Name x pos)) pos') (Cb i):=
 PS.imp (bt_2 (Ff hN hv hd hcd)) λD σ H ⟨H0,G0,G,Δ,O,E,q⟩=>by
  unfold Cb at q
  split at q
  ·rename_i d e;obtain⟨v,e1,r⟩:=E.sh i d e;exact⟨v,e1,(WP.mono (w:=.sh d) (Q:=D.rt) E.st q).use E.st.gh r⟩
  ·rename_i d e;obtain⟨v,e1,t⟩:=E.ow i _ _ e rfl;exact⟨v,e1,q v (O i) G H E.st (λa ha=>let⟨h1,h2,h3⟩:=E.out i a ha;⟨h2,h1,h3⟩) t⟩
  ·rename_i d e;obtain⟨v,e1,t⟩:=E.ow i _ _ e rfl;exact⟨v,e1,q v (O i) G H E.st (λa ha=>let⟨h1,h2,h3⟩:=E.out i a ha;⟨h2,h1,h3⟩) t⟩
  ·exact q.elim
def Eg(i:Nat)(Δ:SE):R W->Fl
 | .ok (.sh d)=> .nx (Δ.set i (.sh d))
 | .ok (.ow d)=> .nx (Δ.set i (.ow d))
 | .ok (.tr t)=> .nx (Δ.set i (.tr t))
 | .ex x=> .ex x Δ
 | .no=> .no
def Ak(i:Nat)(js:List Nat)(f:FE):FS:=λ Δ=>match f (Aw Δ) with
 | .ok (.sh d)=> .nx (Δ.set i (.sh d))
 | .ok (.ow d)=> .nx (Δ.set i (.ow d))
 | .ok (.tr t)=> .nx (Δ.set i (.tr t))
 | .ex x=> .ex x Δ
 | .no=>match f (Bj Δ) with
  | .ex _=>Eg i (gsome js Δ) (f (Aw (gsome js Δ)))
  | .no=> .no
  | .ok w=>if Bb w.d=true then .nx (Δ.set i (.sh w.d)) else Eg i (gsome js Δ) (f (Aw (gsome js Δ)))
def ar_9{H0:HB}{G0 G G1 H:Hp}{σ:Sg}{Δ:SE}{O:OS}{D:Ends}{i:Nat}(E:Ev K H0 G0 G H σ Δ O)(sg:Same G1 G)
  (q:Fin K EX H0 G0 G1 D (Eg i Δ (f (Aw Δ)))):tAsg (tD K EX f) (by_3 i) D σ H:=by
 refine⟨G,Aw Δ,E.st.gh,E.gsh, ?_⟩;unfold Eg at q;cases e1:f (Aw Δ) with
 |ok w=>
  rw[e1]at q;cases w with
  |sh d=>exact λv G' H' st r=>q _ G' H' O ((E.grow st).put r) (sg.trans st.gg)
  |ow d=>
   intro v S G' H' st fr t;exact q _ G' H' _ ((E.grow st).putO (λa ha=>⟨E.st.hh.free (fr a ha).1,(fr a ha).2⟩) rfl (λ_ z=>by cases z) t λj a hj hs=>(E.out j a hj).2.2 (fr a hs).1) (sg.trans st.gg)
  |tr d=>
   intro v S G' H' st fr t;exact q _ G' H' _ ((E.grow st).putO (λa ha=>⟨E.st.hh.free (fr a ha).1,(fr a ha).2⟩) rfl (λ_ z=>by cases z) t λj a hj hs=>(E.out j a hj).2.2 (fr a hs).1) (sg.trans st.gg)
 |ex x=>rw[e1]at q;exact q σ G H O E sg
 |no=>rw[e1]at q;exact q
def au_7{D:Ends}{σ:Sg}{i:Nat}{js:List Nat}(q:tS K EX (Ak i js f) D σ H):tAsg (tD K EX f) (by_3 i) D σ H:=by
 obtain⟨H0,G0,G,Δ,O,E,q⟩:=q;unfold Ak at q;cases e1:f (Aw Δ) with
 |ok w=>
  rw[e1]at q;refine ar_9 E (Same.refl _) ?_;unfold Eg;rw[e1];cases w <;> exact q
 |ex x=>
  rw[e1]at q;refine ar_9 E (Same.refl _) ?_;unfold Eg;rw[e1];exact q
 |no=>
  rw[e1]at q;cases e2:f (Bj Δ) with
  |ok w=>
   simp only[e2]at q
   split at q
   ·rename_i fl;refine⟨Dd G H O,Bj Δ,E.aH,E.gall, ?_⟩;rw[e2];exact WP.intro λv G' H' st r=>q _ G H' O ((E.keep st.hh).put (r.ofFl fl)) (Same.refl _)
   ·obtain⟨G',O',sg,E'⟩:=E.gsome js;exact ar_9 E' sg q
  |ex x=>
   simp only[e2]at q;obtain⟨G',O',sg,E'⟩:=E.gsome js;exact ar_9 E' sg q
  |no=>simp only[e2]at q;exact q.elim
def Bp{i:Nat}(js:List Nat){x:Str}{pos':Pos}(he:ED X EX e f)(hN:X.N.Nodup)(hi:X.N[i]? =some x:=by rfl)(hx:Loc X.env.scope x:=by trivial)(hs:swapsWith e (some (.Name x pos')) pos.line X.env=pure false:=by rfl)
  (hf:X.fn x=true\/X.env.scope.names.lookup x=some .local:=by trivial):SD X EX (.Assign [.Name x pos'] e pos) (Ak i js f):=
 PS.imp (bt_4 hN hi hx he hs hf) λD σ H q=>au_7 q
def sExpr(js:List Nat)(f:FE):FS:=λ Δ=>match f (Bj Δ) with
 | .ok _=> .nx Δ
 | .ex _=>exG js f Δ
 | .no=> .no
def da_7(js:List Nat)(he:ED X EX e f)(hs:swapsWith e none pos.line X.env=pure false:=by rfl):SD X EX (.Expr e pos) (sExpr js f):=
 PS.imp (x_2 he hs) λD σ H ⟨H0,G0,G,Δ,O,E,q⟩=>by
  unfold sExpr at q;cases e1:f (Bj Δ) with
  |ok w=>
   rw[e1]at q;exact⟨Dd G H O,Bj Δ,E.aH,E.gall,by rw[e1];exact WP.intro λv G' H' st r=>q σ G H' O (E.keep st.hh) (Same.refl _)⟩
  |ex x=>rw[e1]at q;exact bn_4 E (Same.refl _) q
  |no=>rw[e1]at q;exact q.elim
def Bl(js:List Nat)(p:FT)(g h:FS):FS:=λ Δ=>match p (Bj Δ) with
 | .ok b=>if b=true then g Δ else h Δ
 | .ex _=>exT js p Δ
 | .no=> .no
def bc_5{H0:HB}{G0 G H:Hp}{σ:Sg}{Δ:SE}{O:OS}{D:Ends}{k:Bool->Fl}{P:Bool->Hp->Prop}{js:List Nat}(E:Ev K H0 G0 G H σ Δ O)
  {G1:Hp} (sg:Same G1 G) (q:Fin K EX H0 G0 G1 D (match p (Bj Δ) with| .ok b=>k b| .ex _=>exT js p Δ| .no=> .no)) (i:∀b H',p (Bj Δ)=.ok b->Ev K H0 G0 G H' σ Δ O->Fin K EX H0 G0 G1 D (k b)->P b H'):tDt K EX p σ H P:=by
 cases e1:p (Bj Δ) with
 |ok b=>rw[e1]at q;exact⟨Dd G H O,Bj Δ,E.aH,E.gall,by rw[e1];exact λG' H' st=>i b H' e1 (E.keep st.hh) q⟩
 |ex x=>rw[e1]at q;exact co_2 E sg q
 |no=>rw[e1]at q;exact q.elim
def Df(js:List Nat){c:Expr}{as bs:List Stmt}(hc:TD X EX c p)(ha:BD X EX as g)(hb:BD X EX bs h):SD X EX (.If c as bs pos) (Bl js p g h):=
 PS.imp (dh_6 hc ha hb) λD σ H ⟨H0,G0,G,Δ,O,E,q⟩=>bc_5 (k:=λb=>if b=true then g Δ else h Δ) E (Same.refl _) q λb H' _ E' q'=>by
  cases b with
  |true=>rw[if_pos rfl];exact⟨H0,G0,G,Δ,O,E',q'⟩
  |false=>rw[if_neg A6];exact⟨H0,G0,G,Δ,O,E',q'⟩
def m_3(js:List Nat)(p:FT)(g:FS):Nat->FS
 |0=>λ_=> .no
 |n + 1=>λ Δ=>match p (Bj Δ) with
  | .ok b=>if b=true then(match g Δ with
    | .nx Δ'=>m_3 js p g n Δ'
    | .ct Δ'=>m_3 js p g n Δ'
    | .bk Δ'=> .nx Δ'
    |r=>r) else .nx Δ
  | .ex _=>exT js p Δ
  | .no=> .no
def au_8(js:List Nat)(n:Nat){c:Expr}{body:List Stmt}(hp:PassesOwn (model X.prog X.w) X.A X.env X.xe)(hc:TD X EX c p)(hb:BD X EX body g):SD X EX (.While c body [] pos) (m_3 js p g n):=
 PS.imp (cl_6 hp hc hb) λD σ H ⟨H0,G0,G1,Δ,O,E,q⟩=>by
  refine⟨λm σ H=>∃G Δ O,Ev X.K H0 G0 G H σ Δ O/\Same G1 G/\Fin X.K EX H0 G0 G1 D (m_3 js p g m Δ),⟨n,G1,Δ,O,E,Same.refl _,q⟩, ?_⟩
  rintro m σ H ⟨G,Δ,O,E,sg,q⟩
  cases m with
  |zero=>exact False.elim q
  |succ m=>
   refine bc_5 (k:=λb=>if b=true then(match g Δ with| .nx Δ'=>m_3 js p g m Δ'| .ct Δ'=>m_3 js p g m Δ'| .bk Δ'=> .nx Δ'|r=>r) else .nx Δ) E sg q λb H' _ E' q'=> ?_;cases b with
   |false=>rw[if_neg A6];exact q' σ G H' O E' sg
   |true=>
    rw[if_pos rfl];rw[if_pos rfl]at q';refine⟨λ σ' H'=>∃G Δ O,Ev X.K H0 G0 G H' σ' Δ O/\Same G1 G/\Fin X.K EX H0 G0 G1 D (m_3 js p g m Δ),λ σ' H' w=>⟨m,S4 _,w⟩,H0,G0,G,Δ,O,E', ?_⟩;cases e1:g Δ with
    |nx Δ'=>rw[e1]at q';exact λ σ' G' H' O' E2 s2=>⟨G',Δ',O',E2,sg.trans s2,q'⟩
    |ct Δ'=>rw[e1]at q';exact λ σ' G' H' O' E2 s2=>⟨G',Δ',O',E2,sg.trans s2,q'⟩
    |bk Δ'=>rw[e1]at q';exact Fin.mono (r:=.nx Δ') sg q'
    |rt w=>rw[e1]at q';exact q'
    |rv d Δ'=>rw[e1]at q';exact Fin.mono (r:=.rv d Δ') sg q'
    |ex x Δ'=>rw[e1]at q';exact Fin.mono (r:=.ex x Δ') sg q'
    |no=>rw[e1]at q';exact q'
end
def Ba(n:Nat)(ds:List D):SE:=ds.map Sl.sh ++ List.replicate (n - ds.length) .no
def Ap(n:Nat)(g:FS)(ds:List D):R W:=match g (Ba n ds) with
 | .nx _=> .ok (.sh .non)
 | .rt w=> .ok w
 | .ex x _=> .ex x
 |_=> .no
def co_3{G H:Hp}{vs:List V}{ds:List D}{N:List Str}(g:Same G H)(r:HasL K G vs ds):Ev K ⟨H,λ_=>0⟩ G G H (L2.start N vs) (Ba N.length ds) (λ_ _=>False):=by
 refine⟨Step.refl g, ?_,λi d e=> ?_,λi z d e zo=> ?_,λ_ _ ha=>ha.elim,λ_ _ _ ha=>ha.elim,λi d e=> ?_,λi d e=> ?_⟩
 ·unfold L2.start Ba;simp only[B7,A3,L1,r.length]
 ·unfold Ba at e
  by_cases hi:i < ds.length
  ·rw[E4 (by rw[A3];exact hi),A8]at e;cases q:ds[i]? with
   |none=>rw[q]at e;cases e
   |some d'=>
    rw[q]at e;cases e;obtain⟨v,e1,h⟩:=r.get q;refine⟨v, ?_,h⟩;unfold L2.start;rw[E4 (by rw[A3,r.length];exact hi),A8,e1];rfl
  ·rw[J9 (by rw[A3];omega),K4]at e
   split at e <;> cases e
 ·exfalso;unfold Ba at e
  by_cases hi:i < ds.length
  ·rw[E4 (by rw[A3];exact hi),A8]at e;cases q:ds[i]? with
   |none=>rw[q]at e;cases e
   |some d'=>rw[q]at e;cases e;cases zo
  ·rw[J9 (by rw[A3];omega),K4]at e
   split at e
   ·cases e;cases zo
   ·cases e
 ·exfalso;unfold Ba at e
  by_cases hi:i < ds.length
  ·rw[E4 (by rw[A3];exact hi),A8]at e;cases q:ds[i]? with
   |none=>rw[q]at e;cases e
   |some d'=>rw[q]at e;cases e
  ·rw[J9 (by rw[A3];omega),K4]at e
   split at e <;> cases e
 ·exfalso;unfold Ba at e
  by_cases hi:i < ds.length
  ·rw[E4 (by rw[A3];exact hi),A8]at e;cases q:ds[i]? with
   |none=>rw[q]at e;cases e
   |some d'=>rw[q]at e;cases e
  ·rw[J9 (by rw[A3];omega),K4]at e
   split at e <;> cases e
def fn_D{c:Bool}{P:Program}{w:World}{x qual:Str}{st:Stmt}{f:Addr}{N ps:List Str}{k:Nat}{g:FS}(F:Fun K x qual st f fd)(S:FnScope N ps (Ch st))
  (zj:∀(zp:Value) (A:Around) (outer:List Env) (s:Shared) (H:Hp) (E:XK),RoomC c k (A.deeper (envOfC qual (Ch st) s.heap.objs.size f zp))->
   BD (Gc c P w K mg base N qual (Ch st) f zp A outer s H E) (λ_=>EXof K E) (Ft st) g):FnX P w K mg base c (k + 1) f fd ps (Bx K ps.length (Ap N.length g)):=by
 refine Fun.okX F S (λvs H Q E h=>h.1) λzp A outer s H vs Q E hr h=>⟨_,zj zp A outer s H E hr, ?_⟩;obtain⟨hl,G,ds,g0,r,o⟩:=h;refine⟨⟨H,λ_=>0⟩,G,G,_,_,co_3 g0 r, ?_⟩;unfold Ap at o;cases e:g (Ba N.length ds) with
 |nx Δ=>rw[e]at o;exact λ σ G' H' O E' _=>(WP.mono (w:=.sh .non) (Q:=Q) E'.st o).use E'.st.gh .non
 |rt w=>rw[e]at o;exact o
 |rv d Δ=>rw[e]at o;exact o.elim
 |ex x Δ=>rw[e]at o;exact λ σ G' H' O E' _=>(EXof K E).mono _ _ _ _ _ E'.st o
 |bk Δ=>rw[e]at o;exact o.elim
 |ct Δ=>rw[e]at o;exact o.elim
 |no=>rw[e]at o;exact o
def dn_1{c:Bool}{P:Program}{w:World}{x:Str}{st:Stmt}{f:Addr}{ps:List Str}{k:Nat}{Fn:AF}(F:Fun K x x st f fd)(hm:mg x=some (.ref f))(hb:Binds K fd ps [])
  (ok:FnX P w K mg base c k f fd ps (Bx K ps.length Fn)):FnD P w K mg base c x k ps Fn:=⟨f,fd,ok,hm,F.kp,hb⟩
def co_4(x:Str):It:=⟨λi _=>i < x.cps.size,λi H v H'=>H'=H/\∃c,x.cps[i]? =some c/\v=.str ⟨#[c]⟩,λi _=>i=x.cps.size⟩
def bv_6{P:Program}{w:World}{tg:Expr}{it:Addr}{n:Nat}{Pv:Nat->Value->Prop}{St:Nat->Heap->Prop}{J:It}
  (W:∀A':Around,A'.handled=none->Walks P w A' it [it] [it] n Pv St)
  (bf:∀i h,St i h->∃o nm vs,h.get? it=some o/\o.cls=.type nm/\o.data=.fields vs/\ ["enumerate","zip","dict_itemiterator","dict_reverseitemiterator","odict_iterator","itertools.zip_longest","itertools.pairwise"].contains nm=false)
  (bw:∀(i:Nat) (h h':Heap),St i h->(∀b∈ [it],∀o,h.get? b=some o->h'.get? b=some o)->St i h') (bq:∀(A:Around) (i:Nat) (s:Shared) (Q E:AA),St i s.heap->Q (.ref it) s->wpAny (model P w) A (pyIter (.ref it)) Q E s)
  (hgo:∀i H,J.go i H->i < n) (hst:∀i H,J.stop i H->i=n) (hy:∀i H u,Pv i u->∃x,RelV x u/\J.yld i H x H):Turn P w K tg J [it] it St where
 mem:=by simp
 obj:=λi h st b hb=>by
  have e:b=it:=by simpa using hb
  subst e;obtain⟨o,nm,vs,e,c,d,_⟩:=bf i h st;exact⟨o,e,λv z=>by rw[d]at z;cases z⟩
 keep:=bw
 item:=by
  intro X hP hw hK hc i zd s σ H E I hf st hg;subst hP hw hK;obtain⟨f0,f1,f2,f3,f4,f5⟩:=hf it (by simp);refine(W X.A (I.ok.hd hc)).item i s _ _ (hgo i H hg) st λv h' tk hv st' kk=> ?_;have I1:Inv X zd σ H {s with heap:=h',toks:=tk}:=I.turned (λb o hb e=>kk b o (by simpa using hb) e) f0 f1 f3 f4 f5;obtain⟨x,rx,yx⟩:=hy i H v hv;obtain⟨o,nm,vs,e,c,d,hn⟩:=bf (i + 1) h' st';exact⟨v,rfl,bl_9 (s:={s with heap:=h',toks:=tk}) e c d hn ⟨x,H,I1,rx,yx,st',λb hb=>(hf b hb).1⟩⟩
 done:=by
  intro X hP hw hK hc i zd s σ H E I hf st hg;subst hP hw hK;obtain⟨f0,f1,f2,f3,f4,f5⟩:=hf it (by simp);obtain rfl:=hst i H hg;exact(W X.A (I.ok.hd hc)).done s _ _ st λh' tk kk=>⟨rfl,I.turned (λb o hb e=>kk b o (by simpa using hb) e) f0 f1 f3 f4 f5⟩
 self:=bq
def ItD(K:Frag)(G1:Hp)(J:It)(ds:List D):Prop:=∀G H,Same G1 G->Same G H->∀i,
 (∀d,ds[i]? =some d->J.go i H/\∀x H',J.yld i H x H'->∃G',Step G H G' H'/\Has K G' x d)/\(ds.length=i->J.stop i H)
abbrev FI:=DE->R (List D)
def tI(K:Frag)(EX:Az)(fi:FI):TI:=λ σ H Q=>∃G δ,Same G H/\HasS K G σ δ/\match fi δ with
 | .ok ds=>∀J G' H',Step G H G' H'->ItD K G' J ds->Q J H'
 | .ex x=>(EX σ).p x G H
 | .no=>False
abbrev ID(X:Cx)(EX:Az)(tg iter:Expr)(fi:FI):Prop:=PI X tg iter (tI X.K EX fi)
def PI.imp{tg e:Expr}{t t':TI}(h:PI X tg e t)(i:∀σ H Q,t' σ H Q->t σ H Q):PI X tg e t':=λzd s σ H Q I q=>h zd s σ H Q I (i σ H Q q)
section
variable{X:Cx}{EX:Az}{tg e a b:Expr}{f:FE}{fa:FA}{p pos:Pos}
def tDa.seqI{G H:Hp}{σ:Sg}{δ:DE}{k:List D->R (List D)}{Q:It->Hp->Prop}{P:List V->Hp->Prop}(g:Same G H)(s:HasS K G σ δ)
  (h:match(fa δ).bind k with| .ok ds=>∀J G' H',Step G H G' H'->ItD K G' J ds->Q J H'| .ex x=>(EX σ).p x G H| .no=>False)
  (i:∀ds vs G' H',Step G H G' H'->HasL K G' vs ds->(match k ds with| .ok ds=>∀J G2 H2,Step G' H' G2 H2->ItD K G2 J ds->Q J H2| .ex x=>(EX σ).p x G' H'| .no=>False)->P vs H'):tDa K EX fa σ H P:=by
 refine⟨G,δ,g,s, ?_⟩;cases e:fa δ with
 |ok ds=>
  rw[e]at h;simp only[R.bind_ok]at h;refine λvs G' H' st r=>i ds vs G' H' st r ?_;cases e2:k ds with
  |ok ds'=>rw[e2]at h;exact λJ G2 H2 st2 it=>h J G2 H2 (st.trans st2) it
  |ex x=>rw[e2]at h;exact(EX σ).mono _ _ _ _ _ st h
  |no=>rw[e2]at h;exact h
 |ex x=>rw[e]at h;exact h
 |no=>rw[e]at h;exact h
def q_9(lo:Int)(n:Nat):List D:=(List.range n).map λ(k:Nat)=>D.int (lo + (k:Int))
def ch_2{lo:Int}{n i:Nat}{d:D}(h:(q_9 lo n)[i]? =some d):i < n/\d=.int (lo + (i:Int)):=by
 unfold q_9 at h;rw[A8]at h
 by_cases hi:i < n
 ·rw[W8 hi]at h;cases h;exact⟨hi,rfl⟩
 ·rw[L5 (by rw[U2];omega)]at h;cases h
def bc_6(lo:Int)(n:Nat):(q_9 lo n).length=n:=by unfold q_9;rw[A3,U2]
def ch_3{G:Hp}(lo:Int)(n:Nat):ItD K G (Itr lo n) (q_9 lo n):=λG' H _ g i=>by
 refine⟨λd e=> ?_,λe=> ?_⟩
 ·obtain⟨hi,rfl⟩:=ch_2 e;refine⟨hi,λx H' y=> ?_⟩;obtain⟨e1,e2⟩:=y;subst e1 e2;exact⟨G',Step.refl g,.int _⟩
 ·rw[bc_6]at e;exact S3 e
def rng1:List D->R (List D)
 | [.int j]=>if j.natAbs < 4611686018427387904 then .ok (q_9 0 j.toNat) else .no
 |_=> .no
def Fb(k:List D->R (List D))(fa:FA):FI:=λ δ=>(fa δ).bind k
def am_0(hm:X.mg "range" =none)(ha:AD X EX [a] fa)(hg:Gl X "range" :=by rfl)(hs:starEach [a] X.env= [(false,eval a X.env)]:=by rfl):ID X EX tg (.Call (.Name "range" p) [a] [] pos) (Fb rng1 fa):=
 PI.imp (cf_2 hg hm ha hs) λ σ H Q ⟨G,δ,g0,s0,o⟩=>tDa.seqI g0 s0 o λds vs G' H' st r o'=>by
  cases r with
  |nil=>exact False.elim o'
  |cons h t=>
   cases t with
   |cons _ _=>cases h <;> exact False.elim o'
   |nil=>
    cases h with
    |int j=>
     by_cases hc:j.natAbs < 4611686018427387904
     ·rw[show rng1 [.int j]=.ok (q_9 0 j.toNat) from if_pos hc]at o';exact⟨j,rfl,by omega,by omega,o' _ G' H' (Step.refl st.gh) (ch_3 0 j.toNat)⟩
     ·rw[show rng1 [.int j]=.no from if_neg hc]at o';exact o'.elim
    |_=>exact False.elim o'
def u_6(x:Str):List D:=x.cps.toList.map λc=> .str ⟨#[c]⟩
def Fo:D->R (List D)
 | .lst ds=> .ok ds
 | .tup ds=> .ok ds
 | .str x=> .ok (u_6 x)
 |_=> .no
def Ez(f:FE):FI:=λ δ=>(f δ).bind λw=>Fo w.d
def iAny(K:Frag)(tl:TE):TI:=λ σ H Q=>tl σ H λx H1=>
 (∃a,x=.ref a/\(∃xs,SqL K H1 a xs)/\Q (Itl K a) H1)\/(∃a,x=.ref a/\(∃xs,SqT K H1 a xs)/\Q (Itt K a) H1)\/(∃z,x=.str z/\Q (co_4 z) H1)
def dn_2{l:Expr}{tl:TE}(hl:PE X l tl):PI X tg l (iAny X.K tl):=by
 intro zd s σ H Q I h;refine Bc (hl zd s σ H _ I h) λv s1 ⟨x,H1,I1,r1,q1⟩=> ?_;rcases q1 with⟨a,e,⟨xs,hq⟩,q⟩|⟨a,e,⟨xs,hq⟩,q⟩|⟨z,e,q⟩
 ·subst e;cases r1;obtain⟨its,rv,p,hz⟩:=I1.list hq;refine Y3 p.isList ?_;refine⟨s1.heap.objs.size,[s1.heap.objs.size],_,_,H1,rfl,I1.kept (t':=s1.toks) λb o e=>A4 _ e,cf_1 a _,⟨_,B8 _ rfl,rfl,rfl⟩,λb hb=> ?_,q⟩;have e:b=s1.heap.objs.size:=by simpa using hb
  subst e;exact I1.fpOk (B5 _) (I1.hok.fresh (B5 _))
 ·subst e;cases r1;obtain⟨its,rv,p,hz⟩:=I1.tuple hq;refine wpAny_pyIter_tuple (show s1.heap.IsTuple a its.toArray from p) ?_;refine⟨s1.heap.objs.size,[s1.heap.objs.size],_,_,H1,rfl,I1.kept (t':=s1.toks) λb o e=>A4 _ e,bt_5 a _,⟨_,B8 _ rfl,rfl,rfl⟩,λb hb=> ?_,q⟩;have e:b=s1.heap.objs.size:=by simpa using hb
  subst e;exact I1.fpOk (B5 _) (I1.hok.fresh (B5 _))
 ·subst e;obtain⟨t,rfl⟩:=r1;have fin:∀(nm:String) (St:Nat->Heap->Prop),(∀i h,St i h↔h.IsStrIter s1.heap.objs.size nm z t i)->(∀A':Around,A'.handled=none->Walks X.prog X.w A' s1.heap.objs.size [s1.heap.objs.size] [s1.heap.objs.size] z.cps.size (SignAt z) St)->
    ["enumerate","zip","dict_itemiterator","dict_reverseitemiterator","odict_iterator","itertools.zip_longest","itertools.pairwise"].contains nm=false->
    (∀(A:Around) (i:Nat) (s:Shared) (Q E:AA),s.heap.IsStrIter s1.heap.objs.size nm z t i->Q (.ref s1.heap.objs.size) s->wpAny (model X.prog X.w) A (pyIter (.ref s1.heap.objs.size)) Q E s)->
    PIE X zd σ tg Q (.ref s1.heap.objs.size) {s1 with heap:=s1.heap.push {cls:=.type nm,data:=.fields #[.str z t,.int 0 0]}}:=by
   intro nm St hS W hn hslf;refine⟨s1.heap.objs.size,[s1.heap.objs.size],St,co_4 z,H1,rfl,I1.kept (t':=s1.toks) λb o e=>A4 _ e,
    bv_6 W (λi h st=> ?_) (λi h h' st k=> ?_) (λA i s Q E st h=>hslf A i s Q E ((hS _ _).mp st) h) (λi H g=>g) (λi H g=> ?_) (λi H u hu=> ?_),(hS _ _).mpr ⟨_,B8 _ rfl,rfl,rfl⟩,λb hb=> ?_,q⟩
   ·obtain⟨o,ho,hc,hd⟩:=(hS _ _).mp st;exact⟨o,nm,_,ho,hc,hd,hn⟩
   ·obtain⟨o,ho,r⟩:=(hS _ _).mp st;exact(hS _ _).mpr ⟨o,k _ (by simp) o ho,r⟩
   ·exact g
   ·obtain⟨c,u',e1,e2⟩:=hu;subst e2;exact⟨.str ⟨#[c]⟩,⟨u',rfl⟩,rfl,c,e1,rfl⟩
   ·have e:b=s1.heap.objs.size:=by simpa using hb
    subst e;exact I1.fpOk (B5 _) (I1.hok.fresh (B5 _))
  cases ha:z.cps.all (· < 128)
  ·exact wpAny_pyIter_wide ha (fin "str_iterator" _ (λ_ _=>Iff.rfl) (λA' hA=>Walks.strWide hA _ z t) ⋯ λA i s Q E st h=>wpAny_pyIter_striter_wide st h)
  ·exact wpAny_pyIter_ascii ha (fin "str_ascii_iterator" _ (λ_ _=>Iff.rfl) (λA' hA=>Walks.strAscii hA _ z t) ⋯ λA i s Q E st h=>wpAny_pyIter_striter_ascii st h)
def co_5{G:Hp}{a:Addr}{vs:List V}{ds:List D}(h:SqL K G a vs)(r:HasL K G vs ds):ItD K G (Itl K a) ds:=λG' H g1 g i=>by
 refine⟨λd e=> ?_,λe=> ?_⟩
 ·obtain⟨v,e1,hv⟩:=r.get e;refine⟨⟨vs,v,(g1.trans g).seq h,e1⟩,λx H' y=> ?_⟩;obtain⟨e2,y⟩:=y;subst e2;have e3:=y vs ((g1.trans g).seq h);rw[e1]at e3;cases e3;exact⟨G',Step.refl g,hv.mono g1⟩
 ·exact⟨vs,(g1.trans g).seq h,by rw[r.length];exact S3 e⟩
def da_8{G:Hp}{a:Addr}{vs:List V}{ds:List D}(h:SqT K G a vs)(r:HasL K G vs ds):ItD K G (Itt K a) ds:=λG' H g1 g i=>by
 refine⟨λd e=> ?_,λe=> ?_⟩
 ·obtain⟨v,e1,hv⟩:=r.get e;refine⟨⟨vs,v,Same.tupS (g1.trans g) h,e1⟩,λx H' y=> ?_⟩;obtain⟨e2,y⟩:=y;subst e2;have e3:=y vs (Same.tupS (g1.trans g) h);rw[e1]at e3;cases e3;exact⟨G',Step.refl g,hv.mono g1⟩
 ·exact⟨vs,Same.tupS (g1.trans g) h,by rw[r.length];exact S3 e⟩
def da_9{G:Hp}(z:Str):ItD K G (co_4 z) (u_6 z):=λG' H g1 g i=>by
 refine⟨λd e=> ?_,λe=> ?_⟩
 ·unfold u_6 at e;rw[A8]at e;cases q:z.cps.toList[i]? with
  |none=>rw[q]at e;cases e
  |some c=>
   rw[q]at e;cases e;have hi:i < z.cps.size:=by
    have:=(B4.mp q).1;simpa using this
   refine⟨hi,λx H' y=> ?_⟩;obtain⟨e2,c',e3,e4⟩:=y;subst e2 e4;have:z.cps.toList[i]? =some c':=by simpa using e3
   rw[q]at this;cases this;exact⟨G',Step.refl g,.str _⟩
 ·unfold u_6 at e;rw[A3]at e;show i=z.cps.size;simp at e;omega
def Fw(he:ED X EX e f):ID X EX tg e (Ez f):=
 PI.imp (dn_2 he) λ σ H Q ⟨G,δ,g0,s0,o⟩=>by
  refine⟨G,δ,g0,s0, ?_⟩;unfold Ez at o;cases e1:f δ with
  |ok w=>
   rw[e1]at o;simp only[R.bind_ok]at o;refine WP.intro λv G' H' st r=> ?_;revert r o;cases w.d with
   |lst ds=>
    intro o r;cases r with
    |lst h r=>exact .inl ⟨_,rfl,⟨_,st.gh.seq h⟩,o _ G' H' st (co_5 h r)⟩
   |tup ds=>
    intro o r;cases r with
    |tup h r=>exact .inr (.inl ⟨_,rfl,⟨_,Same.tupS st.gh h⟩,o _ G' H' st (da_8 h r)⟩)
   |str z=>
    intro o r;cases r;exact .inr (.inr ⟨z,rfl,o _ G' H' st (da_9 z)⟩)
   |_=>intro o _;exact False.elim o
  |ex x=>rw[e1]at o;exact o
  |no=>rw[e1]at o;exact o
end
abbrev FG:=D->SE->R SE
def tG(K:Frag)(EX:Az)(fg:FG):TG:=λv σ H Q=>∃H0 G0 G Δ O d,Ev K H0 G0 G H σ Δ O/\Has K G v d/\match fg d Δ with
 | .ok Δ'=>∀σ' G' H' O',Ev K H0 G0 G' H' σ' Δ' O'->Same G G'->Q σ' H'
 | .ex _=>False
 | .no=>False
def PG.imp{tg:Expr}{t t':TG}(h:PG X tg t)(i:∀v σ H Q,t' v σ H Q->t v σ H Q):PG X tg t':=λzd s σ H v u Q I r q=>h zd s σ H v u Q I r (i v σ H Q q)
abbrev GD(X:Cx)(EX:Az)(tg:Expr)(fg:FG):Prop:=PG X tg (tG X.K EX fg)
section
variable{X:Cx}{EX:Az}{pos:Pos}
def gV(i:Nat):FG:=λd Δ=> .ok (Δ.set i (.sh d))
def ac_6{i:Nat}{x:Str}(hN:X.N.Nodup)(hi:X.N[i]? =some x:=by rfl)(hx:Loc X.env.scope x:=by trivial)
  (hf:X.fn x=true\/X.env.scope.names.lookup x=some .local:=by trivial):GD X EX (.Name x pos) (gV i):=
 PG.imp (x_3 hN hi hx hf) λv σ H Q ⟨H0,G0,G,Δ,O,d,E,r,q⟩=>q _ G H O (E.put r) (Same.refl _)
def Gi(i j:Nat):FG:=λd Δ=>match d with
 | .tup [a,b]=> .ok ((Δ.set i (.sh a)).set j (.sh b))
 |_=> .no
def au_9{i j k:Nat}{x y:Str}{p1 p2:Pos}(hc:X.calm=true)(hN:X.N.Nodup)(hi:X.N[i]? =some x:=by rfl)(hj:X.N[j]? =some y:=by rfl)(hx:Loc X.env.scope x:=by trivial)(hy:Loc X.env.scope y:=by trivial)
  (hf:X.fn x=true\/X.env.scope.names.lookup x=some .local:=by trivial) (hf2:X.fn y=true\/X.env.scope.names.lookup y=some .local:=by trivial)
  (hn:(assignEach [.Name x p1,.Name y p2] X.env).length=2:=by rfl) (hst:(assignEach [.Name x p1,.Name y p2] X.env).findIdx? (·.1)=none:=by rfl)
  (hs:(assignEach [.Name x p1,.Name y p2] X.env).map (·.2)=assign (.Name x p1) X.env::(assignEach [.Name y p2] X.env).map (·.2):=by rfl) (hs2:(assignEach [.Name y p2] X.env).map (·.2)=assign (.Name y p2) X.env::(assignEach [] X.env).map (·.2):=by rfl):
  GD X EX (.Tuple [.Name x p1,.Name y p2] k pos) (Gi i j):=
 PG.imp (bt_3 hc (aa_2 (x_3 hN hi hx hf) (aa_2 (x_3 hN hj hy hf2) bf_8 hs2) hs) hn hst) λv σ H Q ⟨H0,G0,G,Δ,O,d,E,r,q⟩=>by
  cases r with
  |tup h r=>
   cases r with
   |nil=>exact False.elim q
   |cons r1 r=>
    cases r with
    |nil=>exact False.elim q
    |cons r2 r=>
     cases r with
     |nil=>exact⟨_,_,rfl,Same.tupS E.st.gh h,rfl,_,_,rfl,_,_,rfl,rfl,q _ G H O ((E.put r1).put r2) (Same.refl _)⟩
     |cons _ _=>exact False.elim q
  |_=>exact False.elim q
def Cu(fg:FG)(g:FS):List D->FS
 | []=>λ Δ=> .nx Δ
 |d::ds=>λ Δ=>match fg d Δ with
  | .ok Δ1=>(match g Δ1 with
   | .nx Δ2=>Cu fg g ds Δ2
   | .ct Δ2=>Cu fg g ds Δ2
   | .bk Δ2=> .nx Δ2
   |r=>r)
  | .ex _=> .no
  | .no=> .no
def y_1(js:List Nat)(fi:FI)(fg:FG)(g:FS):FS:=λ Δ=>match fi (Aw Δ) with
 | .ok ds=>Cu fg g ds Δ
 | .ex x=> .ex x Δ
 | .no=>match fi (Aw (gsome js Δ)) with
  | .ok ds=>Cu fg g ds (gsome js Δ)
  | .ex x=> .ex x (gsome js Δ)
  | .no=> .no
def aa_8{α:Type}{l:List α}{i:Nat}(h:i < l.length):∃x,l[i]? =some x/\l.drop i=x::l.drop (i + 1):=⟨l[i],by simp[h],List.drop_eq_getElem_cons h⟩
def r_9{fg:FG}{g:FS}{H0:HB}{G0 G1 H1:Hp}{J:It}{ds:List D}{Δ:SE}{O:OS}{σ:Sg}{D:Ends}(E:Ev K H0 G0 G1 H1 σ Δ O)(it:ItD K G1 J ds)(q:Fin K EX H0 G0 G1 D (Cu fg g ds Δ)):
  ∃W:Nat->Nat->Sg->Hp->Prop,(∃m,W 0 m σ H1)/\∀i m σ H,W i m σ H->
   (J.stop i H/\D.nx σ H)\/(J.go i H/\∃N:Sg->Hp->Prop,(∀σ' H',N σ' H'->∃m',m' < m/\W (i + 1) m' σ' H')/\∀x H',J.yld i H x H'->tG K EX fg x σ H' λ σ2 H2=>tS K EX g {D with nx:=N,ct:=N,bk:=D.nx} σ2 H2):=by
 refine⟨λi m σ H=>m=ds.length - i/\i<=ds.length/\∃G Δ O,Ev K H0 G0 G H σ Δ O/\Same G1 G/\Fin K EX H0 G0 G1 D (Cu fg g (ds.drop i) Δ),⟨ds.length,by simp,K6 _,G1,Δ,O,E,Same.refl _,q⟩, ?_⟩
 rintro i m σ H ⟨rfl,hi,G,Δ,O,E,sg,q⟩
 obtain⟨i1,i2⟩:=it G H sg E.st.gh i
 by_cases hlt:i < ds.length
 ·obtain⟨d,e1,e2⟩:=aa_8 hlt;obtain⟨go,yl⟩:=i1 d e1;refine .inr ⟨go,λ σ' H'=>∃G Δ O,Ev K H0 G0 G H' σ' Δ O/\Same G1 G/\Fin K EX H0 G0 G1 D (Cu fg g (ds.drop (i + 1)) Δ),λ σ' H' w=>⟨ds.length - (i + 1),by omega,rfl,hlt,w⟩,λx H' y=> ?_⟩;obtain⟨G',st,hx⟩:=yl x H' y;rw[e2]at q;refine⟨H0,G0,G',Δ,O,d,E.grow st,hx, ?_⟩;have q':Fin K EX H0 G0 G1 D (match fg d Δ with
   | .ok Δ1=>(match g Δ1 with
    | .nx Δ2=>Cu fg g (ds.drop (i + 1)) Δ2
    | .ct Δ2=>Cu fg g (ds.drop (i + 1)) Δ2
    | .bk Δ2=> .nx Δ2
    |r=>r)
   | .ex _=> .no
   | .no=> .no):=q
  cases e3:fg d Δ with
  |ok Δ1=>
   rw[e3]at q';intro σ2 G2 H2 O2 E2 s2;have s12:Same G1 G2:=sg.trans (st.gg.trans s2);refine⟨H0,G0,G2,Δ1,O2,E2, ?_⟩;cases e4:g Δ1 with
   |nx Δ2=>simp only[e4]at q';exact λ σ3 G3 H3 O3 E3 s3=>⟨G3,Δ2,O3,E3,s12.trans s3,q'⟩
   |ct Δ2=>simp only[e4]at q';exact λ σ3 G3 H3 O3 E3 s3=>⟨G3,Δ2,O3,E3,s12.trans s3,q'⟩
   |bk Δ2=>simp only[e4]at q';exact λ σ3 G3 H3 O3 E3 s3=>q' σ3 G3 H3 O3 E3 (s12.trans s3)
   |rt w=>simp only[e4]at q';exact q'
   |rv d Δ2=>simp only[e4]at q';exact λv σ3 G3 H3 O3 E3 s3=>q' v σ3 G3 H3 O3 E3 (s12.trans s3)
   |ex x Δ2=>simp only[e4]at q';exact λ σ3 G3 H3 O3 E3 s3=>q' σ3 G3 H3 O3 E3 (s12.trans s3)
   |no=>simp only[e4]at q';exact q'
  |ex x=>rw[e3]at q';exact q'
  |no=>rw[e3]at q';exact q'
 ·have e:ds.length=i:=by omega
  refine .inl ⟨i2 e, ?_⟩;rw[U3 ()]at q;exact q σ G H O E sg
def y_2{tg iter:Expr}{body:List Stmt}{fi:FI}{fg:FG}{g:FS}(js:List Nat)(hp:PassesOwn (model X.prog X.w) X.A X.env X.xe)(hc:X.calm=true)(hi:ID X EX tg iter fi)(hg:GD X EX tg fg)(hb:BD X EX body g)
  (hs:∀x,foldedSetIterable iter X.env x=pure x:=by intro _;rfl):SD X EX (.For tg iter body [] pos) (y_1 js fi fg g):=
 PS.imp (bt_7 hp hc hi hg hb hs) λD σ H ⟨H0,G0,G,Δ,O,E,q⟩=>by
  unfold y_1 at q;cases e1:fi (Aw Δ) with
  |ok ds=>
   rw[e1]at q;refine⟨G,Aw Δ,E.st.gh,E.gsh, ?_⟩;rw[e1];exact λJ G' H' st it=>r_9 (E.grow st) it (Fin.mono st.gg q)
  |ex x=>
   rw[e1]at q;exact⟨G,Aw Δ,E.st.gh,E.gsh,by rw[e1];exact q σ G H O E (Same.refl _)⟩
  |no=>
   rw[e1]at q;obtain⟨G1,O1,sg,E1⟩:=E.gsome js;refine⟨G1,Aw (gsome js Δ),E1.st.gh,E1.gsh, ?_⟩;cases e2:fi (Aw (gsome js Δ)) with
   |ok ds=>
    simp only[e2]at q;exact λJ G' H' st it=>r_9 (E1.grow st) it (Fin.mono (sg.trans st.gg) q)
   |ex x=>simp only[e2]at q;exact q σ G1 H O1 E1 sg
   |no=>simp only[e2]at q;exact q
def Ee(i:Nat)(f:FE):FS:=λ Δ=>match Δ[i]? with
 |some (.ow (.lst ds))=>if ds.length < 16777216 then(match f (Aw Δ) with
   | .ok w=> .nx (Δ.set i (.ow (.lst (ds ++ [w.d]))))
   | .ex x=> .ex x Δ
   | .no=>match f (Bj Δ) with
    | .ok w=>if Bb w.d=true then .nx (Δ.set i (.ow (.lst (ds ++ [w.d])))) else .no
    |_=> .no) else .no
 |_=> .no
def bh_6{i:Nat}{x:Str}{e:Expr}{f:FE}{p1 zg zf:Pos}(he:ED X EX e f)(hN:X.N[i]? =some x:=by rfl)(hv:Fd X.env.scope x:=by trivial)(hd:AG x:=by decide)
  (hcd:(x ==("__classdict__" :Str))=false:=by decide) (hsw:swapsWith (.Call (.Attribute (.Name x p1) "append" zg) [e] [] zf) none pos.line X.env=pure false:=by rfl)
  (ae:attributeBase (.Name x p1) "append" X.env (eval (.Name x p1) X.env)=eval (.Name x p1) X.env:=by rfl)
  (bb:((backTo zf (starEach [e] X.env)).all (λx=> !x.1) && (backToKw zf (keywordEach [] X.env)).all (λx=>x.1.isSome)
   && decide ([e].length + ([]:List Keyword).length + (if([]:List Keyword).isEmpty then 0 else 1) < 30))=true:=by rfl)
  (af:(zg.endLine ==zf.line)=true:=by rfl) (hs:starEach [e] X.env=(false,eval e X.env)::starEach [] X.env:=by rfl) (ag:(backTo zf (starEach [] X.env)).any (·.1)=false:=by rfl):
  SD X EX (.Expr (.Call (.Attribute (.Name x p1) "append" zg) [e] [] zf) pos) (Ee i f):=
 PS.imp (x_2 (by_9 Q1 Y4 Y5 al_4 (Ff hN hv hd hcd) (j_2 he q_2 hs) ae bb af hs ag) hsw) λD σ H ⟨H0,G0,G,Δ,O,E,q⟩=>by
  unfold Ee at q
  split at q
  ·rename_i ds e1
   split at q
   ·rename_i hz;obtain⟨v0,s1,t⟩:=E.ow i _ _ e1 rfl;obtain⟨a,vs,rfl,m,hH,rl⟩:=t.list_of
    ·skip
     refine⟨.ref a,s1,.inl ⟨rfl,_,SqL.of hH⟩, ?_⟩;have fin:∀{G' H':Hp} {v:V} {d:L3.D},Ev X.K H0 G0 G' H' σ Δ O->Same G G'->H' a=some (.lst vs)->HasL X.K G' vs ds->Has X.K G' v d->Fin X.K EX H0 G0 G D (.nx (Δ.set i (.ow (.lst (ds ++ [d])))))->
       bg_4 (.ref a) [v] H' λ_ H1=>D.nx σ H1:=λ{G' H' v d} E' sg hH' r' hv' q'=>
      ⟨a,vs,v,rfl,rfl,hH',by rw[r'.length,F1];exact hz,q' σ G' _ _ (E'.writeL s1 m (r'.append (.cons hv' .nil))) sg⟩
     cases e2:f (Aw Δ) with
     |ok w=>
      simp only[e2]at q;refine⟨G,Aw Δ,E.st.gh,E.gsh, ?_⟩;rw[e2];exact WP.intro λv G' H' st r=>fin (E.grow st) st.gg (st.hh _ _ hH) (rl.mono st.gg) r q
     |ex x=>
      simp only[e2]at q;exact⟨G,Aw Δ,E.st.gh,E.gsh,by rw[e2];exact q σ G H O E (Same.refl _)⟩
     |no=>
      simp only[e2]at q;refine⟨Dd G H O,Bj Δ,E.aH,E.gall, ?_⟩;cases e3:f (Bj Δ) with
      |ok w=>
       simp only[e3]at q
       split at q
       ·rename_i fl;exact WP.intro λv G' H' st r=>fin (E.keep st.hh) (Same.refl _) (st.hh _ _ hH) rl (r.ofFl fl) q
       ·exact q.elim
      |ex x=>simp only[e3]at q;exact q.elim
      |no=>simp only[e3]at q;exact q
   ·exact q.elim
  ·exact q.elim
end
def Cr(X:Cx)(scope:Scope)(cl:List (Str×Addr))(N':List Str)(C:Addr)(s0:Shared)(H0:Hp)(fp:List Addr)(pn:AE):Cx where
 prog:=X.prog
 w:=X.w
 K:=X.K
 mg:=X.mg
 base:=X.base
 A:=X.A
 N:=N'
 s₀:=s0
 H₀:=H0
 env:=compEnvC scope cl C X.env
 outer:=X.stack
 stack:=X.stack
 ex:=fp
 fn:=λ_=>false
 calm:=X.calm
 pn:=pn
 xe:=λ_ _=>False
abbrev Ga:=D->DE->R DE
def tGc(K:Frag)(EX:Az)(fg:Ga):TG:=λv σ H Q=>∃G δ d,Same G H/\HasS K G σ δ/\Has K G v d/\match fg d δ with
 | .ok δ'=>∀σ',HasS K G σ' δ'->HasS K G σ' δ->Q σ' H
 | .ex x=>(EX σ).p x G H
 | .no=>False
abbrev GC(X:Cx)(EX:Az)(tg:Expr)(fg:Ga):Prop:=PG X tg (tGc X.K EX fg)
def CTs(X:Cx)(EX:Az)(ifs:List Expr)(p:FT):Prop:=
 ∀(zd:AE) (s:Shared) (σ:Sg) (H:Hp) (Q:Bool->Hp->Prop),Inv X zd σ H s->tDt X.K EX p σ H Q->
  wpAny (model X.prog X.w) X.A (forIn ifs true λc r=>if r=true then do let ok<-isTrue c X.env (eval c X.env);pure (ForInStep.yield ok) else pure (ForInStep.yield r)) (TP X zd σ Q) X.xe s
section
variable{X:Cx}{EX:Az}{pos:Pos}
def gC(i:Nat):Ga:=λd δ=>match δ[i]? with
 |some none=> .ok (δ.set i (some d))
 |_=> .no
def HasS.put{G:Hp}{σ:Sg}{δ:DE}{d:D}(h:HasS K G σ δ)(r:Has K G v d)(i:Nat):HasS K G (σ.set i (some v)) (δ.set i (some d)):=by
 refine⟨by rw[G6,G6];exact h.len,λj d' e=> ?_⟩;rcases Fg e with⟨rfl,q⟩|⟨n,q⟩
 ·cases q;have hlt:i < δ.length:=by
   by_cases hh:i < δ.length
   ·exact hh
   ·rw[L5 (by rw[G6];omega)]at e;cases e
  exact⟨v,by rw[J7 (by rw[h.len];exact hlt)],r⟩
 ·obtain⟨v',e1,r'⟩:=h.get j d' q;exact⟨v',by rw[C7 n];exact e1,r'⟩
def db_0{i:Nat}{x:Str}(hN:X.N.Nodup)(hi:X.N[i]? =some x:=by rfl)(hx:Loc X.env.scope x:=by trivial)
  (hf:X.fn x=true\/X.env.scope.names.lookup x=some .local:=by trivial):GC X EX (.Name x pos) (gC i):=
 PG.imp (x_3 hN hi hx hf) λv σ H Q ⟨G,δ,d,g,s,r,q⟩=>by
  unfold gC at q;cases e:δ[i]? with
  |none=>rw[e]at q;exact q.elim
  |some o=>
   rw[e]at q;cases o with
   |some _=>exact q.elim
   |none=>
    refine q _ (s.put r i) ⟨by rw[G6];exact s.len,λj d' e'=> ?_⟩;obtain⟨v',e1,r'⟩:=s.get j d' e';refine⟨v', ?_,r'⟩;rw[C7]
    ·exact e1
    ·rintro rfl
     rw[e]at e';cases e'
def bh_7:CTs X EX [] (λ_=> .ok true):=λzd s σ H Q I ⟨G,δ,g,h,q⟩=>wpAny_tests_nil ⟨H,I,q G H (Step.refl g)⟩
def bv_7{c:Expr}{p:FT}(h:TD X EX c p):CTs X EX [c] p:=λzd s σ H Q I q=>wpAny_tests_one (h zd s σ H Q I q)
def n_6(fg:Ga)(p:FT)(f:FE)(δ:DE):List D->R (List D)
 | []=> .ok []
 |d::ds=>(fg d δ).bind λ δ1=>(p δ1).bind λb=>if b=true then(f δ1).bind λw=>(n_6 fg p f δ ds).bind λrs=> .ok (w.d::rs) else n_6 fg p f δ ds
def R.calm{α:Type}:R α->R α
 | .ok w=> .ok w
 |_=> .no
@[simp] theorem R.calm_ok{α:Type}(a:α):(R.ok a).calm=.ok a:=rfl
@[simp] theorem R.calm_ex{α:Type}(x:Xn):(R.ex x:R α).calm=.no:=rfl
@[simp] theorem R.calm_no{α:Type}:(R.no:R α).calm=.no:=rfl
def Ci(m:Nat)(fi:FI)(fg:Ga)(p:FT)(f:FE):FE:=λ δ=>((fi δ).bind λds=>if ds.length<=16777216 then(n_6 fg p f (δ ++ List.replicate m none) ds).bind λrs=> .ok (.ow (.lst rs)) else .no).calm
def R.calm_never{α:Type}{r:R α}{x:Xn}(h:r.calm=.ex x):False:=by
 cases r <;> cases h
def ai_2{m:Nat}{fi:FI}{fg:Ga}{p:FT}{f:FE}{δ:DE}{x:Xn}(h:Ci m fi fg p f δ=.ex x):False:=R.calm_never h
@[reducible] def dn_3(prog:Program)(w:World)(A:Around)(env:Env)(tg elt:Expr)(ifs:List Expr)(it zn:Value)(bad:AA)(fin more:Shared->Prop):Option Value->Shared->Prop
 |none=>fin
 |some v=>wpAny (model prog w) A (letOwnedTupleGo tg it v) (λ_=>wpAny (model prog w) A (assign tg env v) (λ_=>
   wpAny (model prog w) A (forIn ifs true λc r=>if r=true then do let ok<-isTrue c env (eval c env);pure (ForInStep.yield ok) else pure (ForInStep.yield r)) (λok=>
    if ok=true then wpAny (model prog w) A (eval elt env) (λx=>wpAny (model prog w) A (call (.builtin "list.append") [zn,x]) (λ_=>more) bad) bad else more) bad) bad) bad
def bv_8{prog:Program}{w:World}{A:Around}{R:Result->Shared->Prop}{s:Shared}{elt target iter:Expr}{ifs:List Expr}{scope:Scope}{it zn:Value}{env:Env}(I:Nat->Shared->Prop)
  (turn:∀n s,I n s->wpAny (model prog w) A (pyNext it) (dn_3 prog w A env target elt ifs it zn (notedBy (model prog w) A env λe=>R (.error e)) (R (.ok .next)) λs'=>∃m,m < n/\I m s') (notedBy (model prog w) A env λe=>R (.error e)) s)
  (n:Nat) (h:I n s):codeAny (model prog w) A (.compLoop (.ListComp elt [⟨target,iter,ifs,0⟩] scope pos) 0 it zn env) R s:=by
 refine codeAny_loop rfl I (λk t hk=>wpAny_noted (env:=env) (m:=compTurn (.ListComp elt [⟨target,iter,ifs,0⟩] scope pos) 0 it zn env) (compTurn_list .. ▸ ?_)) n h;refine A7 (P6 (A7 (Bc (turn k t hk) ?_)))
 rintro (_|v) t1 g1
 ·exact F0 g1
 refine A7 (Bc g1 λ_ t2 g2=>A7 (Bc g2 λ_ t3 g3=>A7 (Bc g3 ?_)))
 rintro (_|_) t4 g4
 ·exact F0 ⟨rfl,g4⟩
 ·exact A7 (A7 (Bc g4 λ_ t5 g5=>A7 (Bc g5 λ_ t6 g6=>F0 (F0 ⟨rfl,g6⟩))))
structure CompN(X:Cx)(scope:Scope)(cl:List (Str×Addr))(N':List Str):Prop where
 clos:closureFor scope X.env=pure cl
 cell:∀y∈scope.names,y.2≠ .cell
 kind:scope.kind=.function
 names:∀y∈scope.names,y.2=.local->scope.names.lookup y.1=some .local
 sub:∀x c,cl.lookup x=some c->X.env.cells.lookup x=some c
 has:∀x,((relabel scope X.env).names.lookup x=some .cell\/(relabel scope X.env).names.lookup x=some .free)->∃c,cl.lookup x=some c
 old:∀(i:Nat) (x:Str),N'[i]? =some x->i < X.N.length->Fd (relabel scope X.env) x->X.N[i]? =some x/\(X.env.scope.names.lookup x=some .cell\/X.env.scope.names.lookup x=some .free)/\(∃c,cl.lookup x=some c)/\((relabel scope X.env).names.lookup x=some .cell\/(relabel scope X.env).names.lookup x=some .free)
def Bz(cells:List (Str×Addr)):List (Str×NameKind)->List (Str×Addr)->List (Str×Addr)
 | [],zn=>zn
 |(x,k)::r,zn=>Bz cells r (if k=.free then(x,(cells.lookup x).getD 0)::zn else zn)
def ba_0{scope:Scope}{env:Env}(h:∀p∈scope.names,p.2=.free->∃c,env.cells.lookup p.1=some c):closureFor scope env=pure (Bz env.cells scope.names []):=by
 have all:∀(names:List (Str×NameKind)) (zn:List (Str×Addr)),(∀p∈names,p.2=.free->∃c,env.cells.lookup p.1=some c)->
   (forIn names zn λ(x:Str×NameKind) (r:List (Str×Addr))=>if(x.2 == .free)=true then do let a<-cellOf env x.1;pure (ForInStep.yield ((x.1,a)::r)) else pure (ForInStep.yield r):Sem (List (Str×Addr)))=pure (Bz env.cells names zn):=by
  intro names
  induction names with
  |nil=>intro zn _;rfl
  |cons p r ih=>
   intro zn hp;obtain⟨x,k⟩:=p;rw[List.forIn_cons]
   by_cases hk:k=.free
   ·subst hk;obtain⟨c,e⟩:=hp (x,.free) C8 rfl;have e1:cellOf env x=pure c:=by unfold cellOf;rw[show env.cells.lookup x=some c from e]
    simp only[M8,if_true,e1,pure_bind];rw[ih _ λq hq=>hp q (C4 _ hq)];show _=pure (Bz env.cells r (if NameKind.free=.free then(x,(env.cells.lookup x).getD 0)::zn else zn));rw[if_pos rfl,show env.cells.lookup x=some c from e];rfl
   ·have hb:(k ==NameKind.free)=false:=by simpa using hk
    simp only[hb,Q6,S9,pure_bind];rw[ih _ λq hq=>hp q (C4 _ hq)];show _=pure (Bz env.cells r (if k=.free then(x,(env.cells.lookup x).getD 0)::zn else zn));rw[if_neg hk]
 unfold closureFor;have:=all scope.names [] h;simpa using this
theorem bn_5{cells:List (Str×Addr)}{q:Str×Addr}:∀{names:List (Str×NameKind)} {zn:List (Str×Addr)},q∈Bz cells names zn->q∈zn\/((q.1,NameKind.free)∈names/\q.2=(cells.lookup q.1).getD 0)
 | [],zn,h=> .inl h
 |(x,k)::r,zn,h=>by
  rcases bn_5 (names:=r) h with h|⟨h1,h2⟩
  ·split at h
   ·rename_i hk;rcases C6.mp h with rfl|h
    ·exact .inr ⟨by rw[hk];exact C8,rfl⟩
    ·exact .inl h
   ·exact .inl h
  ·exact .inr ⟨C4 _ h1,h2⟩
theorem bn_6{cells:List (Str×Addr)}{x:Str}:∀{names:List (Str×NameKind)} {zn:List (Str×Addr)},(zn.lookup x).isSome=true->((Bz cells names zn).lookup x).isSome=true
 | [],zn,h=>h
 |(y,k)::r,zn,h=>by
  refine bn_6 (names:=r) ?_
  split
  ·rw[F5]
   split
   ·rfl
   ·exact h
  ·exact h
theorem bn_7{cells:List (Str×Addr)}{x:Str}:∀{names:List (Str×NameKind)} {zn:List (Str×Addr)},(x,NameKind.free)∈names->((Bz cells names zn).lookup x).isSome=true
 |(y,k)::r,zn,h=>by
  rcases C6.mp h with h|h
  ·cases h;refine bn_6 (names:=r) ?_;rw[if_pos rfl,F5];simp
  ·exact bn_7 (names:=r) h
theorem s_7{env:Env}:∀(names:List (Str×NameKind)) (x:Str),
  (names.map λ(n,k)=>if(k ==NameKind.free && env.scope.kind == .function && env.kindOf n ==some .cell) then(n,NameKind.cell) else(n,k)).lookup x=(names.lookup x).map λk=>if(k ==NameKind.free && env.scope.kind == .function && env.kindOf x ==some .cell)=true then NameKind.cell else k
 | [],x=>rfl
 |(n,k)::r,x=>by
  have ih:=s_7 (env:=env) r x;show List.lookup x ((if(k ==NameKind.free && env.scope.kind == .function && env.kindOf n ==some .cell)=true then(n,NameKind.cell) else(n,k))::_)=_;cases hx:x ==n with
  |true=>
   have e:x=n:=eq_of_beq hx;subst e
   by_cases hc:(k ==NameKind.free && env.scope.kind == .function && env.kindOf x ==some .cell)=true
   ·rw[if_pos hc];simp only[F5,M8,K9];rw[if_pos hc]
   ·rw[if_neg hc];simp only[F5,M8,K9];rw[if_neg hc]
  |false=>
   by_cases hc:(k ==NameKind.free && env.scope.kind == .function && env.kindOf n ==some .cell)=true
   ·rw[if_pos hc];simp only[F5,hx];exact ih
   ·rw[if_neg hc];simp only[F5,hx];exact ih
def w_0(inner outer:List (Str×NameKind))(N N':List Str):Bool:=
 (inner.all λp=>p.2 != .cell && (p.2 != .local || inner.lookup p.1 ==some .local) && (p.2 != .free || (outer.lookup p.1 ==some .cell || outer.lookup p.1 ==some .free))) &&
 (List.range N.length).all λi=>match N'[i]? with
  |some x=>(match inner.lookup x with
   |some .free=>N[i]? ==some x && (outer.lookup x ==some .cell || outer.lookup x ==some .free)
   |some .local=>false
   |some .cell=>false
   |_=>true)
  |none=>true
def aa_9{scope:Scope}{N':List Str}(ok:X.Ok)(hk:scope.kind=.function)(hb:w_0 scope.names X.env.scope.names X.N N'=true):CompN X scope (Bz X.env.cells scope.names []) N':=by
 unfold w_0 at hb;rw[D9]at hb;obtain⟨h1,h2⟩:=hb;have h1:=K7.mp h1;have h2:=K7.mp h2;have fr:∀p∈scope.names,p.2=.free->∃c,X.env.cells.lookup p.1=some c:=λp hp hf=>by
  have z:=h1 p hp;simp only[hf,D9,T4,bne_iff_ne,N1]at z;exact ok.has p.1 (by
   rcases z.2 with z|z
   ·exact absurd rfl z
   ·exact z)
 have inn:∀x k,scope.names.lookup x=some k->(x,k)∈scope.names:=λx k e=>N6 e;have ba:∀p∈scope.names,p.2≠ .cell:=λp hp hc=>by
  have z:=h1 p hp;rw[hc]at z;simp at z
 have cy:∀x,scope.names.lookup x=some .free->∃c,(Bz X.env.cells scope.names []).lookup x=some c:=λx e=>L6.mp (bn_7 (inn x _ e));have fh:∀x,((relabel scope X.env).names.lookup x=some .cell\/(relabel scope X.env).names.lookup x=some .free)->scope.names.lookup x=some .free:=λx h=>by
  unfold relabel at h;rw[s_7]at h;cases e:scope.names.lookup x with
  |none=>rw[e]at h;simp at h
  |some k=>
   rw[e]at h;have nc:=ba (x,k) (inn x k e);cases k with
   |free=>rfl
   |cell=>exact absurd rfl nc
   |«local»=>simp at h
   |globalExplicit=>simp at h
   |globalImplicit=>simp at h
 refine⟨ba_0 fr,ba,hk,λy hy hl=> ?_,λx c e=> ?_,λx h=>cy x (fh x h),λi x e hi hv=> ?_⟩
 ·have z:=h1 y hy;simp only[hl,D9,T4,bne_iff_ne,N1]at z;rcases z.1.2 with z|z
  ·exact absurd rfl z
  ·exact z
 ·rcases bn_5 (N6 e) with z|⟨z1,z2⟩
  ·exact absurd z (by simp)
  ·obtain⟨c',e'⟩:=fr (x,.free) z1 rfl;have z2:c=(X.env.cells.lookup x).getD 0:=z2;have e':X.env.cells.lookup x=some c':=e';rw[e']at z2⊢;cases z2;rfl
 ·have z:=h2 i (R6.mpr hi);rw[e]at z;dsimp only at z;have look:scope.names.lookup x=some .free/\(((relabel scope X.env).names.lookup x=some .cell\/(relabel scope X.env).names.lookup x=some .free)):=by
   unfold Fd relabel at hv;unfold relabel;rw[s_7]at hv⊢;cases q:scope.names.lookup x with
   |none=>rw[q]at hv;simp at hv
   |some k=>
    rw[q]at hv z;cases k with
    |free=>
     refine⟨rfl, ?_⟩
     by_cases hc:(X.env.scope.kind == .function && X.env.kindOf x ==some .cell)=true
     ·left;simp[Bool.and_assoc,hc]
     ·right;simp[Bool.and_assoc,hc]
    |cell=>simp at z
    |«local»=>simp at z
    |globalExplicit=>simp at hv
    |globalImplicit=>simp at hv
  rw[look.1]at z;simp only[D9,T4,N1]at z;exact⟨z.1,z.2,cy x look.1,look.2⟩
structure TurnZ(P:Program)(w:World)(K:Frag)(tg:Expr)(J:It)(fp:List Addr)(it:Addr)(tn:Nat->Heap->Prop)(B:Cx->Prop):Prop where
 obj:∀i h,tn i h->∀b∈fp,∃o,h.get? b=some o/\∀v,o.data≠ .cell v
 keep:∀i h h',tn i h->(∀b∈fp,∀o,h.get? b=some o->h'.get? b=some o)->tn i h'
 item:∀(X:Cx),X.prog=P->X.w=w->X.K=K->∀(i:Nat) (zd:AE) (s:Shared) (σ:Sg) (H:Hp) (E:AA),B X->Inv X zd σ H s->(∀b∈fp,Gb X zd H b)->tn i s.heap->J.go i H->
  wpAny (model P w) X.A (pyNext (.ref it)) (λr s1=>∃u,r=some u/\
   wpAny (model P w) X.A (letOwnedTupleGo tg (.ref it) u) (λ_ s2=>∃x H',Inv X zd σ H' s2/\RelV x u/\J.yld i H x H'/\tn (i + 1) s2.heap/\∀b∈fp,H' b=none) E s1) E s
 done:∀(X:Cx),X.prog=P->X.w=w->X.K=K->∀(i:Nat) (zd:AE) (s:Shared) (σ:Sg) (H:Hp) (E:AA),B X->Inv X zd σ H s->(∀b∈fp,Gb X zd H b)->tn i s.heap->J.stop i H->
  wpAny (model P w) X.A (pyNext (.ref it)) (λr s1=>r=none/\Inv X zd σ H s1) E s
 self:∀(A:Around) (i:Nat) (s:Shared) (Q:AA) (E:AA),tn i s.heap->Q (.ref it) s->wpAny (model P w) A (pyIter (.ref it)) Q E s
def bc_7:Cx->Prop:=λX=>X.calm=true
def Turn.z{P:Program}{w:World}{tg:Expr}{J:It}{fp:List Addr}{it:Addr}{tn:Nat->Heap->Prop}(T:Turn P w K tg J fp it tn):TurnZ P w K tg J fp it tn bc_7:=
 ⟨T.obj,T.keep,λX a b c i zd s σ H E hc=>T.item X a b c hc i zd s σ H E,λX a b c i zd s σ H E hc=>T.done X a b c hc i zd s σ H E,T.self⟩
def BX:Cx->Prop:=λX=>X.A.handled=none\/∃(x:Addr) (o:Obj) (u:HO) (us:Array Value),X.A.handled=some (.ref x)/\X.H₀ x=some (.frz o u)/\o.data=.fields us/\us[2]? =some .none
def BX.ne{zd:AE}{s:Shared}{σ:Sg}{a:Addr}(b:BX X)(I:Inv X zd σ H s)(n:H a=none):X.A.handled≠some (.ref a):=λz=>by
 rcases b with b|⟨x,o,u,us,e,h,_⟩
 ·rw[b]at z;cases z
 ·rw[e]at z;injection z with z;injection z with z;rw[<-z,I.base.frzs x o u h]at n;cases n
def PIZ(X:Cx)(B:Cx->Prop)(tg iter:Expr)(wi:TI):Prop:=
 ∀(zd:AE) (s:Shared) (σ:Sg) (H:Hp) (R:It->Hp->Prop),Inv X zd σ H s->wi σ H R->
  wpAny (model X.prog X.w) X.A (eval iter X.env) (λv s1=>wpAny (model X.prog X.w) X.A (pyIter v) (λitv s2=>∃(it:Addr) (fp:List Addr) (tn:Nat->Heap->Prop) (J:It) (H':Hp),itv=.ref it/\Inv X zd σ H' s2/\TurnZ X.prog X.w X.K tg J fp it tn B/\tn 0 s2.heap/\(∀b∈fp,Gb X zd H' b)/\R J H') X.xe s1) X.xe s
theorem PI.z{tg iter:Expr}{wi:TI}(h:PI X tg iter wi):PIZ X bc_7 tg iter wi:=λzd s σ H R I q=>
 F3 (h zd s σ H R I q) (λv s1 h1=>F3 h1 (λitv s2 ⟨it,fp,tn,J,H',e,I2,T,r⟩=>⟨it,fp,tn,J,H',e,I2,Turn.z T,r⟩) λ_ _ z=>z) λ_ _ z=>z
def am_2{elt iter tg:Expr}{ifs:List Expr}{scope:Scope}{N':List Str}{fi:FI}{fg:Ga}{p:FT}{f:FE}{m:Nat}(hx0:∀e s,¬X.xe e s){B:Cx->Prop}(hk:scope.kind=.function)(hb:w_0 scope.names X.env.scope.names X.N N'=true)
  (hm:N'.length=X.N.length + m)
  (hin:∀C s0 H0 fp pn,GC (Cr X scope (Bz X.env.cells scope.names []) N' C s0 H0 fp pn) Bt tg fg/\CTs (Cr X scope (Bz X.env.cells scope.names []) N' C s0 H0 fp pn) Bt ifs p/\ED (Cr X scope (Bz X.env.cells scope.names []) N' C s0 H0 fp pn) Bt elt f)
  {zd:AE} {s:Shared} {σ:Sg} {δ:DE} (I:Inv X zd σ H s) {Z:Hp->Hp->Prop} (hZ:∀G2 H2,Z G2 H2->Same G2 H2/\HasS X.K G2 σ δ) (hB:∀C s0 H0 fp pn,Inv X zd σ H0 s0->B (Cr X scope (Bz X.env.cells scope.names []) N' C s0 H0 fp pn))
  (hit:wpAny (model X.prog X.w) X.A (eval iter X.env) (λxv s₁=>wpAny (model X.prog X.w) X.A (pyIter xv) (λitv s₂=>∃(it:Addr) (fp:List Addr) (tn:Nat->Heap->Prop) (J:It) (H2:Hp) (ds:List D) (G2:Hp),itv=.ref it/\Inv X zd σ H2 s₂/\TurnZ X.prog X.w X.K tg J fp it tn B/\tn 0 s₂.heap/\(∀b∈fp,Gb X zd H2 b)/\fi δ=.ok ds/\Z G2 H2/\ItD X.K G2 J ds) X.xe s₁) X.xe s)
  {RR:Value->Addr->Result->Shared->Prop}
  (o:match Ci m fi fg p f δ with| .ok _=>True| .ex x=>False| .no=>False)
  (hRR:∀(Da C:Addr) (s1:Shared) (G2 H2 G' H':Hp) (vs:List V) (rs:List D),Ci m fi fg p f δ=.ok (.ow (.lst rs))->Inv X zd σ H' s1->(∃m,s1.heap.Ns C m)->Gb X zd H' C->Z G2 H2->Step G2 H2 G' H'->H2 Da=none->H' Da=some (.lst vs)->G' Da=none->HasL X.K G' vs rs->RR (.ref Da) C (.ok .next) s1):
  wpAny (model X.prog X.w) X.A (eval iter X.env) (λx s₁=>wpAny (model X.prog X.w) X.A (pyIter x) (λit s₂=>wpAny (model X.prog X.w) X.A (newList []) (λzn s₃=>
   wpAny (model X.prog X.w) X.A (newFunctionEnv scope X.env.globals (Bz X.env.cells scope.names []) [] X.env.qual none .none (some X.env)) (λcenv s₄=>
    codeAny (model X.prog X.w) X.A (.compStart (.ListComp elt [⟨tg,iter,ifs,0⟩] scope pos) 0 it zn {cenv with scope:=relabel scope X.env}) (RR zn cenv.locals) s₄) X.xe s₃) X.xe s₂) X.xe s₁) X.xe s:=by
 have n:=aa_9 I.ok hk hb;generalize hcle:Bz X.env.cells scope.names []=cl at n hin hB⊢;have bu:∀ds,fi δ=.ok ds->ds.length<=16777216/\(match n_6 fg p f (δ ++ List.replicate m none) ds with| .ok rs=>Ci m fi fg p f δ=.ok (.ow (.lst rs))| .ex x=>False| .no=>False):=λds e=>by
  unfold Ci at o⊢;simp only[e,R.bind_ok]at o⊢
  by_cases hz:ds.length<=16777216
  ·refine⟨hz, ?_⟩;rw[if_pos hz]at o⊢;cases e2:n_6 fg p f (δ ++ List.replicate m none) ds with
   |ok rs=>rfl
   |ex x=>rw[e2]at o;exact o
   |no=>rw[e2]at o;exact o
  ·rw[if_neg hz]at o;exact o.elim
 
 refine F3 hit (λxv s₁ h₁=>F3 h₁ (λitv s₂ h₂=> ?_) λ_ _ e=>(hx0 _ _ e).elim) λ_ _ e=>(hx0 _ _ e).elim;obtain⟨it,fp,tn,J,H2,ds,G2,rfl,I2,T,st2,f2,e2,hz2,itd⟩:=h₂;obtain⟨sg2,h0⟩:=hZ G2 H2 hz2;obtain⟨hz,o⟩:=bu ds e2
 
 have hfD:H2 s₂.heap.objs.size=none:=I2.hok.fresh (B5 _);refine Y0 (wpAny_newFunctionEnv n.cell (by intro y hy;simp at hy) (λh₁ hns₁ hsb₁=> ?_) n.kind);dsimp only at hns₁ hsb₁⊢;generalize hDa:s₂.heap.objs.size=Da at hfD;have hDn: @Eq Nat s₂.heap.objs.size Da:=hDa;have I3:Inv X zd σ (upd H2 Da (.lst [])) {s₂ with heap:=s₂.heap.push {cls:=.type "list",dict:=none,data:=.seq ([]:List Value).toArray}}:=by
  rw[<-hDa];exact I2.lnew (t':=s₂.toks) .nil (K6 _)
 generalize hH3:s₂.heap.push {cls:=.type "list",dict:=none,data:=.seq ([]:List Value).toArray}=hp3 at hns₁ hsb₁ I3⊢;have hC:hp3.objs.size=Da + 1:=by rw[<-hH3,N2,hDa]
 generalize hCe:hp3.objs.size=C at hns₁ hsb₁ hC;have hCn: @Eq Nat hp3.objs.size C:=hCe;have hC2: @Eq Nat C (Da + 1):=hC;have fu:∀b o,s₂.heap.get? b=some o->hp3.get? b=some o:=λb o e=>by rw[<-hH3];exact A4 _ e
 have up:∀b o,hp3.get? b=some o->h₁.get? b=some o:=λb o e=>hsb₁.extBut b o (D7 (show @LT.lt Nat _ b C by rw[<-hCn];exact A5 e)) (A4 _ e)
 
 have fpC:∀b∈fp,b < s₂.heap.objs.size:=λb hb=>by
  obtain⟨o,e,_⟩:=T.obj _ _ st2 b hb;exact A5 e
 have hcl:∀x c,cl.lookup x=some c->c < hp3.objs.size/\c∉fp/\(upd H2 Da (.lst [])) c=none:=λx c e=>by
  have e':=n.sub x c e;obtain⟨v,hv⟩:=I3.cell x c e';exact⟨hv.lt,λz=>(f2 c z).2.2.2.2.1 x c e' rfl,I3.freeC x c e'⟩
 let X':=Cr X scope cl N' C {s₂ with heap:=hp3} (upd H2 Da (.lst [])) fp (X.pn ++ zd)
 have ok':X'.Ok:=by
  refine⟨I.ok.mod,n.kind,I.ok.glob,I.ok.blt,S3 hCe,λx y c h1 h2=>I.ok.inj x y c (n.sub x c h1) (n.sub y c h2),λx hx=>n.has x hx,λx c z=> ?_,I.ok.hd,I.ok.frames,.inl rfl,λb hb=>⟨?_,λx c e z=> ?_⟩,λb o e=> ?_, ?_,λb o e hb=> ?_,λb hb z=> ?_,I3.stack,I3.stkFree⟩
  ·exact absurd z A6
  ·exact D7 (C5 (fpC b hb) (show @LE.le Nat _ s₂.heap.objs.size C by omega))
  ·subst z;exact(hcl x c e).2.1 hb
  ·exact I3.bs b o e
  ·exact D4 I.ok.bsz I3.sz
  ·rcases(f2 b hb).2.2.2.1 with z|z
   ·exact I.ok.noex b o e z
   ·exact absurd (A5 (I.ok.bs b o e).1) (Nat.not_lt_of_le z)
  ·rcases C6.mp (I3.stkSub b z) with z|z
   ·exact(f2 b hb).2.1 z
   ·exact(f2 b hb).2.2.1 z
 have lenσ:σ.length=X.N.length:=I.len;have I4:Inv X' [] (σ ++ List.replicate m none) (upd H2 Da (.lst [])) {s₂ with heap:=h₁,toks:=s₂.toks + ([]:List (Str×Value)).length}:=by
  refine⟨ok',rfl,I2.bare,Un.kept up,⟨_,hns₁,λi x v e1 e2 e3=> ?_⟩,λx c e=> ?_, ?_,λx c e=>(hcl x c e).2.2,λp hp=> ?_,I3.hok.kept up, ?_⟩
  ·have hi:i < σ.length:=by
    by_cases hh:i < σ.length
    ·exact hh
    ·rw[J9 (),K4]at e2
     split at e2 <;> cases e2
   rw[E4 hi]at e2;obtain⟨n1,n2,⟨c,n3⟩,n4⟩:=n.old i x e1 () e3;obtain⟨mm,hnm,hl⟩:=I3.loc;obtain⟨u,r,l⟩:=hl i x v n1 e2 (.inr n2);refine⟨u,r,.inr ⟨n4,c,n3, ?_⟩⟩;have n3':=n.sub x c n3;rcases l with⟨k1,k2⟩|⟨k1,c',k2,k3⟩
   ·exfalso;have k1':X.env.scope.names.lookup x=some .local:=k1;rcases n2 with n2|n2
    ·rw[n2]at k1';cases k1'
    ·rw[n2]at k1';cases k1'
   ·rw[n3']at k2;cases k2;exact k3.keeps up
  ·obtain⟨v,hv⟩:=I3.cell x c (n.sub x c e);exact⟨v,hv.keeps up⟩
  ·show upd H2 Da (.lst []) C=none;exact I3.hok.fresh (by show hp3.objs.size<=C;omega)
  ·have hp':p∈X.pn ++ zd:=by
    have hp2:p∈(X.pn ++ zd) ++ []:=hp
    rwa[D8]at hp2
   obtain⟨z1,z2,z3,z4,z5⟩:=I3.pin p hp';refine⟨up _ _ z1,z2, ?_,λz=> ?_,z5⟩
   ·exact D7 (show @LT.lt Nat _ p.1 C by rw[<-hCn];exact A5 z1)
   ·rcases C6.mp (I3.stkSub p.1 z) with z|z
    ·exact z3 z
    ·exact z4 z
  ·rw[B7,L1,lenσ];exact hm.symm
 obtain⟨hgc,hct,hel⟩:=hin C {s₂ with heap:=hp3} (upd H2 Da (.lst [])) fp (X.pn ++ zd);have hS4:HasS X.K G2 (σ ++ List.replicate m none) (δ ++ List.replicate m none):=by
  refine⟨by rw[B7,B7,L1,L1,h0.len],λi d e=> ?_⟩
  by_cases hh:i < δ.length
  ·rw[E4 hh]at e;obtain⟨v,e1,r⟩:=h0.get i d e;exact⟨v,by rw[E4 (by rw[h0.len];exact hh)];exact e1,r⟩
  ·rw[J9 (),K4]at e
   split at e <;> cases e
 generalize hδ:δ ++ List.replicate m none=δ' at hS4 o;have stn:tn 0 h₁:=T.keep 0 _ _ st2 λb hb o e=>up b o (fu b o e);have fpn:∀b∈fp,(upd H2 Da (.lst [])) b=none:=λb hb=>by
  rw[Ao (D7 (show @LT.lt Nat _ b Da by rw[<-hDn];exact fpC b hb))];exact(f2 b hb).1
 have bx:∀{pl:AE} {H':Hp},pl= []->(∀b∈fp,H' b=none)->∀b∈fp,Gb X' pl H' b:=λ{pl H'} hpl hn b hb=>by
  subst hpl;refine⟨hn b hb, ?_,λz=> ?_,.inl hb,λx c e z=> ?_,λp hp z=> ?_⟩
  ·exact D7 (C5 (fpC b hb) (show @LE.le Nat _ s₂.heap.objs.size C by omega))
  ·rcases C6.mp (I3.stkSub b z) with z|z
   ·exact(f2 b hb).2.1 z
   ·exact(f2 b hb).2.2.1 z
  ·subst z;exact(hcl x c e).2.1 hb
  ·have hp':p∈X.pn ++ zd:=by
    have hp2:p∈(X.pn ++ zd) ++ []:=hp
    rwa[D8]at hp2
   exact(f2 b hb).2.2.2.2.2 p hp' z
 have loop:∀s4:Shared,Inv X' [] (σ ++ List.replicate m none) (upd H2 Da (.lst [])) s4->tn 0 s4.heap->codeAny (model X.prog X.w) X.A (.compLoop (.ListComp elt [⟨tg,iter,ifs,0⟩] scope pos) 0 (.ref it) (.ref Da) (compEnvC scope cl C X.env)) (RR (.ref Da) C) s4:=by
  intro s4 I4 tn4;refine bv_8 (λk s'=>∃i σ' H' G' vs rs,k=ds.length - i/\i<=ds.length/\Inv X' [] σ' H' s'/\tn i s'.heap/\(∀b∈fp,H' b=none)/\HasS X.K G' σ' δ'/\Step G2 H2 G' H'/\Same G2 G'/\H' Da=some (.lst vs)/\G' Da=none/\
   HasL X.K G' vs rs/\rs.length<=i/\(match n_6 fg p f δ' (ds.drop i) with| .ok rs2=>Ci m fi fg p f δ=.ok (.ow (.lst (rs ++ rs2)))| .ex x=>False| .no=>False)) ?_ ds.length
   ⟨0,_,_,G2,[],[],by simp,K6 _,I4,tn4,fpn,hS4,Step.own sg2 hfD _,Same.refl _,Bk,sg2.free hfD,.nil,K6 _,by simpa using o⟩
  rintro k s' ⟨i,σ',H',G',vs,rs,rfl,hi,I',tni,fn',hS,st,sg,hD,gD,rl,hl,o'⟩
  obtain⟨i1,i2⟩:=itd G' H' sg st.gh i
  by_cases hlt:i < ds.length
  ·obtain⟨d,e1,e2⟩:=aa_8 hlt;obtain⟨go,yl⟩:=i1 d e1;refine Bc (T.item X' rfl rfl rfl i [] s' σ' H' _ (hB _ _ _ _ _ I3) I' (bx rfl fn') tni go) λr s1 ⟨u,hr,h1⟩=> ?_;subst hr;refine Bc h1 λ_ s5 ⟨x,H5,I5,r5,y5,st5,fr5⟩=> ?_;obtain⟨G5,aq,hx5⟩:=yl x H5 y5;have I5':=I5.pinned (bx rfl fr5) (T.obj _ _ st5);rw[e2]at o';have o1:match((fg d δ').bind λ δ1=>(p δ1).bind λb=>if b=true then(f δ1).bind λw=>(n_6 fg p f δ' (ds.drop (i + 1))).bind λrs=> .ok (w.d::rs) else n_6 fg p f δ' (ds.drop (i + 1))) with| .ok rs2=>Ci m fi fg p f δ=.ok (.ow (.lst (rs ++ rs2)))| .ex x=>False| .no=>False:=o'
   have hS5:HasS X.K G5 σ' δ':=hS.mono aq.gg;refine F3 (hgc _ s5 σ' H5 x u (λ σ6 H6=>∃δ1,fg d δ'=.ok δ1/\H6=H5/\HasS X.K G5 σ6 δ1/\HasS X.K G5 σ6 δ') I5' r5 ⟨G5,δ',d,aq.gh,hS5,hx5, ?_⟩) (λ_ s6 ⟨σ6,H6,I6,δ1,e6,eH,hS6,hS6'⟩=> ?_) λ_ _ z=>False.elim z
   ·cases e6:fg d δ' with
    |ok δ1=>exact λ σ6 h6 h6'=>⟨δ1,rfl,rfl,h6,h6'⟩
    |ex x=>rw[e6]at o1;exact o1
    |no=>rw[e6]at o1;exact o1
   subst eH;rw[e6]at o1;simp only[R.bind_ok]at o1;refine F3 (hct _ s6 σ6 H6 (λb H7=>∃G7,p δ1=.ok b/\Step G5 H6 G7 H7) I6 ⟨G5,δ1,aq.gh,hS6, ?_⟩) (λb s7 ⟨H7,I7,G7,e7,stp7⟩=> ?_) λ_ _ z=>False.elim z
   ·cases e7:p δ1 with
    |ok b=>exact λG7 H7 st7=>⟨G7,rfl,st7⟩
    |ex x=>rw[e7]at o1;exact o1
    |no=>rw[e7]at o1;exact o1
   rw[e7]at o1;simp only[R.bind_ok]at o1
   
   have gD7:G7 Da=none:=(aq.trans stp7).nw Da gD (by rw[hD];simp);have hD7:H7 Da=some (.lst vs):=(aq.trans stp7).hh _ _ hD;have bo:∀{σ9:Sg} {H9:Hp} {s9:Shared},Inv X' ([] ++ at_6 fp s5.heap) σ9 H9 s9->tn (i + 1) s9.heap/\∀b∈fp,H9 b=none:=λ{σ9 H9 s9} I9=>
    ⟨T.keep _ _ _ st5 λb hb o e=>(I9.pin (b,o) (B6 _ (B6 _ (x_4 hb e)))).1,λb hb=>by
     obtain⟨o,e,d⟩:=T.obj _ _ st5 b hb;exact(I9.pin (b,o) (B6 _ (B6 _ (x_4 hb e)))).2.1⟩
   have hSk:∀{G9:Hp},Same G7 G9->HasS X.K G9 σ6 δ':=λ{G9} sm=>hS6'.mono (stp7.gg.trans sm);cases b with
   |false=>
    rw[if_neg A6]at o1⊢;exact⟨ds.length - (i + 1),by omega,i + 1,σ6,H7,G7,vs,rs,rfl,hlt,I7.unpinned,(bo I7).1,(bo I7).2,hSk (Same.refl _),st.trans (aq.trans stp7),sg.trans (aq.gg.trans stp7.gg),hD7,gD7,rl.mono (aq.gg.trans stp7.gg),by omega,o1⟩
   |true=>
    rw[if_pos rfl]at o1⊢;refine F3 (hel _ s7 σ6 H7 (λv H8=>∃w G8,f δ1=.ok w/\Step G7 H7 G8 H8/\Has X.K G8 v w.d) I7 ⟨G7,δ1,stp7.gh,hS6.mono stp7.gg, ?_⟩) (λu8 s8 ⟨v8,H8,I8,r8,w8,G8,e8,stp8,hv8⟩=> ?_) λ_ _ z=>False.elim z
    ·cases e8:f δ1 with
     |ok w=>exact WP.intro λv G8 H8 st8 r8=>⟨w,G8,rfl,st8,r8⟩
     |ex x=>rw[e8]at o1;exact o1
     |no=>rw[e8]at o1;exact o1
    rw[e8]at o1;simp only[R.bind_ok]at o1;have gD8:G8 Da=none:=stp8.nw Da gD7 (by rw[hD7];simp);have hD8:H8 Da=some (.lst vs):=stp8.hh _ _ hD7;have rl8:HasL X.K G8 vs rs:=rl.mono (aq.gg.trans (stp7.gg.trans stp8.gg));refine F3 (al_4 (X:=X') _ s8 σ6 H8 (.ref Da) [v8] (.ref Da) [u8] (λ_ H9=>H9=upd H8 Da (.lst (vs ++ [v8]))) I8 rfl (.cons r8 .nil) ⟨Da,vs,v8,rfl,rfl,hD8,by rw[rl.length,F1];omega,rfl⟩) (λ_ s9 ⟨_,H9,I9,_,e9⟩=> ?_) λ_ _ z=>False.elim z;subst e9;have stA:=st.trans (aq.trans (stp7.trans stp8));refine⟨ds.length - (i + 1),by omega,i + 1,σ6,_,G8,vs ++ [v8],rs ++ [w8.d],rfl,hlt,I9.unpinned,(bo I9).1,(bo I9).2,hSk stp8.gg,⟨λb o z=> ?_,λb o z=> ?_,stA.gg,stA.nw⟩,sg.trans (aq.gg.trans (stp7.gg.trans stp8.gg)),Bk,gD8,rl8.append (.cons hv8 .nil),by rw[B7,List.length_singleton];omega, ?_⟩
    ·rw[Ao (Et z hfD)];exact stA.hh b o z
    ·rw[Ao (Et z gD8)];exact stp8.gh b o z
    ·cases e10:n_6 fg p f δ' (ds.drop (i + 1)) with
     |ok rs2=>
      rw[e10]at o1;simp only[R.bind_ok]at o1⊢;rw[J8];exact o1
     |ex x=>rw[e10]at o1;exact o1
     |no=>rw[e10]at o1;exact o1
  ·have e:ds.length=i:=by omega
   refine Bc (T.done X' rfl rfl rfl i [] s' σ' H' _ (hB _ _ _ _ _ I3) I' (bx rfl fn') tni (i2 e)) λr s1 ⟨hr,I1⟩=> ?_;subst hr;rw[U3 ()]at o';have o1:Ci m fi fg p f δ=.ok (.ow (.lst (rs ++ []))):=o';rw[D8]at o1;obtain⟨mm,hnm,_⟩:=I1.loc;have fb:Inv X zd σ H' s1:=I3.call' (s':=s1) (ch:=fp) I1.os I1.base I1.hok I1.bare λb hb=>by
    obtain⟨f0,f1',f2',f3,f4,f5⟩:=f2 b hb;exact⟨f3,f1',f4,f5⟩
   exact hRR Da C s1 G2 H2 G' H' vs rs o1 fb ⟨mm,hnm⟩ (I3.fpOk (by show hp3.objs.size<=C;omega) I1.free) hz2 st hfD hD gD rl
 exact codeAny_compStart_list (loop _ I4 stn) (T.self X.A 0 _ _ _ stn (loop _ I4 stn))
def av_0{elt iter tg:Expr}{ifs:List Expr}{scope:Scope}{N':List Str}{fi:FI}{fg:Ga}{p:FT}{f:FE}{m:Nat}(hx0:∀e s,¬X.xe e s){B:Cx->Prop}(hi:PIZ X B tg iter (tI X.K Bt fi))(hk:scope.kind=.function)(hb:w_0 scope.names X.env.scope.names X.N N'=true)
  (hm:N'.length=X.N.length + m)
  (hin:∀C s0 H0 fp pn,GC (Cr X scope (Bz X.env.cells scope.names []) N' C s0 H0 fp pn) Bt tg fg/\CTs (Cr X scope (Bz X.env.cells scope.names []) N' C s0 H0 fp pn) Bt ifs p/\ED (Cr X scope (Bz X.env.cells scope.names []) N' C s0 H0 fp pn) Bt elt f)
  {zd:AE} {s:Shared} {σ:Sg} {G H:Hp} {δ:DE} (I:Inv X zd σ H s) (g0:Same G H) (h0:HasS X.K G σ δ) (hB:∀C s0 H0 fp pn,Inv X zd σ H0 s0->B (Cr X scope (Bz X.env.cells scope.names []) N' C s0 H0 fp pn)) {RR:Value->Addr->Result->Shared->Prop}
  (o:match Ci m fi fg p f δ with| .ok _=>True| .ex x=>False| .no=>False)
  (hRR:∀(Da C:Addr) (s1:Shared) (G' H':Hp) (vs:List V) (rs:List D),Ci m fi fg p f δ=.ok (.ow (.lst rs))->Inv X zd σ H' s1->(∃m,s1.heap.Ns C m)->Gb X zd H' C->Step G H G' H'->H Da=none->H' Da=some (.lst vs)->G' Da=none->HasL X.K G' vs rs->RR (.ref Da) C (.ok .next) s1):
  wpAny (model X.prog X.w) X.A (eval iter X.env) (λx s₁=>wpAny (model X.prog X.w) X.A (pyIter x) (λit s₂=>wpAny (model X.prog X.w) X.A (newList []) (λzn s₃=>
   wpAny (model X.prog X.w) X.A (newFunctionEnv scope X.env.globals (Bz X.env.cells scope.names []) [] X.env.qual none .none (some X.env)) (λcenv s₄=>
    codeAny (model X.prog X.w) X.A (.compStart (.ListComp elt [⟨tg,iter,ifs,0⟩] scope pos) 0 it zn {cenv with scope:=relabel scope X.env}) (RR zn cenv.locals) s₄) X.xe s₃) X.xe s₂) X.xe s₁) X.xe s:=by
 refine am_2 hx0 (B:=B) hk hb hm hin I (Z:=λG2 H2=>Step G H G2 H2) (λG2 H2 z=>⟨z.gh,h0.mono z.gg⟩) hB ?_ o λDa C s1 G2 H2 G' H' vs rs e Io hm' fc z st h1 h2 h3 rl=>hRR Da C s1 G' H' vs rs e Io hm' fc (z.trans st) (z.hh.free h1) h2 h3 rl;refine F3 (hi zd s σ H (λJ H2=>∃ds G2,fi δ=.ok ds/\Step G H G2 H2/\ItD X.K G2 J ds) I ⟨G,δ,g0,h0, ?_⟩) (λxv s₁ h₁=>F3 h₁ (λitv s₂ h₂=> ?_) λ_ _ e=>(hx0 _ _ e).elim) λ_ _ e=>(hx0 _ _ e).elim
 ·unfold Ci at o;cases e:fi δ with
  |ok ds=>exact λJ G2 H2 st it=>⟨ds,G2,rfl,st,it⟩
  |ex x=>rw[e]at o;exact o
  |no=>rw[e]at o;exact o
 ·obtain⟨it,fp,tn,J,H2,rfl,I2,T,st2,f2,ds,G2,e2,stp,itd⟩:=h₂;exact⟨it,fp,tn,J,H2,ds,G2,rfl,I2,T,st2,f2,e2,stp,itd⟩
def ch_4{elt iter tg:Expr}{ifs:List Expr}{scope:Scope}{N':List Str}{fi:FI}{fg:Ga}{p:FT}{f:FE}{m:Nat}(hx0:∀e s,¬X.xe e s){B:Cx->Prop}(hB:∀zd σ C s0 H0 fp pn,Inv X zd σ H0 s0->B (Cr X scope (Bz X.env.cells scope.names []) N' C s0 H0 fp pn))(hi:PIZ X B tg iter (tI X.K Bt fi))(hk:scope.kind=.function)(hb:w_0 scope.names X.env.scope.names X.N N'=true)
  (hm:N'.length=X.N.length + m)
  (hin:∀C s0 H0 fp pn,GC (Cr X scope (Bz X.env.cells scope.names []) N' C s0 H0 fp pn) Bt tg fg/\CTs (Cr X scope (Bz X.env.cells scope.names []) N' C s0 H0 fp pn) Bt ifs p/\ED (Cr X scope (Bz X.env.cells scope.names []) N' C s0 H0 fp pn) Bt elt f)
  (hs:∀x,foldedSetIterable iter X.env x=pure x:=by intro _;rfl):ED X Bt (.ListComp elt [⟨tg,iter,ifs,0⟩] scope pos) (Ci m fi fg p f):=by
 intro zd s σ H Q I q;obtain⟨G,δ,g0,h0,o⟩:=q;rw[eval_ListComp];have n:=aa_9 I.ok hk hb;refine P7 (use:=none) rfl hs n.clos n.kind n.names (av_0 (RR:=λzn C=>compPost (model X.prog X.w) X.A X.xe none (EP X zd σ Q) zn C) hx0 hi hk hb hm hin I g0 h0 (hB _ _) ?_ λDa C s1 G' H' vs rs e Io hm' fc st h1 h2 h3 rl=> ?_)
 ·cases e:Ci m fi fg p f δ with
  |ok w=>trivial
  |ex x=>rw[e]at o;exact o
  |no=>rw[e]at o;exact o
 ·rw[e]at o;obtain⟨mm,hnm⟩:=hm';obtain⟨c0,c1,c2,c3,c4,c5⟩:=fc;exact⟨mm,hnm,λh' sb=>⟨.ref Da,H',Io.turned (t':=s1.toks) (λb ob hb e=>(sb.2 b hb).trans e) c0 c1 c3 c4 c5,rfl,o (.ref Da) (λb=>b=Da) G' H' st (λa e=>by subst e;exact⟨h1,h3,by rw[h2];simp⟩) (.list h2 rfl rl)⟩⟩
def co_6{elt iter tg:Expr}{ifs:List Expr}{scope:Scope}{N':List Str}{fi:FI}{fg:Ga}{p:FT}{f:FE}{m:Nat}(hx0:∀e s,¬X.xe e s)(hc:X.calm=true)(hi:ID X Bt tg iter fi)(hk:scope.kind=.function)(hb:w_0 scope.names X.env.scope.names X.N N'=true)
  (hm:N'.length=X.N.length + m)
  (hin:∀C s0 H0 fp pn,GC (Cr X scope (Bz X.env.cells scope.names []) N' C s0 H0 fp pn) Bt tg fg/\CTs (Cr X scope (Bz X.env.cells scope.names []) N' C s0 H0 fp pn) Bt ifs p/\ED (Cr X scope (Bz X.env.cells scope.names []) N' C s0 H0 fp pn) Bt elt f)
  (hs:∀x,foldedSetIterable iter X.env x=pure x:=by intro _;rfl):ED X Bt (.ListComp elt [⟨tg,iter,ifs,0⟩] scope pos) (Ci m fi fg p f):=
 ch_4 (B:=bc_7) hx0 (λ_ _ _ _ _ _ _ _=>hc) (PI.z hi) hk hb hm hin hs
def as_0{elt iter tg:Expr}{ifs:List Expr}{scope:Scope}{N':List Str}{fi:FI}{fg:Ga}{p:FT}{f:FE}{m:Nat}(hc:X.calm=true)(hi:ID X.nox Bt tg iter fi)(hk:scope.kind=.function)(hb:w_0 scope.names X.env.scope.names X.N N'=true)
  (hm:N'.length=X.N.length + m)
  (hin:∀C s0 H0 fp pn,GC (Cr X scope (Bz X.env.cells scope.names []) N' C s0 H0 fp pn) Bt tg fg/\CTs (Cr X scope (Bz X.env.cells scope.names []) N' C s0 H0 fp pn) Bt ifs p/\ED (Cr X scope (Bz X.env.cells scope.names []) N' C s0 H0 fp pn) Bt elt f)
  (hs:∀x,foldedSetIterable iter X.env x=pure x:=by intro _;rfl):ED X EX (.ListComp elt [⟨tg,iter,ifs,0⟩] scope pos) (Ci m fi fg p f):=
 PE.imp (PE.nox (co_6 (X:=X.nox) (λ_ _ z=>z) hc hi hk hb hm hin hs)) λ σ H Q ⟨G,δ,g0,h0,o⟩=>by
  refine⟨G,δ,g0,h0, ?_⟩;cases e:Ci m fi fg p f δ with
  |ok w=>rw[e]at o;exact o
  |ex x=>exact(ai_2 e).elim
  |no=>rw[e]at o;exact o
theorem PS.nox{st:Stmt}{t:TS}(h:PS X.nox st t):PS X st t:=λzd s σ H D I hw=>
 F3 (h zd s σ H D (I.wish _) hw) (λ_ _ q=>q.unwish) λ_ _ z=>False.elim z
def bz_8{i:Nat}{js:List Nat}{f:FE}(h:∀δ x,f δ≠ .ex x){Δ Δ':SE}{x:Xn}(e:Ak i js f Δ=.ex x Δ'):False:=by
 unfold Ak at e;have hp:∀Δ2,Eg i Δ2 (f (Aw Δ2))=.ex x Δ'->False:=λ Δ2 e2=>by
  unfold Eg at e2;cases q:f (Aw Δ2) with
  |ok w=>rw[q]at e2;cases w <;> cases e2
  |ex y=>exact h _ _ q
  |no=>rw[q]at e2;cases e2
 cases q:f (Aw Δ) with
 |ok w=>rw[q]at e;cases w <;> cases e
 |ex y=>exact h _ _ q
 |no=>
  rw[q]at e;cases q2:f (Bj Δ) with
  |ok w=>
   simp only[q2]at e
   split at e
   ·cases e
   ·exact hp _ e
  |ex y=>exact h _ _ q2
  |no=>simp only[q2]at e;cases e
def co_7(js:List Nat){elt iter tg:Expr}{ifs:List Expr}{scope:Scope}{N':List Str}{fi:FI}{fg:Ga}{p:FT}{f:FE}{m i:Nat}{y:Str}{py ao:Pos}(hx0:∀e s,¬X.xe e s)(hc:X.calm=true)(hi:ID X Bt tg iter fi)(hk:scope.kind=.function)(hb:w_0 scope.names X.env.scope.names X.N N'=true)
  (hm:N'.length=X.N.length + m)
  (hin:∀C s0 H0 fp pn,GC (Cr X scope (Bz X.env.cells scope.names []) N' C s0 H0 fp pn) Bt tg fg/\CTs (Cr X scope (Bz X.env.cells scope.names []) N' C s0 H0 fp pn) Bt ifs p/\ED (Cr X scope (Bz X.env.cells scope.names []) N' C s0 H0 fp pn) Bt elt f)
  (hN:X.N.Nodup) (hy:X.N[i]? =some y:=by rfl) (hx:Loc X.env.scope y:=by trivial) (hf:X.fn y=true\/X.env.scope.names.lookup y=some .local:=by trivial)
  (hsw:swapsWith (.ListComp elt [⟨tg,iter,ifs,0⟩] scope pos) (some (.Name y py)) ao.line X.env=pure true:=by rfl)
  (hs:∀x,foldedSetIterable iter X.env x=pure x:=by intro _;rfl):SD X Bt (.Assign [.Name y py] (.ListComp elt [⟨tg,iter,ifs,0⟩] scope pos) ao) (Ak i js (Ci m fi fg p f)):=by
 intro zd s σ H D I q;have q2:=au_7 q;obtain⟨G,δ,g0,h0,o⟩:=q2;have n:=aa_9 I.ok hk hb;rw[exec_Assign_Name_used _ _ _ _ hsw];refine A7 (P6 (A7 ?_));show wpAny _ X.A (do let _<-comprehension (.ListComp elt [⟨tg,iter,ifs,0⟩] scope pos) scope X.env _ (newList []) false (eval iter X.env) (some (assign (.Name y py) X.env))) _ _ s;refine A7 (F3 (P7 (use:=some (assign (.Name y py) X.env)) (Q:=λ_ s'=>SP X zd D .next s') rfl hs n.clos n.kind n.names
  (av_0 (RR:=λzn C=>compPost (model X.prog X.w) X.A X.xe (some (assign (.Name y py) X.env)) (λ_ s'=>SP X zd D .next s') zn C) hx0 (B:=bc_7) (PI.z hi) hk hb hm hin I g0 h0 (λ_ _ _ _ _ _=>hc) ?_ λDa C s1 G' H' vs rs e Io hm' fc st h1 h2 h3 rl=> ?_)) (λ_ s' hq=>F0 (F0 hq)) λ_ _ e=>e)
 ·cases e:Ci m fi fg p f δ with
  |ok w=>trivial
  |ex x=>rw[e]at o;exact o
  |no=>rw[e]at o;exact o
 ·rw[e]at o;obtain⟨mm,hnm⟩:=hm';obtain⟨c0,c1,c2,c3,c4,c5⟩:=fc;show wpAny _ X.A (assign (.Name y py) X.env (.ref Da)) _ _ _;refine T8 (ac_4 Io hN hy hx (v:=.ref Da) rfl (λs2 I2 ⟨a,sb,ha⟩=> ?_) hf);have hCa:C≠a:=by
   rcases ha with rfl|ha
   ·exact c1
   ·exact λz=>c4 y a ha z.symm
  refine⟨mm,hnm.sameBut sb hCa,λh' sb'=>⟨_,H',I2.turned (t':=s2.toks) (λb ob hb e=>(sb'.2 b hb).trans e) c0 c1 c3 c4 c5, ?_⟩⟩;exact o (.ref Da) (λb=>b=Da) G' H' st (λa e=>by subst e;exact⟨h1,h3,by rw[h2];simp⟩) (.list h2 rfl rl)
def db_1(js:List Nat){elt iter tg:Expr}{ifs:List Expr}{scope:Scope}{N':List Str}{fi:FI}{fg:Ga}{p:FT}{f:FE}{m i:Nat}{y:Str}{py ao:Pos}(hc:X.calm=true)(hi:ID X.nox Bt tg iter fi)(hk:scope.kind=.function)(hb:w_0 scope.names X.env.scope.names X.N N'=true)
  (hm:N'.length=X.N.length + m)
  (hin:∀C s0 H0 fp pn,GC (Cr X scope (Bz X.env.cells scope.names []) N' C s0 H0 fp pn) Bt tg fg/\CTs (Cr X scope (Bz X.env.cells scope.names []) N' C s0 H0 fp pn) Bt ifs p/\ED (Cr X scope (Bz X.env.cells scope.names []) N' C s0 H0 fp pn) Bt elt f)
  (hN:X.N.Nodup) (hy:X.N[i]? =some y:=by rfl) (hx:Loc X.env.scope y:=by trivial) (hf:X.fn y=true\/X.env.scope.names.lookup y=some .local:=by trivial)
  (hsw:swapsWith (.ListComp elt [⟨tg,iter,ifs,0⟩] scope pos) (some (.Name y py)) ao.line X.env=pure true:=by rfl)
  (hs:∀x,foldedSetIterable iter X.env x=pure x:=by intro _;rfl):SD X EX (.Assign [.Name y py] (.ListComp elt [⟨tg,iter,ifs,0⟩] scope pos) ao) (Ak i js (Ci m fi fg p f)):=
 PS.imp (PS.nox (co_7 (X:=X.nox) js (λ_ _ z=>z) hc hi hk hb hm hin hN hy hx hf hsw hs)) λD σ H ⟨H0,G0,G,Δ,O,E,q⟩=>by
  refine⟨H0,G0,G,Δ,O,E, ?_⟩;cases e:Ak i js (Ci m fi fg p f) Δ with
  |ex x Δ'=>exact(bz_8 (λ_ _ z=>ai_2 z) e).elim
  |_=>rw[e]at q;exact q
end
def bc_8:bootBuiltins "bool" =some (.type "bool"):=by decide +kernel
def w_1{k:Nat}{scope:Scope}{cl:List (Str×Addr)}{N':List Str}{C:Addr}{s0:Shared}{H0:Hp}{fp:List Addr}{pn:AE}{c:Bool}(h:RoomC c k (Cx.A X)):RoomC c k (Cx.A (Cr X scope cl N' C s0 H0 fp pn)):=h
section
variable{X:Cx}{EX:Az}{a b e:Expr}{es:List Expr}{f g:FE}{fa:FA}{pos p2:Pos}
abbrev FO:=DE->R (Option Int)
def oNone:FO:=λ_=> .ok none
def intPart:D->R (Option Int)
 | .int i=> .ok (some i)
 |_=> .no
def oSome(f:FE):FO:=λ δ=>(f δ).bind λw=>intPart w.d
def cutL{α:Type}(xs:List α)(lo hi:Option Int):List α:=(xs.drop (HT.sIx xs.length 0 lo)).take (HT.sIx xs.length xs.length hi - HT.sIx xs.length 0 lo)
def dn_4:D->Option Int->Option Int->R W
 | .lst ds,lo,hi=> .ok (.ow (.lst (cutL ds lo hi)))
 | .str x,lo,hi=>if x.length<=16777216 then .ok (.sh (.str (Txt.slice x lo hi))) else .no
 |_,_,_=> .no
def eSlice(f:FE)(lo hi:FO):FE:=λ δ=>(f δ).bind λw=>(lo δ).bind λl=>(hi δ).bind λu=>dn_4 w.d l u
def tyD(T:String):D->Bool
 | .str _=>T == "str"
 | .int _=>T == "int"
 | .lst _=>T == "list"
 |_=>false
def dt_9{G H:Hp}{T:String}{d:D}(g:Same G H)(r:Has K G v d)(h:tyD T d=true):tyV K T v H:=by
 cases r with
 |str x=>exact eq_of_beq h
 |int i=>exact eq_of_beq h
 |lst hq r=>exact .inl ⟨eq_of_beq h,_,g.seq hq⟩
 |_=>cases h
def rDm(K:Frag)(fn:D->AF):V->List V->Hp->VK->Prop:=λx vs H Q=>∃(EX:EXT) (G:Hp) (d:D) (ds:List D),Same G H/\Has K G x d/\HasL K G vs ds/\Out K EX G H (fn d ds) Q
abbrev MtD(X:Cx)(id:String)(fn:D->AF):Prop:=MtR X id (rDm X.K fn)
def eMeth(T:String)(fn:D->AF)(f:FE)(fa:FA):FE:=λ δ=>(f δ).bind λw=>if tyD T w.d=true then(fa δ).bind λds=>fn w.d ds else .no
variable{o:Expr}{name:Str}{zg zf:Pos}{T id:String}{fn:D->AF}
def bz_9(pa:PlainAttrs T)(slot:Slot T name id)(hty:typeOf (.builtin id)=pure (.type "method_descriptor"))(hm:MtD X id fn)(ho:ED X EX o f)(ha:AD X EX (e::es) fa)
  (ae:attributeBase o name X.env (eval o X.env)=eval o X.env:=by rfl)
  (bb:((backTo zf (starEach (e::es) X.env)).all (λx=> !x.1) && (backToKw zf (keywordEach [] X.env)).all (λx=>x.1.isSome)
   && decide ((e::es).length + ([]:List Keyword).length + (if([]:List Keyword).isEmpty then 0 else 1) < 30))=true:=by rfl)
  (af:(zg.endLine ==zf.line)=true:=by rfl) (hs:starEach (e::es) X.env=(false,eval e X.env)::starEach es X.env:=by rfl) (ag:(backTo zf (starEach es X.env)).any (·.1)=false:=by rfl):
  ED X EX (.Call (.Attribute o name zg) (e::es) [] zf) (eMeth T fn f fa):=
 PE.imp (by_9 pa slot hty hm ho ha ae bb af hs ag) λ σ H Q ⟨G,δ,g0,s0,o⟩=>tD.seq g0 s0 o λw v G1 H1 _ st1 r1 o1=>by
  split at o1
  ·rename_i ht;exact⟨dt_9 st1.gh r1 ht,tDa.seq st1.gh (s0.mono st1.gg) o1 λds vs G2 H2 _ st2 r2 o2=>⟨_,G2,w.d,ds,st2.gh,r1.mono st2.gg,r2,o2⟩⟩
  ·exact o1.elim
def eMeth0(T:String)(fn:D->AF)(f:FE):FE:=λ δ=>(f δ).bind λw=>if tyD T w.d=true then fn w.d [] else .no
def ca_0{G:Hp}{d:D}{vs:List V}{ds:List D}(r:Has K G v d)(rl:HasL K G vs ds){P:Prop}(h:∀x y,v=.str x->d=.str x->vs= [.str y]->ds= [.str y]->P)(n:(∀x y,¬(d=.str x/\ds= [.str y]))->P):P:=by
 by_cases e:∃x y,d=.str x/\ds= [.str y]
 ·obtain⟨x,y,rfl,rfl⟩:=e;cases r;cases rl with
  |cons a t=>cases a;cases t;exact h x y rfl rfl rfl rfl
 ·exact n λx y z=>e ⟨x,y,z⟩
def bn_8:D->List D->R W
 | .str x,[.str y]=> .ok (.sh (.int (Txt.find x y)))
 |_,_=> .no
def co_8:MtD X "str.find" bn_8:=by
 intro zd s σ H x vs v us Q I rx rv h;obtain⟨EX,G,d,ds,g,r,rl,o⟩:=h;refine ca_0 r rl (λx y e1 e2 e3 e4=> ?_) λn=> ?_
 ·subst e1 e2 e3 e4;obtain⟨t,rfl⟩:=rx;obtain⟨u,rfl,t',rfl⟩:=rv.one;exact SC.find ⟨.int _,H,I.tok _,⟨_,rfl⟩,Dj o g (.int _)⟩
 ·have e:bn_8 d ds=.no:=by
   unfold bn_8
   split
   ·rename_i x y;exact absurd ⟨rfl,rfl⟩ (n x y)
   ·rfl
  rw[e]at o;exact o.elim
def Dk(T:String):D->Option Bool
 | .non=>some false
 | .bl _=>some (T == "bool" || T == "int")
 | .int _=>some (T == "int")
 | .str _=>some (T == "str")
 | .lst _=>some (T == "list")
 | .tup _=>some (T == "tuple")
 |_=>none
def eIs(T:String)(f:FE):FE:=λ δ=>(f δ).bind λw=>match Dk T w.d with
 |some k=> .ok (.sh (.bl k))
 |none=> .no
structure KitT(K:Frag)(T:String):Prop where
 non:kitOne K (.type "NoneType") (.type T)=some false
 bl:kitOne K (.type "bool") (.type T)=some (T == "bool" || T == "int")
 int:kitOne K (.type "int") (.type T)=some (T == "int")
 str:kitOne K (.type "str") (.type T)=some (T == "str")
 lst:kitOne K (.type "list") (.type T)=some (T == "list")
 tup:kitOne K (.type "tuple") (.type T)=some (T == "tuple")
def co_9{T:String}(k:KitT X.K T):CallR X (.builtin "isinstance") (λxs H Q=>∃G x d b,xs= [x,.ty T]/\Same G H/\Has X.K G x d/\Dk T d=some b/\Q (.bl b) H):=by
 intro zd s σ H xs us Q I rv h;obtain⟨G,x,d,b,rfl,g,r,e,q⟩:=h;obtain⟨u,u2,rfl,r1,r2⟩:=rv.two;cases r2;have fin:∀tk,EP X zd σ Q (.bool b) {s with toks:=tk}:=λtk=>⟨.bl b,H,I.tok _,rfl,q⟩;cases r with
 |non=>cases r1;exact kia_one kitx_none I.kIn True.intro (k.non.trans e) (λz=>nomatch z) fin
 |bl y=>cases r1;exact kia_one kitx_bool I.kIn True.intro (k.bl.trans e) (λz=>nomatch z) fin
 |int i=>obtain⟨t,rfl⟩:=r1;exact kia_one kitx_int I.kIn True.intro (k.int.trans e) (λz=>nomatch z) fin
 |str y=>obtain⟨t,rfl⟩:=r1;exact kia_one kitx_str I.kIn True.intro (k.str.trans e) (λz=>nomatch z) fin
 |lst h r=>
  cases r1;obtain⟨its,_,⟨ob,n,e1,c,_,_⟩,_⟩:=I.list (g.seq h);exact kia_one kitx_list I.kIn ⟨ob,e1,c⟩ (k.lst.trans e) (λz=>nomatch z) fin
 |tup h r=>
  cases r1;obtain⟨its,_,⟨ob,e1,c,_⟩,_⟩:=I.tuple (Same.tupS g h);exact kia_one kitx_tuple I.kIn ⟨ob,e1,c⟩ (k.tup.trans e) (λz=>nomatch z) fin
 |exn0 _ _=>cases e
 |exn1 _ _ _ _ _=>cases e
 |dic _ _ _=>cases e
 |obj _ _ _ _=>cases e
def af_7{Tn:Str}{T:String}{pp p3:Pos}(k:KitT X.K T)(ha:ED X EX a f)(hm:X.mg "isinstance" =none)(hmT:X.mg Tn=none)(hvT:bootBuiltins Tn=some (.type T))(hg:Gl X "isinstance" :=by rfl)(hgT:Gl X Tn:=by rfl)
  (hn:Tn≠ "__name__" :=by decide) (hdT:AG Tn:=by decide)
  (he:starEach [a,.Name Tn p3] X.env=(false,eval a X.env)::starEach [.Name Tn p3] X.env:=by rfl) (hpl:(backTo pos (starEach [.Name Tn p3] X.env)).any (·.1)=false:=by rfl)
  (hs:starEach [.Name Tn p3] X.env=(false,eval (.Name Tn p3) X.env)::starEach [] X.env:=by rfl):ED X EX (.Call (.Name "isinstance" pp) [a,.Name Tn p3] [] pos) (eIs T f):=
 PE.imp (bm_2 (co_9 k) hg hm boot_isinstance (j_2 ha (j_2 (cy_0 (v:=.ty T) hgT hmT hvT rfl hn hdT) q_2 hs) he) ⋯ ⋯ he hpl) λ σ H Q ⟨G,δ,g0,s0,o⟩=>tD.seq g0 s0 o λw v G1 H1 _ st1 r1 o1=>by
  split at o1
  ·rename_i b e;exact⟨G1,v,w.d,b,rfl,st1.gh,r1,e,Dj o1 st1.gh (.bl b)⟩
  ·exact o1.elim
end
def av_1(K:Frag):Sp:=λvs H Q _=>∃(a:Addr) (ns:List Int),vs= [.ref a]/\SqL K H a (ns.map V.int)/\ns.length<=63/\∀H',Q (.bl true) H'
theorem ca_1{G:Hp}:∀ns:List Int,HasL K G (ns.map V.int) (ns.map D.int)
 | []=> .nil
 |n::ns=> .cons (.int n) (ca_1 ns)
def dn_5{P:Program}{w:World}{k:Nat}{f:Addr}{x:Str}{F:AF}(h:FnX P w K mg base true k f fd [x] (Bx K 1 F))
  (hF:∀ns:List Int,ns.length<=63->∃v,F [.lst (ns.map D.int)]=.ok v/\v.d=.bl true):FnOk P w K mg base CX0 k f fd [x] (av_1 K):=by
 have hs:∀vs H Q E,av_1 K vs H Q E->Bx K 1 F vs H Q λ_ _ _=>False:=λvs H Q E q=>by
  obtain⟨a,ns,rfl,hS,hl,q⟩:=q;obtain⟨v,e,ev⟩:=hF ns hl;refine⟨rfl,H,[.lst (ns.map D.int)],Same.refl _,.cons (.lst hS (ca_1 ns)) .nil, ?_⟩;rw[e];refine WP.intro λu G' H' st r=> ?_;rw[ev]at r;cases r;exact q H'
 refine⟨λvs H Q E q=>(hs vs H Q E q).1,λA outer s H args us vs Q E hr e0 hb hv q=>Q4 (h.run A outer s H args us vs Q _ (RoomC.of hr) e0 hb hv (hs vs H Q E q)) λr s' hq=> ?_⟩;cases r with
 |error e=>
  obtain⟨a,C,dx,T,H',_,_,_,_,_,_,_,_,_,_,z⟩:=hq;exact z
 |ok fl=>cases fl <;> exact hq
def du_0{l:PySem.W.OpenLaw}{q:Program}{loose:List Str}{XP:(AB)->Heap->Prop}{YP:World->Heap->Prop}{d:DefRec}{K:Params->Frag}{x:Str}{k:Nat}(hn:l.most=some 63)(hdf:d.params.defaults= [])(hr:Room k callerA)
  (hY:∀(w:World) (h:Heap),YP w h->(K w.params).In h)
  (F:∀(w:World) (mg:AB) (fa:Addr) (h:Heap),(K w.params).In h->h.Ns mainGlobals mg->mg d.name=some (.ref fa)->
   ∃fd:FuncData,(∀(s:Shared) (u:Value),BindsTo s fd ⟨[u],[]⟩ [(x,u)])/\∀base:Heap,(K w.params).In base->base.Ns mainGlobals mg->FnOk l.prog w (K w.params) mg base CX0 k fa fd [x] (av_1 (K w.params))):
  PySem.W.WalkO q loose XP YP l.row.toRowW d [] (λf vs=>PySem.call f vs):=
 cz_4 (n:=63) (k:=k) (x:=x) (CX:=λ_=>CX0) (sp:=λw=>av_1 (K w.params)) hn ⋯ hdf hr hY F (λ_ _ a ns hl _ hS=>⟨a,ns,rfl,hS,hl,λ_=>rfl⟩) λ_ _ _ _ _ z=>z
def Inv.pair{zd:AE}{σ:Sg}{s:Shared}{e it:Addr}{h':Heap}{tk:Nat}{its:List Value}{vs:List V}(I:Inv X zd σ H s)(fe:Gb X zd H e)(fi:Gb X zd H it)
  (k:∀b o,b≠e->b≠it->s.heap.get? b=some o->h'.get? b=some o) (he:∃o,h'.get? e=some o) (hi:∃o,h'.get? it=some o) (ht:h'.get? s.heap.objs.size=some {cls:=.type "tuple",data:=.seq its.toArray}) (rv:Vals vs its) (hz:vs.length<=sizeLine):
  Inv X zd σ (upd H s.heap.objs.size (.tup vs)) {s with heap:=h',toks:=tk}:=by
 have hn:H s.heap.objs.size=none:=I.hok.fresh (B5 _);obtain⟨e0,e1,e2,e3,e4,e5⟩:=fe;obtain⟨i0,i1,i2,i3,i4,i5⟩:=fi;have neH:∀b u,H b=some u->b≠e/\b≠it:=λb u q=>⟨λz=>(by rw[z,e0]at q;cases q),λz=>(by rw[z,i0]at q;cases q)⟩;have lt:∀b o,s.heap.get? b=some o->b≠s.heap.objs.size:=λb o q=>D7 (A5 q);refine I.step (g':=s.gens) (d':=s.drawn) (ch:=[e,it]) (λb hb=> ?_) (λb o _ _ hc q _=>k b o (λz=>hc (by simp[z])) (λz=>hc (by simp[z])) q)
  (λb o _ _ hc q _=>⟨o.slots,k b o (λz=>hc (by simp[z])) (λz=>hc (by simp[z])) q⟩) (λb o _ q n=>by rw[Ao (lt b o q)];exact n) (λb o hc q=>⟨o,k b o (λz=>hc (by simp[z])) (λz=>hc (by simp[z])) q⟩)
  (λb xs q=>by rw[Ao (Et q hn)];exact q) (λb o u q=>by rw[Ao (Et q hn)];exact q) (λb ps q=>⟨#[],by rw[Ao (Et q hn),q];simp⟩) (λm hm=> ?_) (λb u q=> ?_) I.bare
 ·have hb':b=e\/b=it:=by simpa using hb
  rcases hb' with rfl|rfl
  ·exact⟨e3,e1,e4,e5⟩
  ·exact⟨i3,i1,i4,i5⟩
 ·obtain⟨o,es,ep,ho,r⟩:=hm;exact⟨o,es,ep,k _ o (Ne.symm e1) (Ne.symm i1) ho,r⟩
 ·by_cases z:b=s.heap.objs.size
  ·subst z;rw[Bk]at q;cases q;exact⟨hz,its,rv,⟨_,ht,rfl,0,rfl⟩⟩
  ·rw[Ao z]at q;refine(I.hok b u q).stay (λc v hc r=> ?_) (λc r=>by rw[Ao (Et r hn)];exact r) λc xs r=>by rw[Ao (Et r hn)];exact r
   rcases hc with rfl|hc
   ·exact k c v (neH c u q).1 (neH c u q).2 r
   ·exact k c v (neH c _ hc).1 (neH c _ hc).2 r
def Inv.turned2{zd:AE}{σ:Sg}{s:Shared}{e it:Addr}{h':Heap}{tk:Nat}(I:Inv X zd σ H s)(fe:Gb X zd H e)(fi:Gb X zd H it)
  (k:∀b o,b≠e->b≠it->s.heap.get? b=some o->h'.get? b=some o):Inv X zd σ H {s with heap:=h',toks:=tk}:=by
 obtain⟨e0,e1,e2,e3,e4,e5⟩:=fe;obtain⟨i0,i1,i2,i3,i4,i5⟩:=fi;have neH:∀b u,H b=some u->b≠e/\b≠it:=λb u q=>⟨λz=>(by rw[z,e0]at q;cases q),λz=>(by rw[z,i0]at q;cases q)⟩;refine I.step (g':=s.gens) (d':=s.drawn) (ch:=[e,it]) (λb hb=> ?_) (λb o _ _ hc q _=>k b o (λz=>hc (by simp[z])) (λz=>hc (by simp[z])) q)
  (λb o _ _ hc q _=>⟨o.slots,k b o (λz=>hc (by simp[z])) (λz=>hc (by simp[z])) q⟩) (λb o _ q n=>n) (λb o hc q=>⟨o,k b o (λz=>hc (by simp[z])) (λz=>hc (by simp[z])) q⟩)
  (λb xs q=>q) (λb o u q=>q) (λb ps q=>⟨#[],by rw[q];simp⟩) (λm hm=> ?_) (λb u q=> ?_) I.bare
 ·have hb':b=e\/b=it:=by simpa using hb
  rcases hb' with rfl|rfl
  ·exact⟨e3,e1,e4,e5⟩
  ·exact⟨i3,i1,i4,i5⟩
 ·obtain⟨o,es,ep,ho,r⟩:=hm;exact⟨o,es,ep,k _ o (Ne.symm e1) (Ne.symm i1) ho,r⟩
 ·refine(I.hok b u q).stay (λc v hc r=> ?_) (λc r=>r) λc xs r=>r;rcases hc with rfl|hc
  ·exact k c v (neH c u q).1 (neH c u q).2 r
  ·exact k c v (neH c _ hc).1 (neH c _ hc).2 r
def enL(K:Frag)(l:Addr):It:=
 ⟨λi H=>∃xs x,SqL K H l xs/\xs[i]? =some x,λi H v H'=>∃p,H p=none/\v=.ref p/\∀xs x,SqL K H l xs->xs[i]? =some x->H'=upd H p (.tup [.int (i:Int),x]),λi H=>∃xs,SqL K H l xs/\xs.length=i⟩
def enS(z:Str):It:=
 ⟨λi _=>i < z.cps.size,λi H v H'=>∃p c,H p=none/\v=.ref p/\z.cps[i]? =some c/\H'=upd H p (.tup [.int (i:Int),.str ⟨#[c]⟩]),λi _=>i=z.cps.size⟩
def cp_0{P:Program}{w:World}{elts:List Expr}{x1:Nat}(e it l:Addr)(hei:e≠it):Turn P w K (.Tuple elts x1 pos) (enL K l) [e,it] e (λi h=>(∃old,IsEnum h e it (i:Int) old)/\h.IsListIter it l i) where
 mem:=by simp
 obj:=λi h st b hb=>by
  have hb':b=e\/b=it:=by simpa using hb
  rcases hb' with rfl|rfl
  ·obtain⟨⟨old,q⟩,_⟩:=st;exact⟨_,q,λv z=>by cases z⟩
  ·obtain⟨_,⟨o,q,c,d⟩⟩:=st;exact⟨o,q,λv z=>by rw[d]at z;cases z⟩
 keep:=λi h h' st k=>by
  obtain⟨⟨old,q⟩,r⟩:=st;exact⟨⟨old,k e (by simp) _ q⟩,r.at λo z=>k it (by simp) o z⟩
 item:=by
  intro X hP hw hK hc i zd s σ H E I hf st hg;subst hP hw hK;obtain⟨xs,x,hq,hx⟩:=hg;obtain⟨its,rv,p,hz⟩:=I.list hq;obtain⟨u,hu,ru⟩:=rv.get hx;obtain⟨⟨old,he⟩,hit⟩:=st;have fe:=hf e (by simp);have fi:=hf it (by simp);have pl:=p.isList;have nle:l≠e:=λz=>by
   subst z;obtain⟨o,ho,hc',_⟩:=pl;rw[show s.heap.get? l=_ from he]at ho;cases ho;exact absurd hc' (by simp)
  have nli:l≠it:=λz=>by
   subst z;obtain⟨o,ho,hc',_⟩:=pl;obtain⟨o',ho',hc2,_⟩:=hit;rw[ho]at ho';cases ho';rw[hc']at hc2;exact absurd hc2 (by simp)
  have hlt:i < its.toArray.size:=by
   have:=(B4.mp hu).1;simpa using this
  refine Y9 (Draws.list (A:=X.A.in1) (I.ok.hd hc) it l nli its.toArray) he ⟨hit,pl⟩ hlt hei (by simp[hei,Ne.symm nle]) λy h' tk hy ho hst bp hsz kk=> ?_;have ey:y=u:=by
   have:its.toArray[i]? =some u:=by simpa using hu
   rw[this]at hy;exact(F6 hy).symm
  subst ey;refine⟨_,rfl,X5 ho λh'' au sb=> ?_⟩;have bc:∃old,IsEnum h'' e it ((i + 1:Nat):Int) old:=⟨_,by
   have e1:((i + 1:Nat):Int)=(i:Int) + 1:=by omega
   rw[e1];exact au⟩
  refine⟨.ref s.heap.objs.size,upd H s.heap.objs.size (.tup [.int (i:Int),x]), ?_,rfl,⟨_,I.hok.fresh (B5 _),rfl,λys y' hy' ey'=> ?_⟩,⟨bc, ?_⟩,λb hb=> ?_⟩
  ·have ne:s.heap.objs.size≠e:=λz=>absurd (A5 he) (by rw[<-z];exact F4 _);refine Inv.pair (its:=[.int (i:Int) tk,y]) I fe fi (λb o h1 h2 q=>(sb.2 b h1).trans (kk b o h1 h2 q)) ⟨_,au⟩ ?_ ((sb.2 _ ne).trans bp) (.cons ⟨_,rfl⟩ (.cons ru .nil)) (by show 2<=sizeLine;decide);obtain⟨⟨o,q,_⟩,_⟩:=hst;exact⟨o,(sb.2 it (Ne.symm hei)).trans q⟩
  ·have:=I.list_inj hy' hq;subst this;rw[hx]at ey';cases ey';rfl
  ·exact hst.1.at λo z=>(sb.2 it (Ne.symm hei)).trans z
  ·have hb':b=e\/b=it:=by simpa using hb
   have hbl:b < s.heap.objs.size:=by
    rcases hb' with rfl|rfl
    ·exact A5 he
    ·obtain⟨o,q,_⟩:=hit;exact A5 q
   rw[Ao (D7 hbl)];exact(hf b hb).1
 done:=by
  intro X hP hw hK hc i zd s σ H E I hf st hg;subst hP hw hK;obtain⟨xs,hq,hx⟩:=hg;obtain⟨its,rv,p,hz⟩:=I.list hq;obtain⟨⟨old,he⟩,hit⟩:=st;have hl:=rv.length;have pl:=p.isList;have nli:l≠it:=λz=>by
   subst z;obtain⟨o,ho,hc',_⟩:=pl;obtain⟨o',ho',hc2,_⟩:=hit;rw[ho]at ho';cases ho';rw[hc']at hc2;exact absurd hc2 (by simp)
  have en:i=its.toArray.size:=by simp;omega
  refine ZA1 (Draws.list (A:=X.A.in1) (I.ok.hd hc) it l nli its.toArray) he (by rw[<-en];exact⟨hit,pl⟩) λh' eb=>⟨rfl, ?_⟩;exact Inv.turned2 (tk:=s.toks) I (hf e (by simp)) (hf it (by simp)) λb o h1 h2 q=>eb b o h2 q
 self:=λA i s Q E st h=>by
  obtain⟨⟨old,he⟩,_⟩:=st;exact U4 he h
def bc_9{prog:Program}{w:World}{A:Around}(hh:A.handled=none)(it:Addr)(x:Str)(t:Tok):
  Draws prog w A it [it] x.cps.size (λi v=>∃c u,x.cps[i]? =some c/\v=.str ⟨#[c]⟩ u) (λi h=>h.IsStrIter it (strIterType x) x t i):=by
 unfold strIterType;cases ha:x.cps.all (· < 128)
 ·exact Draws.strWide hh it x t
 ·exact Draws.strAscii hh it x t
def cp_1{P:Program}{w:World}{elts:List Expr}{x1:Nat}(e it:Addr)(z:Str)(t:Tok)(hei:e≠it):Turn P w K (.Tuple elts x1 pos) (enS z) [e,it] e (λi h=>(∃old,IsEnum h e it (i:Int) old)/\h.IsStrIter it (strIterType z) z t i) where
 mem:=by simp
 obj:=λi h st b hb=>by
  have hb':b=e\/b=it:=by simpa using hb
  rcases hb' with rfl|rfl
  ·obtain⟨⟨old,q⟩,_⟩:=st;exact⟨_,q,λv z=>by cases z⟩
  ·obtain⟨_,⟨o,q,c,d⟩⟩:=st;exact⟨o,q,λv z=>by rw[d]at z;cases z⟩
 keep:=λi h h' st k=>by
  obtain⟨⟨old,q⟩,⟨o,r,c⟩⟩:=st;exact⟨⟨old,k e (by simp) _ q⟩,⟨o,k it (by simp) o r,c⟩⟩
 item:=by
  intro X hP hw hK hc i zd s σ H E I hf st hg;subst hP hw hK;obtain⟨⟨old,he⟩,hit⟩:=st;have fe:=hf e (by simp);have fi:=hf it (by simp);refine Y9 (bc_9 (A:=X.A.in1) (I.ok.hd hc) it z t) he hit hg hei (by simp[hei]) λy h' tk hy ho hst bp hsz kk=> ?_;obtain⟨c,uc,hcx,rfl⟩:=hy;refine⟨_,rfl,X5 ho λh'' au sb=> ?_⟩;have bc:∃old,IsEnum h'' e it ((i + 1:Nat):Int) old:=⟨_,by
   have e1:((i + 1:Nat):Int)=(i:Int) + 1:=by omega
   rw[e1];exact au⟩
  refine⟨.ref s.heap.objs.size,upd H s.heap.objs.size (.tup [.int (i:Int),.str ⟨#[c]⟩]), ?_,rfl,⟨_,c,I.hok.fresh (B5 _),rfl,hcx,rfl⟩,⟨bc, ?_⟩,λb hb=> ?_⟩
  ·have ne:s.heap.objs.size≠e:=λz=>absurd (A5 he) (by rw[<-z];exact F4 _);refine Inv.pair (its:=[.int (i:Int) tk,.str ⟨#[c]⟩ uc]) I fe fi (λb o h1 h2 q=>(sb.2 b h1).trans (kk b o h1 h2 q)) ⟨_,au⟩ ?_ ((sb.2 _ ne).trans bp) (.cons ⟨_,rfl⟩ (.cons ⟨_,rfl⟩ .nil)) (by show 2<=sizeLine;decide);obtain⟨o,q,_⟩:=hst;exact⟨o,(sb.2 it (Ne.symm hei)).trans q⟩
  ·obtain⟨o,q,r⟩:=hst;exact⟨o,(sb.2 it (Ne.symm hei)).trans q,r⟩
  ·have hb':b=e\/b=it:=by simpa using hb
   have hbl:b < s.heap.objs.size:=by
    rcases hb' with rfl|rfl
    ·exact A5 he
    ·obtain⟨o,q,_⟩:=hit;exact A5 q
   rw[Ao (D7 hbl)];exact(hf b hb).1
 done:=by
  intro X hP hw hK hc i zd s σ H E I hf st hg;subst hP hw hK;obtain⟨⟨old,he⟩,hit⟩:=st;have en:i=z.cps.size:=hg;refine ZA1 (bc_9 (A:=X.A.in1) (I.ok.hd hc) it z t) he (by rw[<-en];exact hit) λh' eb=>⟨rfl, ?_⟩;exact Inv.turned2 (tk:=s.toks) I (hf e (by simp)) (hf it (by simp)) λb o h1 h2 q=>eb b o h2 q
 self:=λA i s Q E st h=>by
  obtain⟨⟨old,he⟩,_⟩:=st;exact U4 he h
def s_8(k:Nat):List D->List D
 | []=> []
 |d::ds=> .tup [.int (k:Int),d]::s_8 (k + 1) ds
theorem ac_7:∀{ds:List D} {k i:Nat} {d:D},(s_8 k ds)[i]? =some d->∃d',ds[i]? =some d'/\d=.tup [.int ((k + i:Nat):Int),d']
 | [],_,_,_,h=>by simp[s_8]at h
 |x::ds,k,0,d,h=>by simp[s_8]at h;exact⟨x,rfl,h.symm⟩
 |x::ds,k,i + 1,d,h=>by
  obtain⟨d',e1,e2⟩:=ac_7 (ds:=ds) (k:=k + 1) (i:=i) (by simpa[s_8] using h);exact⟨d',by simpa using e1,by rw[e2,show k + 1 + i=k + (i + 1) by omega]⟩
theorem ac_8:∀(ds:List D) (k:Nat),(s_8 k ds).length=ds.length
 | [],_=>rfl
 |_::ds,k=>by simp[s_8,ac_8 ds (k + 1)]
def cp_2:D->R (List D)
 | .lst ds=> .ok (s_8 0 ds)
 | .str x=> .ok (s_8 0 (u_6 x))
 |_=> .no
def ca_2(f:FE):FI:=λ δ=>(f δ).bind λw=>cp_2 w.d
section
variable{X:Cx}{EX:Az}{a:Expr}{f:FE}{elts:List Expr}{x1:Nat}{tp p pos:Pos}
def iEn(K:Frag)(t:TA):TI:=λ σ H Q=>t σ H λvs H1=>(∃l,vs= [.ref l]/\(∃xs,SqL K H1 l xs)/\Q (enL K l) H1)\/(∃z,vs= [.str z]/\Q (enS z) H1)
def ca_3{ta:TA}(hg:Gl X "enumerate")(hm:X.mg "enumerate" =none)(ha:PA X [a] ta)(hs:starEach [a] X.env= [(false,eval a X.env)]:=by rfl):PI X (.Tuple elts x1 tp) (.Call (.Name "enumerate" p) [a] [] pos) (iEn X.K ta):=by
 intro zd s σ H Q I h;refine Call_ (x_1 I hg hm PyProof.Rows.boot_enumerate (N0 (Bc (ha pos zd s σ H _ I h) λus s1 ⟨vs,H1,I1,r1,q1⟩=> ?_) hs rfl));rcases q1 with⟨l,rfl,⟨xs,hq⟩,q⟩|⟨z,rfl,q⟩
 ·obtain⟨u,rfl,ru⟩:=r1.one;cases ru;obtain⟨its,rv,pl,hz⟩:=I1.list hq;refine call_enumerate_list pl.isList λh' he hit hsz kk=>U4 he ?_;refine⟨s1.heap.objs.size + 1,[s1.heap.objs.size + 1,s1.heap.objs.size],_,enL X.K l,H1,rfl,I1.kept (t':=s1.toks) kk,cp_0 _ _ l (Nat.succ_ne_self _),⟨⟨_,he⟩,hit⟩,λb hb=> ?_,q⟩;have hb':b=s1.heap.objs.size + 1\/b=s1.heap.objs.size:=by simpa using hb
  have hbl:s1.heap.objs.size<=b:=by
   rcases hb' with rfl|rfl
   ·exact M7 _
   ·exact B5 _
  exact I1.fpOk hbl (I1.hok.fresh hbl)
 ·obtain⟨u,rfl,t,rfl⟩:=r1.one;refine call_enumerate_str λh' he hit hsz kk=>U4 he ?_;refine⟨s1.heap.objs.size + 1,[s1.heap.objs.size + 1,s1.heap.objs.size],_,enS z,H1,rfl,I1.kept (t':=s1.toks) kk,cp_1 _ _ z t (Nat.succ_ne_self _),⟨⟨_,he⟩,hit⟩,λb hb=> ?_,q⟩;have hb':b=s1.heap.objs.size + 1\/b=s1.heap.objs.size:=by simpa using hb
  have hbl:s1.heap.objs.size<=b:=by
   rcases hb' with rfl|rfl
   ·exact M7 _
   ·exact B5 _
  exact I1.fpOk hbl (I1.hok.fresh hbl)
def ca_4{G:Hp}{l:Addr}{vs:List V}{ds:List D}(h:SqL K G l vs)(r:HasL K G vs ds):ItD K G (enL K l) (s_8 0 ds):=λG' H g1 g i=>by
 refine⟨λd e=> ?_,λe=> ?_⟩
 ·obtain⟨d',e1,rfl⟩:=ac_7 e;obtain⟨v,e2,hv⟩:=r.get e1;refine⟨⟨vs,v,(g1.trans g).seq h,e2⟩,λx H' y=> ?_⟩;obtain⟨p,hp,rfl,y⟩:=y;have:=y vs v ((g1.trans g).seq h) e2;subst this;refine⟨_,Step.new g hp _,.tup (SqT.of Bk) (.cons (by rw[S5];exact .int _) (.cons (hv.mono (g1.trans (j_4 (g.free hp) _))) .nil))⟩
 ·rw[ac_8]at e;exact⟨vs,(g1.trans g).seq h,by rw[r.length];exact e⟩
def ca_5{G:Hp}(z:Str):ItD K G (enS z) (s_8 0 (u_6 z)):=λG' H g1 g i=>by
 refine⟨λd e=> ?_,λe=> ?_⟩
 ·obtain⟨d',e1,rfl⟩:=ac_7 e;unfold u_6 at e1;rw[A8]at e1;cases q:z.cps.toList[i]? with
  |none=>rw[q]at e1;cases e1
  |some c=>
   rw[q]at e1;cases e1;have hi:i < z.cps.size:=by
    have:=(B4.mp q).1;simpa using this
   refine⟨hi,λx H' y=> ?_⟩;obtain⟨p,c',hp,rfl,hc,rfl⟩:=y;have:z.cps.toList[i]? =some c':=by simpa using hc
   rw[q]at this;cases this;refine⟨_,Step.new g hp _,.tup (SqT.of Bk) (.cons (by rw[S5];exact .int _) (.cons (.str _) .nil))⟩
 ·rw[ac_8]at e;unfold u_6 at e;rw[A3]at e;show i=z.cps.size;simp at e;omega
def db_2(hm:X.mg "enumerate" =none)(he:ED X EX a f)(hg:Gl X "enumerate" :=by rfl)(hs:starEach [a] X.env= [(false,eval a X.env)]:=by rfl)(hs1:starEach [a] X.env=(false,eval a X.env)::starEach [] X.env:=by rfl):
  ID X EX (.Tuple elts x1 tp) (.Call (.Name "enumerate" p) [a] [] pos) (ca_2 f):=
 PI.imp (ca_3 hg hm (j_2 he q_2 hs1) hs) λ σ H Q ⟨G,δ,g0,s0,o⟩=>by
  refine⟨G,δ,g0,s0, ?_⟩;unfold ca_2 at o;cases e1:f δ with
  |ok w=>
   rw[e1]at o;simp only[R.bind_ok]at o;refine WP.intro λv G' H' st r=> ?_;revert r o;cases w.d with
   |lst ds=>
    intro o r;cases r with
    |lst h r=>exact .inl ⟨_,rfl,⟨_,st.gh.seq h⟩,o _ G' H' st (ca_4 h r)⟩
   |str z=>
    intro o r;cases r;exact .inr ⟨z,rfl,o _ G' H' st (ca_5 z)⟩
   |_=>intro o _;exact False.elim o
  |ex x=>rw[e1]at o;exact o
  |no=>rw[e1]at o;exact o
end
def C3(i j c:Int):Prop:=0<=i/\i.natAbs < 1073741824/\j.natAbs < 1073741824/\0 < c/\c.natAbs < 1073741824
instance (i j c:Int):Decidable (C3 i j c):=by unfold C3;exact inferInstance
section
variable{X:Cx}{EX:Az}{tg a b c:Expr}{fa:FA}{ta:TA}{p pos:Pos}
end
section
variable{X:Cx}{EX:Az}{a:Expr}{f:FE}{pos:Pos}
def negD:D->R W
 | .int i=> .ok (.sh (.int (-i)))
 |_=> .no
def eNeg(f:FE):FE:=λ δ=>(f δ).bind λw=>negD w.d
def cp_3(ha:ED X EX a f):ED X EX (.UnaryOp .USub a pos) (eNeg f):=
 PE.imp (dr_9 dl_0 ha) λ σ H Q ⟨G,δ,g0,s0,o⟩=>tD.seq g0 s0 o λw v G1 H1 _ st1 r1 o1=>by
  revert r1 o1;cases w.d with
  |int i=>intro r1 o1;cases r1;exact⟨i,rfl,Dj o1 st1.gh (.int _)⟩
  |_=>intro _ o1;exact False.elim o1
def am_3:List D->Option (List Bool)
 | []=>some []
 | .bl b::ds=>(am_3 ds).map (b:: ·)
 |_=>none
def allD:List D->R W
 | [.lst ds]=>match am_3 ds with
  |some bs=> .ok (.sh (.bl (bs.all id)))
  |none=> .no
 |_=> .no
theorem bn_9{G:Hp}:∀{vs:List V} {ds:List D} {us:List Value} {bs:List Bool},HasL K G vs ds->Vals vs us->am_3 ds=some bs->us=bs.map Value.bool
 |_,_,_,_,.nil,r,e=>by cases r;cases e;rfl
 |_,_,_,_,.cons h t,r,e=>by
  cases r with
  |cons r1 r2=>
   cases h with
   |bl x=>
    cases r1;simp only[am_3]at e;obtain⟨zs,q,rfl⟩:=E7.mp e;rw[B3,bn_9 t r2 q]
   |_=>cases e
def ch_5(bs:List Bool):(List.range bs.length).all (λi=>bs.getD i true)=bs.all id:=by
 rw[Q9,K7,K7];constructor
 ·intro h b hb;obtain⟨i,hi,e⟩:=List.getElem_of_mem hb;have:=h i (R6.mpr hi);simp[hi]at this;rw[<-e];exact this
 ·intro h i hi;have hi:=R6.mp hi;simp[hi];exact h _ (Z0 hi)
def ch_6(hc:X.calm=true):Fx X (.builtin "all") allD:=by
 intro zd s σ H vs us Q I rv q;obtain⟨EX,G,ds,g,r,o⟩:=q;cases r with
 |nil=>exact False.elim o
 |cons h t=>
  cases t with
  |cons _ _=>cases h <;> exact False.elim o
  |nil=>
   cases h with
   |lst h r=>
    rename_i l _ _;simp only[allD]at o
    split at o
    ·rename_i bs e;obtain⟨u,rfl,ru⟩:=rv.one;cases ru;obtain⟨its,rv',pl,hz⟩:=I.list (g.seq h);have eb:=bn_9 r rv' e;subst eb;have nl:l≠s.heap.objs.size:=λz=>by
      obtain⟨o',ho,_⟩:=pl.isList;exact absurd (A5 ho) (by rw[<-z];exact F4 _)
     refine call_all_walk (Y3 pl.isList ⟨s.heap.objs.size,_,_,_,_,_,λi=>bs.getD i true,rfl,Walks.list (A:=X.A.in1) (I.ok.hd hc) s.heap.objs.size l nl (bs.map Value.bool).toArray,⟨⟨_,B8 _ rfl,rfl,rfl⟩, ?_⟩,λi v s' Q' E' hP hQ=> ?_,λh' tk kk=> ?_⟩)
     ·exact pl.isList.at λo z=>A4 _ z
     ·have hP':(bs.map Value.bool)[i]? =some v:=by simpa using hP
      rw[A8]at hP';cases q:bs[i]? with
      |none=>rw[q]at hP';cases hP'
      |some b=>
       rw[q]at hP';cases hP';have:bs.getD i true=b:=by simp[List.getD,q]
       dsimp only at hQ;rw[this]at hQ;exact P2 hQ
     ·have en:(bs.map Value.bool).toArray.size=bs.length:=by simp
      rw[en,ch_5];refine⟨.bl _,H,I.kept (t':=tk) λb o' z=>kk b o' (by
       have hb:b≠s.heap.objs.size:=D7 (A5 z);simpa using hb) (A4 _ z),rfl,Dj o g (.bl _)⟩
    ·exact o.elim
   |_=>exact False.elim o
def am_4:D->List D->R W
 | .str x,[.str y]=>match Builtin.Str.occurrences x y 0 x.length 1 with
  |i::_=> .ok (.sh (.int (i:Nat)))
  | []=> .no
 |_,_=> .no
def ch_7:MtD X "str.index" am_4:=by
 intro zd s σ H x vs v us Q I rx rv h;obtain⟨EX,G,d,ds,g,r,rl,o⟩:=h;refine ca_0 r rl (λx y e1 e2 e3 e4=> ?_) λn=> ?_
 ·subst e1 e2 e3 e4;obtain⟨t,rfl⟩:=rx;obtain⟨u,rfl,t',rfl⟩:=rv.one;simp only[am_4]at o
  split at o
  ·rename_i i z_9 e;exact SC.index e ⟨.int _,H,I.tok _,⟨_,rfl⟩,Dj o g (.int _)⟩
  ·exact o.elim
 ·have e:am_4 d ds=.no:=by
   unfold am_4
   split
   ·rename_i x y;exact absurd ⟨rfl,rfl⟩ (n x y)
   ·rfl
  rw[e]at o;exact o.elim
end
section
variable{prog:Program}{w:World}{A:Around}{E:AA}{s:Shared}
def ai_3{env:Env}{elts:List Expr}{x1}{t:Addr}{items:Array Value}{Q:Unit->Shared->Prop}(hh:A.handled=none)(ht:s.heap.IsList t items)
  (hn:(assignEach elts env).length=items.size) (cg:(assignEach elts env).findIdx? (·.1)=none)
  (h:∀h',Heap.ExtBut s.heap.objs.size s.heap h'->wpAny (model prog w) A (assignInOrder ((assignEach elts env).map (·.2)) items.toList) Q E {s with heap:=h'}):
  wpAny (model prog w) A (assign (.Tuple elts x1 pos) env (.ref t)) Q E s:=by
 rw[assign_Tuple,unpack,hn,cg];exact A7 (P6 (A7 (V8 (kun_itemsOf hh ht h))))
end
section
variable{X:Cx}{EX:Az}{pos:Pos}
def gSeq(K:Frag)(n:Nat)(t:TGs):TG:=λv σ H Q=>∃a xs,v=.ref a/\(SqT K H a xs\/SqL K H a xs)/\xs.length=n/\t xs σ H Q
def dn_6{es:List Expr}{k:Nat}{t:TGs}{n:Nat}(hc:X.calm=true)(h:PGs X es t)
  (hn:(assignEach es X.env).length=n:=by rfl) (hst:(assignEach es X.env).findIdx? (·.1)=none:=by rfl):PG X (.Tuple es k pos) (gSeq X.K n t):=by
 intro zd s σ H v u Q I r hw;obtain⟨a,xs,e1,hq,hl,hw⟩:=hw;rcases hq with hq|hq
 ·exact bt_3 hc h hn hst zd s σ H v u Q I r ⟨a,xs,e1,hq,hl,hw⟩
 ·subst e1;cases r;obtain⟨its,rv,ht,hz⟩:=I.list hq;refine ai_3 (I.ok.hd hc) ht.isList (by simp[hn,<-hl,rv.length]) hst λh' hx=> ?_;have I1:Inv X zd σ H {s with heap:=h'}:=I.kept (t':=s.toks) λb o e=>hx b o (D7 (A5 e)) e;exact h zd _ σ H xs _ Q I1 (by simpa using rv) hw
def HasS.skip{G:Hp}{σ:Sg}{δ:DE}{i:Nat}(h:HasS K G σ δ)(e:δ[i]? =some none):HasS K G (σ.set i (some v)) δ:=by
 refine⟨by rw[G6];exact h.len,λj d' e'=> ?_⟩;obtain⟨v',e1,r'⟩:=h.get j d' e';refine⟨v', ?_,r'⟩;rw[C7]
 ·exact e1
 ·rintro rfl
  rw[e]at e';cases e'
end
section
variable{X:Cx}{EX:Az}
def nonB:D->Bool
 | .non=>true
 |_=>false
def Fm(neg:Bool):D->D->R W
 |d,.non=> .ok (.sh (.bl (if neg then !nonB d else nonB d)))
 |_,_=> .no
def cp_5{G:Hp}{d:D}(r:Has K G v d):decide (v=.non)=nonB d:=by
 cases r <;> rfl
def ca_6:Eu X (compareOp .Is) (Fm false):=by
 intro zd s σ H x y v u Q I rx ry q;obtain⟨EX,G,a,b,g,ra,rb,o⟩:=q;cases rb with
 |non=>exact dl_1 zd s σ H _ _ _ _ Q I rx ry ⟨rfl,by rw[cp_5 ra];exact Dj o g (.bl _)⟩
 |_=>exact False.elim o
def cp_6:Eu X (compareOp .IsNot) (Fm true):=by
 intro zd s σ H x y v u Q I rx ry q;obtain⟨EX,G,a,b,g,ra,rb,o⟩:=q;cases rb with
 |non=>exact cy_4 zd s σ H _ _ _ _ Q I rx ry ⟨rfl,by rw[cp_5 ra];exact Dj o g (.bl _)⟩
 |_=>exact False.elim o
end
section
variable{X:Cx}{EX:Az}{tg a b:Expr}{f g:FE}{fa:FA}{p pos:Pos}
theorem HasL.rep{G:Hp}{vs:List V}{ds:List D}(r:HasL K G vs ds):∀n:Nat,HasL K G (List.replicate n vs).flatten (List.replicate n ds).flatten
 |0=> .nil
 |n + 1=>by rw[K8,K8,N8,N8];exact r.append (HasL.rep r n)
def repD(ds:List D):D->R W
 | .int k=>if k.natAbs < 4611686018427387904/\ds.length * k.toNat<=16777216 then .ok (.ow (.lst (List.replicate k.toNat ds).flatten)) else .no
 |_=> .no
def eRep(fa:FA)(f:FE):FE:=λ δ=>(fa δ).bind λds=>if ds.length<=16777216 then(f δ).bind λw=>repD ds w.d else .no
def dn_7{es:List Expr}{eh:Pos}(ha:AD X EX es fa)(hb:ED X EX b f):ED X EX (.BinOp (.List es eh) .Mult b pos) (eRep fa f):=
 PE.imp (dh_7 dm_1 (bu_6 ha) hb) λ σ H Q ⟨G,δ,g0,s0,o⟩=>tDa.seq g0 s0 o λds vs G' H' _ st r o'=>by
  split at o'
  ·rename_i hz;refine⟨by rw[r.length,F1];exact hz,λq hq=> ?_⟩;have so:=Step.own st.gh hq (.lst vs);refine tD.seq so.gh (s0.mono st.gg) (Out.mono so o') λw v G2 H2 _ st2 r2 o2=> ?_;revert r2 o2;cases w.d with
   |int k=>
    intro r2 o2;cases r2;simp only[repD]at o2
    split at o2
    ·rename_i hk;exact⟨q,k,vs,rfl,rfl,st2.hh _ _ Bk,by have:=hk.1;omega,by have:=hk.1;omega,by rw[r.length,F1];exact hk.2,ac_5 o2 st2.gh ((r.mono st2.gg).rep k.toNat)⟩
    ·exact o2.elim
   |_=>intro _ o2;exact False.elim o2
  ·exact o'.elim
def Fh:List D->Option (List Int)
 | []=>some []
 | .int i::ds=>(Fh ds).map (i:: ·)
 |_=>none
def sumD:List D->R W
 | [.lst ds]=>match Fh ds with
  |some is=> .ok (.sh (.int is.sum))
  |none=> .no
 |_=> .no
theorem ca_7{G:Hp}:∀{vs:List V} {ds:List D} {us:List Value} {is:List Int},HasL K G vs ds->Vals vs us->Fh ds=some is->us.length=is.length/\∀(j:Nat) (v:Value),us[j]? =some v->∃t,v=.int (is.getD j 0) t
 |_,_,_,_,.nil,r,e=>by cases r;cases e;exact⟨rfl,λj v h=>by simp at h⟩
 |_,_,_,_,.cons h t,r,e=>by
  cases r with
  |cons r1 r2=>
   cases h with
   |int x=>
    obtain⟨tk,rfl⟩:=r1;simp only[Fh]at e;obtain⟨zs,q,rfl⟩:=E7.mp e;obtain⟨h1,h2⟩:=ca_7 t r2 q;refine⟨by simp[h1],λj v hj=> ?_⟩;cases j with
    |zero=>simp at hj;subst hj;exact⟨tk,rfl⟩
    |succ j=>
     obtain⟨t',e'⟩:=h2 j v (by simpa using hj);exact⟨t',by rw[e'];simp⟩
   |_=>cases e
theorem ap_1(is:List Int):∀j,preSum (λi=>is.getD i 0) j=(is.take j).sum
 |0=>by simp[preSum]
 |j + 1=>by rw[preSum,ap_1 is j,PySem.sum_take_succ]
def ch_8(hc:X.calm=true):Fx X (.builtin "sum") sumD:=by
 intro zd s σ H vs us Q I rv q;obtain⟨EX,G,ds,g,r,o⟩:=q;cases r with
 |nil=>exact False.elim o
 |cons h t=>
  cases t with
  |cons _ _=>cases h <;> exact False.elim o
  |nil=>
   cases h with
   |lst h r=>
    rename_i l _ _;simp only[sumD]at o
    split at o
    ·rename_i is e;obtain⟨u,rfl,ru⟩:=rv.one;cases ru;obtain⟨its,rv',pl,hz⟩:=I.list (g.seq h);obtain⟨el,ev⟩:=ca_7 r rv' e;have nl:l≠s.heap.objs.size:=λz=>by
      obtain⟨o',ho,_⟩:=pl.isList;exact absurd (A5 ho) (by rw[<-z];exact F4 _)
     have ll:l < s.heap.objs.size:=by
      obtain⟨o',ho,_⟩:=pl.isList;exact A5 ho
     refine call_sum_walkAnyS (Y3 pl.isList ⟨s.heap.objs.size,_,_,_,_,_,_,λi=>is.getD i 0,rfl,(Walks.list (A:=X.A.in1) (I.ok.hd hc) s.heap.objs.size l nl its.toArray).toS,⟨⟨_,B8 _ rfl,rfl,rfl⟩, ?_⟩,λb hb=> ?_,λi v hP=>ev i v (by simpa using hP),λs' t' mv=> ?_⟩)
     ·exact pl.isList.at λo z=>A4 _ z
     ·rw[N2];have hb':b=s.heap.objs.size\/b=l:=by simpa using hb
      rcases hb' with rfl|rfl
      ·exact S4 _
      ·exact U5 ll
     ·have en:its.toArray.size=is.length:=by simp[el]
      rw[en,ap_1,S6];obtain⟨m1,m2,m3,m4,m5⟩:=mv;have e':s'={s with heap:=s'.heap,toks:=s'.toks}:=by
       cases s';simp only at m2 m3 m4;subst m2 m3 m4;rfl
      rw[e'];refine⟨.int _,H,I.kept (t':=s'.toks) λb o' z=>m1 b o' (by
       have hb:b≠s.heap.objs.size:=D7 (A5 z);simpa using hb) (A4 _ z),⟨t',rfl⟩,Dj o g (.int _)⟩
    ·exact o.elim
   |_=>exact False.elim o
def gP(i j:Nat):FG:=λd Δ=>match d with
 | .tup [a,b]=> .ok ((Δ.set i (.sh a)).set j (.sh b))
 | .lst [a,b]=> .ok ((Δ.set i (.sh a)).set j (.sh b))
 |_=> .no
def bh_8{i j k:Nat}{x y:Str}{p1 p2:Pos}(hc:X.calm=true)(hN:X.N.Nodup)(hi:X.N[i]? =some x:=by rfl)(hj:X.N[j]? =some y:=by rfl)(hx:Loc X.env.scope x:=by trivial)(hy:Loc X.env.scope y:=by trivial)
  (hf:X.fn x=true\/X.env.scope.names.lookup x=some .local:=by trivial) (hf2:X.fn y=true\/X.env.scope.names.lookup y=some .local:=by trivial)
  (hn:(assignEach [.Name x p1,.Name y p2] X.env).length=2:=by rfl) (hst:(assignEach [.Name x p1,.Name y p2] X.env).findIdx? (·.1)=none:=by rfl)
  (hs:(assignEach [.Name x p1,.Name y p2] X.env).map (·.2)=assign (.Name x p1) X.env::(assignEach [.Name y p2] X.env).map (·.2):=by rfl) (hs2:(assignEach [.Name y p2] X.env).map (·.2)=assign (.Name y p2) X.env::(assignEach [] X.env).map (·.2):=by rfl):
  GD X EX (.Tuple [.Name x p1,.Name y p2] k pos) (gP i j):=
 PG.imp (dn_6 hc (aa_2 (x_3 hN hi hx hf) (aa_2 (x_3 hN hj hy hf2) bf_8 hs2) hs) hn hst) λv σ H Q ⟨H0,G0,G,Δ,O,d,E,r,q⟩=>by
  cases r with
  |tup h r=>
   cases r with
   |nil=>exact False.elim q
   |cons r1 r=>
    cases r with
    |nil=>exact False.elim q
    |cons r2 r=>
     cases r with
     |nil=>exact⟨_,_,rfl,.inl (Same.tupS E.st.gh h),rfl,_,_,rfl,_,_,rfl,rfl,q _ G H O ((E.put r1).put r2) (Same.refl _)⟩
     |cons _ _=>exact False.elim q
  |lst h r=>
   cases r with
   |nil=>exact False.elim q
   |cons r1 r=>
    cases r with
    |nil=>exact False.elim q
    |cons r2 r=>
     cases r with
     |nil=>exact⟨_,_,rfl,.inr (E.st.gh.seq h),rfl,_,_,rfl,_,_,rfl,rfl,q _ G H O ((E.put r1).put r2) (Same.refl _)⟩
     |cons _ _=>exact False.elim q
  |_=>exact False.elim q
def Dw(fg:FG)(js:List Nat)(f:FE):FS:=λ Δ=>match f (Aw (gsome js Δ)) with
 | .ok w=>(match fg w.d (gsome js Δ) with
  | .ok Δ'=> .nx Δ'
  |_=> .no)
 | .ex x=> .ex x (gsome js Δ)
 | .no=> .no
def bh_9{fg:FG}(js:List Nat){e tg:Expr}(he:ED X EX e f)(hg:GD X EX tg fg)(hs:swapsWithSole [tg] e pos.line X.env=pure false:=by rfl)(hw:swappedStores [tg] e X.env=pure none:=by rfl)
  (h1:(assignEach [tg] X.env).map (·.2)= [assign tg X.env]:=by rfl):SD X EX (.Assign [tg] e pos) (Dw fg js f):=
 PS.imp (cl_5 he hg hs hw h1) λD σ H ⟨H0,G0,G,Δ,O,E,q⟩=>by
  obtain⟨G1,O1,sg,E1⟩:=E.gsome js;unfold Dw at q;refine⟨G1,Aw (gsome js Δ),E1.st.gh,E1.gsh, ?_⟩;cases e1:f (Aw (gsome js Δ)) with
  |ok w=>
   simp only[e1]at q;refine WP.intro λv G' H' st r=>⟨H0,G0,G',gsome js Δ,O1,w.d,E1.grow st,r, ?_⟩;cases e2:fg w.d (gsome js Δ) with
   |ok Δ'=>simp only[e2]at q;exact λ σ' G2 H2 O2 E2 s2=>q σ' G2 H2 O2 E2 (sg.trans (st.gg.trans s2))
   |ex x=>simp only[e2]at q;exact q.elim
   |no=>simp only[e2]at q;exact q.elim
  |ex x=>simp only[e1]at q;exact q σ G1 H O1 E1 sg
  |no=>simp only[e1]at q;exact q.elim
end
@[elab_as_elim] theorem av_2{P:List Value->Prop}{us:List Value}{n:Nat}(h:us.length=n)(k:∀y:Nat->Value,P ((List.range n).map y)):P us:=by
 have e:us=(List.range n).map λi=>us.getD i .none:=by
  apply U1;intro i;rw[A8]
  by_cases hi:i < n
  ·rw[W8 hi,K9,N5,B9 ()];rfl
  ·rw[L5 (),L5 (by rw[U2];omega)];rfl
 rw[e];exact k _
section
variable{K:Frag}{x qual:Str}{st:Stmt}{f:Addr}{fd:FuncData}{ps:List Str}
def Fun.binds1(F:Fun K x qual st f fd)(hl:ps.length=1:=by rfl)(h:∀(kV doc pm:Value) (an:Option Addr) (zp ct a:Value),bindArgs (fnOf x qual (j_9 st) (Ft st) (Ch st) .none kV doc pm an zp ct) ⟨[a],[]⟩=pure (ps.zip [a]):=by intros;rfl):Binds K fd ps []:=
 F.binds λkV doc pm an zp ct us hu=>av_2 (hu.trans hl) λy=>h kV doc pm an zp ct (y 0)
def Fun.binds2(F:Fun K x qual st f fd)(hl:ps.length=2:=by rfl)(h:∀(kV doc pm:Value) (an:Option Addr) (zp ct a b:Value),bindArgs (fnOf x qual (j_9 st) (Ft st) (Ch st) .none kV doc pm an zp ct) ⟨[a,b],[]⟩=pure (ps.zip [a,b]):=by intros;rfl):Binds K fd ps []:=
 F.binds λkV doc pm an zp ct us hu=>av_2 (hu.trans hl) λy=>h kV doc pm an zp ct (y 0) (y 1)
def Fun.binds3(F:Fun K x qual st f fd)(hl:ps.length=3:=by rfl)(h:∀(kV doc pm:Value) (an:Option Addr) (zp ct a b c:Value),bindArgs (fnOf x qual (j_9 st) (Ft st) (Ch st) .none kV doc pm an zp ct) ⟨[a,b,c],[]⟩=pure (ps.zip [a,b,c]):=by intros;rfl):Binds K fd ps []:=
 F.binds λkV doc pm an zp ct us hu=>av_2 (hu.trans hl) λy=>h kV doc pm an zp ct (y 0) (y 1) (y 2)
def Fun.binds4(F:Fun K x qual st f fd)(hl:ps.length=4:=by rfl)(h:∀(kV doc pm:Value) (an:Option Addr) (zp ct a b c d:Value),bindArgs (fnOf x qual (j_9 st) (Ft st) (Ch st) .none kV doc pm an zp ct) ⟨[a,b,c,d],[]⟩=pure (ps.zip [a,b,c,d]):=by intros;rfl):Binds K fd ps []:=
 F.binds λkV doc pm an zp ct us hu=>av_2 (hu.trans hl) λy=>h kV doc pm an zp ct (y 0) (y 1) (y 2) (y 3)
def Fun.binds5(F:Fun K x qual st f fd)(hl:ps.length=5:=by rfl)(h:∀(kV doc pm:Value) (an:Option Addr) (zp ct a b c d e:Value),bindArgs (fnOf x qual (j_9 st) (Ft st) (Ch st) .none kV doc pm an zp ct) ⟨[a,b,c,d,e],[]⟩=pure (ps.zip [a,b,c,d,e]):=by intros;rfl):Binds K fd ps []:=
 F.binds λkV doc pm an zp ct us hu=>av_2 (hu.trans hl) λy=>h kV doc pm an zp ct (y 0) (y 1) (y 2) (y 3) (y 4)
end
structure ZApart(z TI TO i1 i2:Addr):Prop where
 TIz:TI≠z
 TOz:TO≠z
 i1z:i1≠z
 i2z:i2≠z
 TITO:TI≠TO
 TIi1:TI≠i1
 TIi2:TI≠i2
 TOi1:TO≠i1
 TOi2:TO≠i2
 i12:i1≠i2
section
variable{X:Cx}{EX:Az}{a b:Expr}{fa:FA}{elts:List Expr}{x1:Nat}{tp p pos:Pos}
end
def met(is:List Int):List Int:=PyProof.Rows.firstMet (λi=>is.getD i 0) is.length
def ca_8:D->R W
 | .lst ds=>match Fh ds with
  |some is=>if is.length<=4000 then .ok (.sh (.int (met is).length)) else .no
  |none=> .no
 |_=> .no
def ai_5(f:FE):FE:=λ δ=>(f δ).bind λw=>ca_8 w.d
theorem bo_0{G:Hp}:∀{vs:List V} {ds:List D} {us:List Value} {is:List Int},HasL K G vs ds->Vals vs us->Fh ds=some is->IntsAre us is
 |_,_,_,_,.nil,r,e=>by cases r;cases e;exact .nil
 |_,_,_,_,.cons h t,r,e=>by
  cases r with
  |cons r1 r2=>
   cases h with
   |int x=>
    obtain⟨tk,rfl⟩:=r1;simp only[Fh]at e;obtain⟨zs,q,rfl⟩:=E7.mp e;exact .cons x tk (bo_0 t r2 q)
   |_=>cases e
section
variable{X:Cx}{EX:Az}{a:Expr}{f:FE}{p p' pos pos':Pos}
def ch_9(hc:X.calm=true)(hml:X.mg "len" =none)(hm:X.mg "set" =none)(ha:ED X EX a f)(hgl:Gl X "len" :=by rfl)(hg:Gl X "set" :=by rfl)
  (hs:starEach [a] X.env=(false,eval a X.env)::starEach [] X.env:=by rfl)
  (hs2:starEach [.Call (.Name "set" p') [a] [] pos'] X.env=(false,eval (.Call (.Name "set" p') [a] [] pos') X.env)::starEach [] X.env:=by rfl) (hpl:(backTo pos (starEach [] X.env)).any (·.1)=false:=by rfl) (ff:(backTo pos' (starEach [] X.env)).any (·.1)=false:=by rfl):
  ED X EX (.Call (.Name "len" p) [.Call (.Name "set" p') [a] [] pos'] [] pos) (ai_5 f):=by
 intro zd s σ H Q I q;obtain⟨G,δ,g0,s0,o⟩:=q;refine Call_ (x_1 I hgl hml F8 (V4 ?_ hs2 hpl));rw[hs2];show wpAny _ _ (spliced ((false,eval (.Call (.Name "set" p') [a] [] pos') X.env)::backTo pos (starEach [] X.env))) _ _ s;refine M0 ?_;refine Call_ (x_1 I hg hm PyProof.Rows.boot_set (N0 ?_ hs ff));rw[hs];show wpAny _ _ (spliced ((false,eval a X.env)::backTo pos' (starEach [] X.env))) _ _ s;refine M0 (Bc (ha zd s σ H _ I (tD.seq g0 s0 o (P:=λv H1=>∃l ds vs is G1,Same G1 H1/\v=.ref l/\SqL X.K G1 l vs/\HasL X.K G1 vs ds/\Fh ds=some is/\is.length<=4000/\Out X.K (EX σ) G1 H1 (.ok (.sh (.int (met is).length))) Q) λw v G' H' _ st r o'=> ?_)) λu s1 ⟨v,H1,I1,r1,q1⟩=>P3 ?_)
 ·revert r o';cases w.d with
  |lst ds=>
   intro r o';cases r with
   |lst h r=>
    simp only[ca_8]at o'
    split at o'
    ·rename_i is e
     split at o'
     ·rename_i hl;exact⟨_,ds,_,is,G',st.gh,rfl,h,r,e,hl,o'⟩
     ·exact o'.elim
    ·exact o'.elim
  |_=>intro _ o';exact False.elim o'
 ·obtain⟨l,ds,vs,is,G1,sg,rfl,hq,r,e,hl,o'⟩:=q1;cases r1;obtain⟨its,rv,pl,hz⟩:=I1.list (sg.seq hq);have ia:=bo_0 r rv e;have il:its.length=is.length:=ia.length;refine PySem.call_set_list (ns:=is) (I1.ok.hd hc) pl.isList (by simpa using ia) (by rw[D5,il];show is.length + 1 < 4096;omega) λh' tk so kk=> ?_;refine P3 ?_;obtain⟨ob,es,ep,t,ho,hex,hd,_,_,hb,hf,hn⟩:=so;have hb':es.size < 4096:=hb;refine PySem.call_len_set ho hex hd hf () ?_;rw[hn,D5,il];exact⟨.int _,H1,I1.kept (t':=_) λb ob hbo=>kk b ob (A5 hbo) hbo,⟨_,rfl⟩,Dj o' sg (.int _)⟩
end
def Dv:D->Option Af
 | .int i=>some (.inl i)
 | .str x=>some (.inr x)
 |_=>none
def s_9{G:Hp}{d:D}{k:Af}(r:Has K G v d)(e:Dv d=some k):v=kV k:=by
 cases r <;> first|(cases e;rfl)|cases e
section
variable{α:Type}
def Bh(kvs:List (Af×α))(k:Af):Option α:=(kvs.find? λkv=>decide (kv.1=k)).map (·.2)
def Di(kvs:List (Af×α))(k:Af)(v:α):List (Af×α):=if(kvs.any λkv=>decide (kv.1=k))=true then kvs.map (λkv=>if kv.1=k then(kv.1,v) else kv) else kvs ++ [(k,v)]
def Eo(kvs:List (Af×α))(k:Af):List (Af×α):=kvs.filter λkv=>decide (kv.1≠k)
def Db(kvs:List (Af×α))(k:Af):Bool:=(Bh kvs k).isSome
end
def ca_9(kvs:List (Af×V))(k:Af)(v:V):Em kvs k v=Di kvs k v:=rfl
theorem y_3{G:Hp}:∀{kvs:List (Af×V)} {kds:List (Af×D)} (k:Af),kvs.map (·.1)=kds.map (·.1)->HasL K G (kvs.map (·.2)) (kds.map (·.2))->(Co kvs k).isSome=Db kds k/\∀d,Bh kds k=some d->∃v,Co kvs k=some v/\Has K G v d
 | [],[],k,_,_=>⟨rfl,λd e=>by cases e⟩
 | [],_::_,k,e,_=>by simp at e
 |_::_,[],k,e,_=>by simp at e
 |(x,v)::kvs,(y,d)::kds,k,e,r=>by
  simp only[B3,R3]at e;obtain⟨e1,e2⟩:=e;subst e1;cases r with
  |cons h r=>
   obtain⟨i1,i2⟩:=y_3 (kvs:=kvs) (kds:=kds) k e2 r
   by_cases q:x=k
   ·have a1:Co ((x,v)::kvs) k=some v:=j_6 q;have a2:Bh ((x,d)::kds) k=some d:=by unfold Bh;rw[Q7 (by simpa using q)];rfl
    refine⟨by unfold Db;rw[a1,a2];rfl,λd' e'=> ?_⟩;rw[a2]at e';cases e';exact⟨v,a1,h⟩
   ·have a1:Co ((x,v)::kvs) k=Co kvs k:=i_6 q;have a2:Bh ((x,d)::kds) k=Bh kds k:=by unfold Bh;rw[Q8 (by simpa using q)]
    refine⟨by unfold Db at i1⊢;rw[a1,a2];exact i1,λd' e'=> ?_⟩;rw[a2]at e';rw[a1];exact i2 d' e'
theorem bo_1{α β:Type}:∀{kvs:List (Af×α)} {kds:List (Af×β)} (k:Af),kvs.map (·.1)=kds.map (·.1)->(kvs.any λkv=>decide (kv.1=k))=kds.any λkv=>decide (kv.1=k)
 | [],[],_,_=>rfl
 | [],_::_,k,e=>by simp at e
 |_::_,[],k,e=>by simp at e
 |(x,v)::kvs,(y,d)::kds,k,e=>by
  simp only[B3,R3]at e;obtain⟨e1,e2⟩:=e;subst e1;rw[P5,P5,bo_1 k e2]
def bi_0{G:Hp}{kvs:List (Af×V)}{kds:List (Af×D)}(k:Af){d:D}(e:kvs.map (·.1)=kds.map (·.1))(r:HasL K G (kvs.map (·.2)) (kds.map (·.2)))(h:Has K G v d):
  (Em kvs k v).map (·.1)=(Di kds k d).map (·.1)/\HasL K G ((Em kvs k v).map (·.2)) ((Di kds k d).map (·.2)):=by
 rw[ca_9];unfold Di;rw[bo_1 k e]
 split
 ·have all:∀{kvs:List (Af×V)} {kds:List (Af×D)},kvs.map (·.1)=kds.map (·.1)->HasL K G (kvs.map (·.2)) (kds.map (·.2))->
    (kvs.map (λkv=>if kv.1=k then(kv.1,v) else kv)).map (·.1)=(kds.map (λkv=>if kv.1=k then(kv.1,d) else kv)).map (·.1)/\HasL K G ((kvs.map (λkv=>if kv.1=k then(kv.1,v) else kv)).map (·.2)) ((kds.map (λkv=>if kv.1=k then(kv.1,d) else kv)).map (·.2)):=by
   intro kvs
   induction kvs with
   |nil=>
    intro kds e r;cases kds with
    |nil=>exact⟨rfl,.nil⟩
    |cons _ _=>simp at e
   |cons p kvs ih=>
    intro kds e r;cases kds with
    |nil=>simp at e
    |cons q kds=>
     obtain⟨x,u⟩:=p;obtain⟨y,w⟩:=q;simp only[B3,R3]at e;obtain⟨e1,e2⟩:=e;subst e1;cases r with
     |cons h1 r=>
      obtain⟨i1,i2⟩:=ih e2 r;simp only[B3]
      by_cases z:x=k
      ·simp only[z,if_true];exact⟨by rw[i1],.cons h i2⟩
      ·simp only[z,S9];exact⟨by rw[i1],.cons h1 i2⟩
  exact all e r
 ·refine⟨by rw[E9,E9,e];rfl, ?_⟩;rw[E9,E9];exact r.append (.cons h .nil)
section
variable{X:Cx}{EX:Az}{pos:Pos}
def ai_6:FE:=λ_=> .ok (.ow (.dic []))
def as_1:ED X EX (.Dict [] [] pos) ai_6:=PE.imp cn_6 λ σ H Q ⟨G,δ,g,s,o⟩=>λp hp=>
 o (.ref p) (λb=>b=p) G _ (Step.own g hp _) (λa e=>by subst e;exact⟨hp,g.free hp,by rw[Bk];simp⟩) (.dict Bk rfl rfl .nil)
def Dq(neg:Bool):D->D->R W
 |d,.dic kvs=>match Dv d with
  |some k=> .ok (.sh (.bl (if neg then !Db kvs k else Db kvs k)))
  |none=> .no
 |_,_=> .no
def DGet.rd{a:Addr}{kvs:List (Af×V)}{k:Af}(e:Rd H a (.dK kvs)):DGet H a (kV k) (Co kvs k):=.inl ⟨kvs,k,e,rfl,rfl⟩
def bw_0(hu:X.A.units + 64 < cLine):Eu X (compareOp .In) (Dq false):=by
 intro zd s σ H x y v u Q I rx ry q;obtain⟨EX,G,a,b,g,ra,rb,o⟩:=q;cases rb with
 |dic h hk r=>
  simp only[Dq]at o
  split at o
  ·rename_i k ek;have ex:=s_9 ra ek;subst ex;cases ry;refine d_in () I (DGet.rd (k:=k) (Same.rdD g h)) rx λs' I'=>⟨.bl _,H,I',rfl, ?_⟩;rw[(y_3 k hk r).1];exact Dj o g (.bl _)
  ·exact o.elim
 |_=>exact False.elim o
def ac_9(hu:X.A.units + 64 < cLine):Eu X (compareOp .NotIn) (Dq true):=by
 intro zd s σ H x y v u Q I rx ry q;obtain⟨EX,G,a,b,g,ra,rb,o⟩:=q;cases rb with
 |dic h hk r=>
  simp only[Dq]at o
  split at o
  ·rename_i k ek;have ex:=s_9 ra ek;subst ex;cases ry;refine cz_6 () I (DGet.rd (k:=k) (Same.rdD g h)) rx λs' I'=>⟨.bl _,H,I',rfl, ?_⟩;rw[(y_3 k hk r).1];exact Dj o g (.bl _)
  ·exact o.elim
 |_=>exact False.elim o
def Eh:D->D->R W
 | .dic kvs,d=>match Dv d with
  |some k=>(match Bh kvs k with
   |some x=> .ok (.sh x)
   |none=> .no)
  |none=> .no
 |_,_=> .no
def ai_7{o i:Expr}{f g:FE}(hu:X.A.units + 64 < cLine)(ho:ED X EX o f)(hi:ED X EX i g)(hs:NoSl i:=by intro _ _;rfl):ED X EX (.Subscript o i pos) (Ae Eh f g):=
 PE.imp (cz_8 () ho hi hs) λ σ H Q ⟨G,δ,g0,s0,o⟩=>tD.seq g0 s0 o λw v G1 H1 _ st1 r1 o1=>tD.seq st1.gh (s0.mono st1.gg) o1 λw2 v2 G2 H2 _ st2 r2 o2=>by
  have r1:=r1.mono st2.gg;revert r1 o2;cases w.d with
  |dic kvs=>
   intro o2 r1;simp only[Eh]at o2
   split at o2
   ·rename_i k ek
    split at o2
    ·rename_i x ex;cases r1 with
     |dic h hk r=>
      obtain⟨u,e1,e2⟩:=(y_3 k hk r).2 x ex;have e3:=s_9 r2 ek;subst e3;refine⟨_,u,rfl, ?_,Dj o2 st2.gh e2⟩;rw[<-e1];exact DGet.rd (Same.rdD st2.gh h)
    ·exact o2.elim
   ·exact o2.elim
  |_=>intro o2 _;exact False.elim o2
def Cw:List D->R W
 | [.dic kvs]=> .ok (.sh (.int kvs.length))
 |_=> .no
def s_0:Fx X (.builtin "len") Cw:=by
 intro zd s σ H vs us Q I rv q;obtain⟨EX,G,ds,g,r,o⟩:=q;cases r with
 |nil=>exact False.elim o
 |cons h t=>
  cases t with
  |cons _ _=>cases h <;> exact False.elim o
  |nil=>
   cases h with
   |dic h hk r=>
    rename_i kvs kds;obtain⟨u,rfl,ru⟩:=rv.one;cases ru;refine dt_2 I (Same.rdD g h) λt s' I'=>⟨.int _,H,I',⟨t,rfl⟩, ?_⟩;have hl:kds.length=kvs.length:=by
     have:=K5 List.length hk;rw[A3,A3]at this;exact this.symm
    rw[<-hl];exact Dj o g (.int _)
   |_=>exact False.elim o
def bo_2(i:Nat)(js:List Nat)(fk fe:FE):FS:=λ Δ=>match(gsome js Δ)[i]? with
 |some (.ow (.dic kvs))=>(match fe (Aw (gsome js Δ)) with
  | .ok w=>(match fk (Bj (gsome js Δ)) with
   | .ok z=>(match Dv z.d with
    |some k=>if kvs.length < 16777216 then .nx ((gsome js Δ).set i (.ow (.dic (Di kvs k w.d)))) else .no
    |none=> .no)
   |_=> .no)
  |_=> .no)
 |_=> .no
def db_5{i:Nat}(js:List Nat){x:Str}{e ie:Expr}{fe fk:FE}{p1 zh pos:Pos}(hu:X.A.units + 64 < cLine)(he:ED X EX e fe)(hi:ED X EX ie fk)(hN:X.N[i]? =some x:=by rfl)(hv:Fd X.env.scope x:=by trivial)(hd:AG x:=by decide)
  (hcd:(x ==("__classdict__" :Str))=false:=by decide) (hs:swapsWith e (some (.Subscript (.Name x p1) ie zh)) pos.line X.env=pure false:=by rfl):
  SD X EX (.Assign [.Subscript (.Name x p1) ie zh] e pos) (bo_2 i js fk fe):=
 PS.imp (bh_1 () (Ff hN hv hd hcd) hi he hs) λD σ H ⟨H0,G0,G,Δ,O,E,q⟩=>by
  obtain⟨G1,O1,sg,E1⟩:=E.gsome js;unfold bo_2 at q;generalize gsome js Δ=Δ1 at q E1
  split at q
  ·rename_i kds e1;obtain⟨v0,s1,t⟩:=E1.ow i _ _ e1 rfl;obtain⟨a,kvs,rfl,m,hH,hk,rl⟩:=t.dict_of;refine⟨G1,Aw Δ1,E1.st.gh,E1.gsh, ?_⟩;cases e2:fe (Aw Δ1) with
   |ex x=>rw[e2]at q;exact q.elim
   |no=>rw[e2]at q;exact q.elim
   |ok w=>
    simp only[e2]at q;refine WP.intro λv G' H' st r=> ?_;have E2:=E1.grow st;refine⟨.ref a,s1,Dd G' H' O1,Bj Δ1,E2.aH,E2.gall, ?_⟩;cases e3:fk (Bj Δ1) with
    |ex x=>simp only[e3]at q;exact q.elim
    |no=>simp only[e3]at q;exact q.elim
    |ok z=>
     simp only[e3]at q;refine WP.intro λv2 G2 H2 st2 r2=> ?_
     split at q
     ·rename_i k ek
      split at q
      ·rename_i hl;have e4:=s_9 r2 ek;subst e4;have hH2:H2 a=some (.dK kvs):=st2.hh _ _ (st.hh _ _ hH);have hle:kvs.length=kds.length:=by
        have:=K5 List.length hk
        rwa[A3,A3]at this
       obtain⟨p1,p2⟩:=bi_0 k hk (rl.mono st.gg) r;exact⟨a,_,rfl,DPut.k hH2 (by rw[hle,F1];exact hl),q σ G' _ _ ((E2.keep st2.hh).writeD s1 m p1 p2) (sg.trans st.gg)⟩
      ·exact q.elim
     ·exact q.elim
  ·exact q.elim
end
section
variable{K:Frag}{H0 H1:HB}{G0 G H:Hp}{σ:Sg}{Δ:SE}{O:OS}
end
section
variable{X:Cx}{EX:Az}{pos:Pos}
end
section
variable{X:Cx}{EX:Az}{pos:Pos}
end
section
variable{X:Cx}{EX:Az}{a b:Expr}{fa:FA}{p pos:Pos}
end
section
variable{K:Frag}{G H:Hp}
theorem OwL.append:∀{vs us:List V} {ts rs:List Tn} {S1 S2 S:AS},OwL K G H vs ts S1->OwL K G H us rs S2->(∀b,S1 b->S2 b->False)->(∀b,S1 b->S b)->(∀b,S2 b->S b)->OwL K G H (vs ++ us) (ts ++ rs) S
 |_,_,_,_,_,_,_,.nil,r,_,_,i2=>r.mono (Same.refl _) (λ_ _ _ q=>q) i2
 |_,_,_,_,S1,S2,S,.cons (S1:=Sa) (S2:=Sb) h r dj s1 s2,q,d,i1,i2=>
  .cons (S2:=λb=>Sb b\/S2 b) h (OwL.append r q (λb z1 z2=>d b (s2 b z1) z2) (λb z=> .inl z) λb z=> .inr z) (λb z1 z2=>by
   rcases z2 with z2|z2
   ·exact dj b z1 z2
   ·exact d b (s1 b z1) z2) (λb z=>i1 b (s1 b z)) λb z=>by
   rcases z with z|z
   ·exact i1 b (s2 b z)
   ·exact i2 b z
end
section
variable{α:Type}
def Dn:List (Af×α)->Af->α->List (Af×α)
 | [],_,_=> []
 |(x,v)::r,k,v'=>if x=k then(x,v')::r else(x,v)::Dn r k v'
theorem am_6:∀(l:List (Af×α)) (k:Af) (v:α),(Dn l k v).map (·.1)=l.map (·.1)
 | [],_,_=>rfl
 |(x,v0)::r,k,v=>by
  unfold Dn
  split
  ·rfl
  ·rw[B3,B3,am_6 r k v]
end
def unS:List (Af×Tn)->Option (List (Af×D))
 | []=>some []
 |(k,.sh d)::r=>(unS r).map ((k,d):: ·)
 |_=>none
theorem ab_1:∀{zm:List (Af×Tn)} {kds:List (Af×D)},unS zm=some kds->zm=kds.map λp=>(p.1,Tn.sh p.2)
 | [],_,e=>by cases e;rfl
 |(k,t)::r,kds,e=>by
  cases t with
  |sh d=>
   simp only[unS]at e;cases q:unS r with
   |none=>rw[q]at e;cases e
   |some l=>
    rw[q]at e;cases e;rw[ab_1 q];rfl
  |_=>cases e
section
variable{K:Frag}{G H:Hp}
theorem OwL.focusK(k:Af):∀{kvs:List (Af×V)} {zm:List (Af×Tn)} {S:AS} {t:Tn},kvs.map (·.1)=zm.map (·.1)->OwL K G H (kvs.map (·.2)) (zm.map (·.2)) S->Bh zm k=some t->
  ∃v S1,Co kvs k=some v/\Ow K G H v t S1/\(∀b,S1 b->S b)/\
   ∀{H':Hp} {t':Tn},(∀b o,S b->¬S1 b->H b=some o->H' b=some o)->Ow K G H' v t' S1->OwL K G H' (kvs.map (·.2)) ((Dn zm k t').map (·.2)) S
 | [],[],_,_,_,_,e=>by cases e
 | [],_::_,_,_,e,_,_=>by simp at e
 |_::_,[],_,_,e,_,_=>by simp at e
 |(x,v)::kvs,(y,t0)::zm,S,t,e,r,h=>by
  simp only[B3,R3]at e;obtain⟨e1,e2⟩:=e;subst e1;cases r with
  |cons hh r dj s1 s2=>
   rename_i S1 S2
   by_cases q:x=k
   ·have a2:Bh ((x,t0)::zm) k=some t0:=by unfold Bh;rw[Q7 (by simpa using q)];rfl
    rw[a2]at h;cases h;refine⟨v,S1,j_6 q,hh,s1,λ{H' t'} f h'=> ?_⟩;unfold Dn;rw[if_pos q];exact .cons h' (r.mono (Same.refl _) (λb o hb z=>f b o (s2 b hb) (λw=>dj b w hb) z) λ_ z=>z) dj s1 s2
   ·have a2:Bh ((x,t0)::zm) k=Bh zm k:=by unfold Bh;rw[Q8 (by simpa using q)]
    rw[a2]at h;obtain⟨v',S',e1,h',i',f'⟩:=OwL.focusK k e2 r h;refine⟨v',S',by rw[i_6 q];exact e1,h',λb z=>s2 b (i' b z),λ{H' t'} f h2=> ?_⟩;unfold Dn;rw[if_neg q];exact .cons (hh.mono (Same.refl _) (λb o hb z=>f b o (s1 b hb) (λw=>dj b hb (i' b w)) z) λ_ z=>z) (f' (λb o hb nb z=>f b o (s2 b hb) nb z) h2) dj s1 s2
end
def Sl.tree:Sl->Option (Tn×Bool)
 | .ow d=>some (Tn.of d,false)
 | .tr t=>some (t,false)
 | .lt t=>some (t,true)
 |_=>none
def Sl.mk(b:Bool)(t:Tn):Sl:=if b then .lt t else .tr t
def Sl.tree_own{s:Sl}{t:Tn}{b:Bool}(e:s.tree=some (t,b)):s.own=some t:=by
 cases s <;> first|(cases e;rfl)|cases e
def Sl.mk_own(b:Bool)(t:Tn):(Sl.mk b t).own=some t:=by cases b <;> rfl
def Sl.mk_lk(b:Bool)(t:Tn):∀d,Sl.mk b t≠ .lk d:=by intro d;cases b <;> (intro z;cases z)
def Ev.mk_lt{H0:HB}{G0 G H:Hp}{σ:Sg}{Δ:SE}{O:OS}(E:Ev K H0 G0 G H σ Δ O){i:Nat}{s:Sl}{t:Tn}{b:Bool}(e:Δ[i]? =some s)(q:s.tree=some (t,b))(t':Tn):∀d,Sl.mk b t'=.lt d->σ[i]? =some (some (.ref (H0.b i))):=by
 intro d z;cases b with
 |false=>cases z
 |true=>
  cases s with
  |lt t0=>exact E.lt i t0 e
  |_=>cases q
def Ev.writeIn{H0:HB}{G0 G H:Hp}{σ:Sg}{Δ:SE}{O:OS}(E:Ev K H0 G0 G H σ Δ O){i:Nat}{s:Sl}{t t':Tn}{b:Bool}{a:Addr}{o:HO}(e:Δ[i]? =some s)(q:s.tree=some (t,b))(s1:σ[i]? =some (some v))(m:O i a)(t1:Ow K G (upd H a o) v t' (O i)):
  Ev K H0 G0 G (upd H a o) σ (Δ.set i (Sl.mk b t')) (x_9 O i (O i)):=
 have ms:=MStep.write E.st.gh m (E.out i a m).1 o
 E.step2 (Sl.mk_own b t') (Sl.mk_lk b t') (E.mk_lt e q t') ms.weak s1 (λb hb=>⟨.inl hb,(E.out i b hb).1,ms.al b (E.out i b hb).2.2⟩) t1
def Ow.dic_of{G H:Hp}{zm:List (Af×Tn)}{S:AS}(t:Ow K G H v (.dic zm) S):∃a kvs S1,v=.ref a/\S a/\H a=some (.dK kvs)/\kvs.map (·.1)=zm.map (·.1)/\(∀b,S1 b->S b/\b≠a)/\OwL K G H (kvs.map (·.2)) (zm.map (·.2)) S1:=by
 cases t with
 |dic h hk ha sub r=>exact⟨_,_,_,rfl,ha,h,hk,sub,r⟩
section
variable{X:Cx}{EX:Az}{pos:Pos}
end
theorem av_3{G:Hp}(k:Af):∀{kvs:List (Af×V)} {kds:List (Af×D)},kvs.map (·.1)=kds.map (·.1)->HasL K G (kvs.map (·.2)) (kds.map (·.2))->(p_6 kvs k).map (·.1)=(Eo kds k).map (·.1)/\HasL K G ((p_6 kvs k).map (·.2)) ((Eo kds k).map (·.2))
 | [],[],_,_=>⟨rfl,.nil⟩
 | [],_::_,e,_=>by simp at e
 |_::_,[],e,_=>by simp at e
 |(x,v)::kvs,(y,d)::kds,e,r=>by
  simp only[B3,R3]at e;obtain⟨e1,e2⟩:=e;subst e1;cases r with
  |cons h r=>
   obtain⟨i1,i2⟩:=av_3 k (kvs:=kvs) (kds:=kds) e2 r
   by_cases q:x=k
   ·have a1:p_6 ((x,v)::kvs) k=p_6 kvs k:=cg_8 q;have a2:Eo ((x,d)::kds) k=Eo kds k:=by unfold Eo;rw[Z1 (by simpa using q)]
    rw[a1,a2];exact⟨i1,i2⟩
   ·have a1:p_6 ((x,v)::kvs) k=(x,v)::p_6 kvs k:=cg_9 q;have a2:Eo ((x,d)::kds) k=(x,d)::Eo kds k:=by unfold Eo;rw[Z2 (by simpa using q)]
    rw[a1,a2];exact⟨by rw[B3,B3,i1],.cons h i2⟩
section
variable{X:Cx}{EX:Az}{pos:Pos}
end
def kD:Af->D
 | .inl i=> .int i
 | .inr x=> .str x
def am_7{G:Hp}(k:Af):Has K G (kV k) (kD k):=by cases k <;> constructor
theorem cb_0{G:Hp}:∀ks:List Af,HasL K G (ks.map kV) (ks.map kD)
 | []=> .nil
 |k::ks=> .cons (am_7 k) (cb_0 ks)
def cp_8{P:Program}{w:World}{k:Af}{u:Value}(h:(Dx P w).is k u=true):RelV (kV k) u:=by
 rcases h_7 h with⟨i,t,rfl,rfl⟩|⟨x,t,rfl,rfl⟩
 ·exact⟨t,rfl⟩
 ·exact⟨t,rfl⟩
theorem am_8{P:Program}{w:World}:∀{kvs:List (Af×V)} {vs:List (Af×Value)} {us:List Value},KV kvs vs->us.length=vs.length->(∀(j:Nat) v,us[j]? =some v->∃k x,vs[j]? =some (k,x)/\(Dx P w).is k v=true)->Vals ((kvs.map (·.1)).map kV) us
 | [],vs,us,r,hl,_=>by
  have:=r.length;simp at this;have:us= []:=V9 ();subst this;exact .nil
 |(k,v)::kvs,vs,us,r,hl,h=>by
  cases r with
  |cons h1 r=>
   rename_i q vs;obtain⟨k',x⟩:=q;cases us with
   |nil=>simp at hl
   |cons u us=>
    obtain⟨k2,x2,e,i⟩:=h 0 u rfl;have e:(k',x)=(k2,x2):=by simpa using e
    cases e;have e1:k=k':=h1.1;subst e1;exact .cons (cp_8 i) (am_8 r (by simpa using hl) λj v e=>by
     obtain⟨a,b,c,d⟩:=h (j + 1) v (by simpa using e);exact⟨a,b,by simpa using c,d⟩)
section
variable{X:Cx}{EX:Az}{pos:Pos}
end
section
variable{X:Cx}{EX:Az}{pos:Pos}
theorem HasL.dropLast{G:Hp}{vs:List V}{ds:List D}(h:HasL K G vs ds):HasL K G vs.dropLast ds.dropLast:=by
 rw[List.dropLast_eq_take,List.dropLast_eq_take,h.length];exact h.take _
theorem HasL.eraseIdx{G:Hp}:∀{vs:List V} {ds:List D} (n:Nat),HasL K G vs ds->HasL K G (vs.eraseIdx n) (ds.eraseIdx n)
 |_,_,_,.nil=> .nil
 |_,_,0,.cons _ r=>r
 |_,_,n + 1,.cons h r=> .cons h (HasL.eraseIdx n r)
def cb_1(kvs:List (Af×D))(b c:D):R W:=match Dv b with
 |some k=>(match Bh kvs k with
  |some x=> .ok (.sh x)
  |none=> .ok (.sh c))
 |none=> .no
def bo_3(f g h:FE):FE:=λ δ=>(f δ).bind λa=>match a.d with
 | .dic kvs=>(g δ).bind λb=>(h δ).bind λc=>cb_1 kvs b.d c.d
 |_=> .no
def db_6{o e e2:Expr}{f g h:FE}{zg zf:Pos}(hu:X.A.units + 64 < cLine)(ho:ED X EX o f)(he:ED X EX e g)(hf:ED X EX e2 h)(hm:M2 X o "get" zg e e2 zf:=by exact⟨rfl,rfl,rfl,rfl⟩):
  ED X EX (.Call (.Attribute o "get" zg) [e,e2] [] zf) (bo_3 f g h):=
 PE.imp (cn_8 () ho he hf hm) λ σ H Q ⟨G,δ,g0,s0,o⟩=>tD.seq g0 s0 o λw v G1 H1 e1 st1 r1 o1=>by
  revert r1 o1;cases w.d with
  |dic kvs=>
   intro r1 o1;cases r1 with
   |dic hh hk r=>
    rename_i a0 kv0;refine⟨_,rfl,.inl ⟨_,Same.rdD st1.gh hh⟩, ?_⟩;refine tD.seq st1.gh (s0.mono st1.gg) o1 λw2 v2 G2 H2 _ st2 r2 o2=>tD.seq st2.gh (s0.mono (st1.gg.trans st2.gg)) o2 λw3 v3 G3 H3 _ st3 r3 o3=> ?_;unfold cb_1 at o3
    split at o3
    ·rename_i k ek;have ev:=s_9 r2 ek;subst ev;have hg:=Same.rdD st3.gh (Same.rdD st3.gg (Same.rdD st2.gg hh));refine⟨_,DGet.rd hg, ?_⟩;obtain⟨i1,i2⟩:=y_3 (K:=X.K) (G:=G3) k hk (r.mono (st2.gg.trans st3.gg))
     split at o3
     ·rename_i x ex;obtain⟨u,e5,e6⟩:=i2 x ex;rw[e5];exact Dj o3 st3.gh e6
     ·rename_i ex;have:Co kv0 k=none:=by
       cases q:Co kv0 k with
       |none=>rfl
       |some u=>
        rw[q]at i1;unfold Db at i1;rw[ex]at i1;cases i1
      rw[this];exact Dj o3 st3.gh r3
    ·exact o3.elim
  |_=>intro _ o1;exact False.elim o1
end
section
variable{X:Cx}{EX:Az}{e:Expr}{es:List Expr}{x:Str}{pp pos:Pos}{c:Bool}{k k':Nat}{ps:List Str}
def bo_4{sp:Sp}{ta:TA}{f:Addr}(hr:RoomC c k' X.A)(lk:Lk X EX)(ok:FnX X.prog X.w X.K X.mg X.base c k f fd ps sp)(hm:X.mg x=some (.ref f))(kp:keepIn X.K (.ref f)=true)(hb:Binds X.K fd ps [])(ha:PA X (e::es) ta)(hk:k<=k')(hg:Gl X x)(hdb:AG x)
  (he:starEach (e::es) X.env=(false,eval e X.env)::starEach es X.env) (hpl:(backTo pos (starEach es X.env)).any (·.1)=false):
  PE X (.Call (.Name x pp) (e::es) [] pos) (λ σ H Q=>ta σ H λvs H1=>sp vs H1 Q (EXE X.K (EX σ))):=by
 intro zd s σ H Q I q;refine M3 (r_1 I hg hm ?_ hdb);refine X2 (h₀:=X.base) I.ok.mod.kin kp (Bc (ha pos zd s σ H _ I q) λus s1 ⟨vs,H1,I1,r,q⟩=>⟨I1.kIn, ?_⟩) he hpl;exact ar_8 ok (hr.mono hk) hb lk I1 r q
end
def OFld(K:Frag)(cs:List Str)(f:Str):Prop:=∀c,cs.contains c=true->∀C,ClsAt K c C->Cls K C/\NoAttr K C f
def OFld.nil{f:Str}:OFld K [] f:=λc h=>by cases h
def ClsAt.same{c:Str}{C C':Addr}(a:ClsAt K c C)(b:ClsAt K c C'):C'=C:=by
 unfold ClsAt at a b;rw[a]at b;injection b with b
 injection b with b
 injection b with b
 exact b.symm
def OFld.one{c:Str}{C:Addr}{cs:List Str}{f:Str}(a:ClsAt K c C)(k:Cls K C)(n:NoAttr K C f)(r:OFld K cs f):OFld K (c::cs) f:=λc' h C' a'=>by
 rw[M4,T4]at h;rcases h with h|h
 ·have e:=N1.mp h;subst e;rw[a.same a'];exact⟨k,n⟩
 ·exact r c' h C' a'
def Cz(cs:List Str)(f:Str)(fo:FE):FE:=λ δ=>(fo δ).bind λw=>match w.d with
 | .obj c ns vs=>if cs.contains c then(match(ns.zip vs).lookup f with
  |some d=> .ok (.sh d)
  |none=> .no) else .no
 |_=> .no
theorem as_2{G:Hp}{f:Str}:∀{ns:List Str} {us:List V} {vs:List D},HasL K G us vs->ns.length=us.length->(∀d,(ns.zip vs).lookup f=some d->∃v,(ns.zip us).lookup f=some v/\Has K G v d)/\(ns.contains f=false->(ns.zip us).lookup f=none)
 | [],_,_,_,_=>⟨λd e=>(by cases e),λ_=>rfl⟩
 |n::ns,[],_,_,e=>by simp at e
 |n::ns,u::us,_,.cons h r,e=>by
  obtain⟨i1,i2⟩:=as_2 (f:=f) (ns:=ns) r (by simpa using e);refine⟨λd q=> ?_,λq=> ?_⟩
  ·rw[M5,F5]at q⊢;cases hb:f ==n with
   |true=>simp only[hb]at q⊢;cases q;exact⟨u,rfl,h⟩
   |false=>simp only[hb]at q⊢;exact i1 d q
  ·rw[M4,W0]at q;rw[M5,F5];simp only[q.1];exact i2 q.2
section
variable{X:Cx}{EX:Az}{e:Expr}{pos:Pos}
def o_7{cs:List Str}{f:Str}{fo:FE}(k:OFld X.K cs f)(he:ED X EX e fo)(hb:attributeBase e f X.env (eval e X.env)=eval e X.env:=by rfl):ED X EX (.Attribute e f pos) (Cz cs f fo):=
 PE.imp (bu_2 he hb) λ σ H Q ⟨G,δ,g0,s0,o⟩=>tD.seq g0 s0 o λw v G1 H1 _ st r o'=>by
  revert o' r;cases w.d with
  |obj c ns vs=>
   intro r o';simp only at o'
   split at o'
   ·rename_i hc
    split at o'
    ·rename_i d ed;cases r with
     |obj hC hh hl rl=>
      obtain⟨v1,e1,h1⟩:=(as_2 (f:=f) rl hl).1 d ed;obtain⟨kc,kn⟩:=k c hc _ hC;exact⟨_,_,_,_,v1,rfl,st.gh _ _ hh,kc,kn,e1,Dj o' st.gh h1⟩
    ·exact o'.elim
   ·exact o'.elim
  |_=>intro _ o';exact False.elim o'
end
structure MethD(P:Program)(w:World)(K:Frag)(mg:AB)(base:Heap)(cc:Bool)(k n:Nat)(m c:Str)(F:AF):Prop where
 ex:∃C f fd ps,ClsAt K c C/\Cls K C/\Meth K C m f/\FnX P w K mg base cc k f fd ps (Bx K (n + 1) F)/\Binds K fd ps []
def MethT(P:Program)(w:World)(K:Frag)(mg:AB)(base:Heap)(cc:Bool)(k n:Nat)(m:Str)(tb:List (Str×(AF))):Prop:=∀c F,tb.lookup c=some F->MethD P w K mg base cc k n m c F
def MethT.nil{P:Program}{w:World}{cc:Bool}{k n:Nat}{m:Str}:MethT P w K mg base cc k n m []:=λc F e=>by cases e
def FnX.up{P:Program}{w:World}{c:Bool}{j k:Nat}{f:Addr}{ps:List Str}{sp:Sp}(F:FnX P w K mg base c j f fd ps sp)(h:j<=k):FnX P w K mg base c k f fd ps sp:=
 ⟨F.len,λA outer s H args us vs Q E hr=>F.run A outer s H args us vs Q E (hr.mono h)⟩
def MethT.one{P:Program}{w:World}{cc:Bool}{j k n:Nat}{m c:Str}{F:AF}{tb:List (Str×(AF))}(d:MethD P w K mg base cc j n m c F)(hj:j<=k)(r:MethT P w K mg base cc k n m tb):MethT P w K mg base cc k n m ((c,F)::tb):=λc' F' e=>by
 rw[F5]at e;cases hb:c' ==c with
 |true=>
  simp only[hb]at e;cases e;have:=N1.mp hb;subst this;obtain⟨C,f,fd,ps,a1,a2,a3,a4,a5⟩:=d.ex;exact⟨C,f,fd,ps,a1,a2,a3,a4.up hj,a5⟩
 |false=>simp only[hb]at e;exact r c' F' e
def Bo(m:Str)(n:Nat)(tb:List (Str×(AF)))(fo:FE)(fa:FA):FE:=λ δ=>(fo δ).bind λw=>match w.d with
 | .obj c ns vs=>if ns.contains m then .no else match tb.lookup c with
  |some F=>(fa δ).bind λds=>if ds.length=n then F (.obj c ns vs::ds) else .no
  |none=> .no
 |_=> .no
section
variable{X:Cx}{EX:Az}{e o:Expr}{es:List Expr}{pos zg:Pos}{cc:Bool}{k k' n:Nat}{m:Str}{tb:List (Str×(AF))}{fo:FE}{fa:FA}
def cp_9(X:Cx)(EX:Az)(cc:Bool)(k:Nat)(m:Str)(ta:TE)(t:TA):TE:=λ σ H Q=>ta σ H λx H1=>∃a C dx fs f fd ps sp,x=.ref a/\H1 a=some (.ins C dx fs)/\fs.lookup m=none/\Cls X.K C/\Meth X.K C m f/\
 FnX X.prog X.w X.K X.mg X.base cc k f fd ps sp/\Binds X.K fd ps []/\t σ H1 λvs H2=>sp (.ref a::vs) H2 Q (EXE X.K (EX σ))
def cb_2{pl:Sem Bool}{ta:TE}{t:TA}(he:PE X o ta)(hr:RoomC cc k X.A)(lk:Lk X EX)(ha:PA X (e::es) t)
  (hst:starEach (e::es) X.env=(false,eval e X.env)::starEach es X.env) (hpl:(backTo pos (starEach es X.env)).any (·.1)=false)
  (ht:eval (.Call (.Attribute o m zg) (e::es) [] pos) X.env=(do
   let ov<-eval o X.env
   standAt zg.atName
   let(f,first)<-holding [ov] (getMethod ov m pl)
   callWith pos f first (backTo pos (starEach (e::es) X.env)) (backToKw pos (keywordEach [] X.env)))):
  PE X (.Call (.Attribute o m zg) (e::es) [] pos) (cp_9 X EX cc k m ta t):=by
 intro zd s σ H Q I h;refine ZB3 (pl:=pl) (Bc (he zd s σ H _ I h) λu s1 hh=> ?_) ht;obtain⟨x,H1,I1,rx,a,C,dx,fs,f,fd,ps,sp,ex,ea,l,c,hm,F,hb,q⟩:=hh;subst ex;obtain rfl:u=Value.ref a:=rx;refine at_8 I1 ea c hm l ?_;refine X2 (first:=[.ref a]) (h₀:=X.base) I.ok.mod.kin hm.kp (Bc (ha pos zd s1 σ H1 _ I1 q) λus s2 ⟨vs,H2,I2,r,q2⟩=>⟨I2.kIn, ?_⟩) hst hpl;exact ar_8 (us:=.ref a::us) (vs:=.ref a::vs) F hr hb lk I2 (.cons rfl r) q2
def cq_0{pl:Sem Bool}{ta:TE}(he:PE X o ta)(hr:RoomC cc k X.A)(lk:Lk X EX)
  (ht:eval (.Call (.Attribute o m zg) [] [] pos) X.env=(do
   let ov<-eval o X.env
   standAt zg.atName
   let(f,first)<-holding [ov] (getMethod ov m pl)
   callWith pos f first (backTo pos (starEach [] X.env)) (backToKw pos (keywordEach [] X.env)))):
  PE X (.Call (.Attribute o m zg) [] [] pos) (cp_9 X EX cc k m ta tNil):=by
 intro zd s σ H Q I h;refine ZB3 (pl:=pl) (Bc (he zd s σ H _ I h) λu s1 hh=> ?_) ht;obtain⟨x,H1,I1,rx,a,C,dx,fs,f,fd,ps,sp,ex,ea,l,c,hm,F,hb,q⟩:=hh;subst ex;obtain rfl:u=Value.ref a:=rx;refine at_8 I1 ea c hm l ?_;exact callWith_K0 (first:=[.ref a]) I1.kIn hm.kp (ar_8 (us:=[.ref a]) (vs:=[.ref a]) F hr hb lk I1 (.cons rfl .nil) q)
def dn_8{σ:Sg}{Q:VK}(hK:X.K=K)(T:MethT X.prog X.w X.K X.mg X.base cc k n m tb)(q:tD K EX (Bo m n tb fo fa) σ H Q):cp_9 X EX cc k m (tD K EX fo) (tDa K EX fa) σ H Q:=by
 subst hK;obtain⟨G,δ,g0,s0,o⟩:=q;refine tD.seq g0 s0 o λw v G1 H1 _ st r o'=> ?_;revert o' r;cases w.d with
 |obj c ns vs=>
  intro r o';simp only at o'
  split at o'
  ·exact o'.elim
  ·rename_i hn
   split at o'
   ·rename_i F ef;cases r with
    |obj hC hh hl rl=>
     rename_i a0 C0 dx0 us0;obtain⟨C,f,fd,ps,a1,a2,a3,a4,a5⟩:=(T c F ef).ex;have:=a1.same hC;subst this;refine⟨_,_,_,_,f,fd,ps,_,rfl,st.gh _ _ hh,(as_2 (f:=m) rl hl).2 (by simpa using hn),a2,a3,a4,a5, ?_⟩;refine tDa.seq st.gh (s0.mono st.gg) o' λds us G' H' _ st' r' o2=> ?_
     split at o2
     ·rename_i zk;refine⟨by rw[A9,r'.length,zk],G',.obj c ns vs::ds,st'.gh,.cons (Has.mono st'.gg (.obj hC hh hl rl)) r', ?_⟩;cases q:F (.obj c ns vs::ds) with
      |ok w=>rw[q]at o2;exact o2
      |ex x=>rw[q]at o2;exact EXof.in o2
      |no=>rw[q]at o2;exact o2.elim
     ·exact o2.elim
   ·exact o'.elim
 |_=>intro _ o';exact False.elim o'
def n_8{pl:Sem Bool}(T:MethT X.prog X.w X.K X.mg X.base cc k n m tb)(hr:RoomC cc k' X.A)(lk:Lk X EX)(he:ED X EX o fo)(ha:AD X EX (e::es) fa)(hk:k<=k':=by decide)
  (hst:starEach (e::es) X.env=(false,eval e X.env)::starEach es X.env:=by rfl) (hpl:(backTo pos (starEach es X.env)).any (·.1)=false:=by rfl)
  (ht:eval (.Call (.Attribute o m zg) (e::es) [] pos) X.env=(do
   let ov<-eval o X.env
   standAt zg.atName
   let(f,first)<-holding [ov] (getMethod ov m pl)
   callWith pos f first (backTo pos (starEach (e::es) X.env)) (backToKw pos (keywordEach [] X.env))):=by rfl):ED X EX (.Call (.Attribute o m zg) (e::es) [] pos) (Bo m n tb fo fa):=
 PE.imp (cb_2 he (hr.mono hk) lk ha hst hpl ht) λ_ _ _ q=>dn_8 rfl T q
def w_2{pl:Sem Bool}(T:MethT X.prog X.w X.K X.mg X.base cc k 0 m tb)(hr:RoomC cc k' X.A)(lk:Lk X EX)(he:ED X EX o fo)(hk:k<=k':=by decide)
  (ht:eval (.Call (.Attribute o m zg) [] [] pos) X.env=(do
   let ov<-eval o X.env
   standAt zg.atName
   let(f,first)<-holding [ov] (getMethod ov m pl)
   callWith pos f first (backTo pos (starEach [] X.env)) (backToKw pos (keywordEach [] X.env))):=by rfl):ED X EX (.Call (.Attribute o m zg) [] [] pos) (Bo m 0 tb fo Ac):=
 PE.imp (cq_0 he (hr.mono hk) lk ht) λ σ H Q ⟨G,δ,g0,s0,q⟩=>tD.seq g0 s0 q λw v G1 H1 _ st r o'=>by
  revert o' r;cases w.d with
  |obj c ns vs=>
   intro r o';simp only at o'
   split at o'
   ·exact o'.elim
   ·rename_i hn
    split at o'
    ·rename_i F ef;cases r with
     |obj hC hh hl rl=>
      obtain⟨C,f,fd,ps,a1,a2,a3,a4,a5⟩:=(T c F ef).ex;have:=a1.same hC;subst this;refine⟨_,_,_,_,f,fd,ps,_,rfl,st.gh _ _ hh,(as_2 (f:=m) rl hl).2 (by simpa using hn),a2,a3,a4,a5, ?_⟩;have o2:Out X.K (EX σ) G1 H1 (F [.obj c ns vs]) Q:=o';refine⟨rfl,G1,[.obj c ns vs],st.gh,.cons (.obj hC hh hl rl) .nil, ?_⟩;cases q:F [.obj c ns vs] with
      |ok w=>rw[q]at o2;exact o2
      |ex x=>rw[q]at o2;exact EXof.in o2
      |no=>rw[q]at o2;exact o2.elim
    ·exact o'.elim
  |_=>intro _ o';exact False.elim o'
end
def av_4(n:Nat)(c:Str)(ds:List D):SE:=.lt (.obj c [] [])::(ds.map Sl.sh ++ List.replicate (n - (ds.length + 1)) .no)
def spI(K:Frag)(C:Addr)(n:Nat)(F:List D->R (List Str×List D)):Sp:=λvs H Q E=>∃x dx vs0 Hq G ds,vs=.ref x::vs0/\vs0.length=n/\Hq x=none/\Same Hq H/\H x=some (.ins C dx [])/\Same G Hq/\HasL K G vs0 ds/\
 (match F ds with
 | .ok p=>∀G' H' us dx',Step G Hq G' H'->G' x=none->H' x=some (.ins C dx' (p.1.zip us))->p.1.length=us.length->HasL K G' us p.2->Q .non H'
 | .ex e=>(EXof K E).p e G Hq
 | .no=>False)
def am_9{G H h0:Hp}{v0:V}{vs:List V}{ds:List D}{N:List Str}{b:Nat->Addr}(g:Same G H)(i0:Same h0 H)(r:HasL K G vs ds)(hl:vs.length + 1<=N.length):Ev K ⟨h0,b⟩ G G H (L2.start N (v0::vs)) (.no::(ds.map Sl.sh ++ List.replicate (N.length - (ds.length + 1)) .no)) (λ_ _=>False):=by
 have key:∀(i:Nat) (s:Sl),(Sl.no::(ds.map Sl.sh ++ List.replicate (N.length - (ds.length + 1)) .no))[i]? =some s->(∃j d,i=j + 1/\s=.sh d/\ds[j]? =some d)\/s=.no:=λi s e=>by
  cases i with
  |zero=>exact .inr (by simpa using e.symm)
  |succ i=>
   rw[O0]at e
   by_cases hi:i < ds.length
   ·rw[E4 (by rw[A3];exact hi),A8]at e;obtain⟨d,e1,e2⟩:=E7.mp e;exact .inl ⟨i,d,rfl,e2.symm,e1⟩
   ·rw[J9 (by rw[A3];omega),K4]at e
    split at e
    ·cases e;exact .inr rfl
    ·cases e
 refine⟨⟨i0,g,Same.refl _,λ_ n _=>n⟩, ?_,λi d e=> ?_,λi z d e zo=> ?_,λ_ _ ha=>ha.elim,λ_ _ _ ha=>ha.elim,λi d e=> ?_,λi d e=> ?_⟩
 ·unfold L2.start;have:=r.length;simp only[B7,A3,L1,A9]at hl⊢;omega
 ·rcases key i _ e with⟨j,d',rfl,q,q2⟩|q
  ·cases q;obtain⟨v,e1,h⟩:=r.get q2;refine⟨v, ?_,h⟩;unfold L2.start;have hi:j < vs.length:=(B4.mp e1).1;rw[E4 (by rw[A3,A9];omega),A8,O0,e1];rfl
  ·cases q
 ·rcases key i _ e with⟨j,d',_,q,_⟩|q <;> (subst q;cases zo)
 ·rcases key i _ e with⟨j,d',_,q,_⟩|q <;> cases q
 ·rcases key i _ e with⟨j,d',_,q,_⟩|q <;> cases q
theorem av_5{f:Str}{y:V}:∀{ns:List Str} {us:List V},ns.length=us.length->ns.contains f=false->Fs f y (ns.zip us)=(ns ++ [f]).zip (us ++ [y])
 | [],[],_,_=>rfl
 | [],_::_,e,_=>by simp at e
 |_::_,[],e,_=>by simp at e
 |n::ns,u::us,e,h=>by
  rw[M4,W0]at h;have hn:¬n=f:=λz=>by rw[z]at h;simp at h
  show Fs f y ((n,u)::ns.zip us)=(n,u)::(ns ++ [f]).zip (us ++ [y]);unfold Fs;rw[if_neg hn,av_5 (by simpa using e) h.2]
def ap_2(i:Nat)(cs:List Str)(f:Str)(js:List Nat)(fe:FE):FS:=λ Δ=>match(gsome js Δ)[i]? with
 |some (.lt (.obj c ns ts))=>if cs.contains c=true/\ns.contains f=false/\ns.length < 1000 then(match fe (Aw (gsome js Δ)) with
  | .ok w=> .nx ((gsome js Δ).set i (.lt (.obj c (ns ++ [f]) (ts ++ [.sh w.d]))))
  | .ex x=> .ex x (gsome js Δ)
  | .no=> .no) else .no
 |_=> .no
section
variable{X:Cx}{EX:Az}{pos:Pos}
def as_3{i:Nat}{cs:List Str}{f x:Str}(js:List Nat){e:Expr}{fe:FE}{p1 p2:Pos}(k:OFld X.K cs f)(he:ED X EX e fe)(hN:X.N[i]? =some x:=by rfl)(hv:Fd X.env.scope x:=by trivial)(hd:AG x:=by decide)
  (hcd:(x ==("__classdict__" :Str))=false:=by decide) (hs:swapsWith e (some (.Attribute (.Name x p1) f p2)) pos.line X.env=pure false:=by rfl):SD X EX (.Assign [.Attribute (.Name x p1) f p2] e pos) (ap_2 i cs f js fe):=
 PS.imp (bu_3 (Ff hN hv hd hcd) he hs) λD σ H ⟨H0,G0,G,Δ,O,E,q⟩=>by
  obtain⟨G1,O1,sg,E1⟩:=E.gsome js;unfold ap_2 at q;generalize gsome js Δ=Δ1 at q E1
  split at q
  ·rename_i c ns ts e1
   split at q
   ·rename_i hc;obtain⟨hc1,hc2,hc3⟩:=hc;refine⟨G1,Aw Δ1,E1.st.gh,E1.gsh, ?_⟩;cases e2:fe (Aw Δ1) with
    |ex y=>simp only[e2]at q;exact q σ G1 H O1 E1 sg
    |no=>simp only[e2]at q;exact q.elim
    |ok w=>
     simp only[e2]at q;refine WP.intro λv G2 H2 st r=> ?_;have E2:=E1.grow st;obtain⟨v0,s1,t⟩:=E2.ow i _ _ e1 rfl;have s2:=E2.lt i _ e1;generalize et:(Tn.obj c ns ts)=t0 at t;cases t with
     | @obj a C dx c2 ns2 us ts2 S S1 hC h hl ha sub rl=>
      injection et with et1 et2 et3
      subst et1 et2 et3;obtain⟨kc,kn⟩:=k _ hc1 _ hC;refine⟨_,s1,_,_,_,_,rfl,h,kc,kn,by rw[W3,<-hl,ZA2];exact hc3, ?_⟩;rw[av_5 hl hc2];have ms:=MStep.write (S:=O1 i) E2.st.gh ha (E2.out i _ ha).1 (.ins C dx ((ns ++ [f]).zip (us ++ [v])));refine q σ G2 _ _ (E2.step2 (S:=O1 i) (z:=.lt _) rfl (λ_ z=>by cases z) (λ_ _=>by rw[s1]at s2⊢;exact s2) ms.weak s1 (λb hb=>⟨.inl hb,(E2.out i b hb).1,ms.al b (E2.out i b hb).2.2⟩) ?_) (sg.trans st.gg);refine .obj hC Bk (by rw[B7,B7,hl];rfl) ha sub ?_;refine OwL.append (S2:=λ_=>False) (rl.mono (Same.refl _) (λb o hb z=> ?_) λ_ z=>z) (.cons (S1:=λ_=>False) (S2:=λ_=>False) (.sh r) .nil (λ_ z _=>z) (λ_ z=>z.elim) λ_ z=>z.elim) (λ_ _ z=>z) (λ_ z=>z) λ_ z=>z.elim;rw[Ao (sub b hb).2];exact z
     |_=>cases et
   ·exact q.elim
  ·exact q.elim
end
section
variable{X:Cx}{EX:Az}{e:Expr}{es:List Expr}{x:Str}{pp pos:Pos}{cc:Bool}{k k' n:Nat}{ps:List Str}{C f:Addr}{fd:FuncData}
def ci_0{zd:AE}{σ:Sg}{s:Shared}{Q:VK}{vs:List V}{sp:Sp}(M:Mk X.K C f)(F:FnX X.prog X.w X.K X.mg X.base cc k f fd ps sp)(hr:RoomC cc (k + 1) X.A)(hb:Binds X.K fd ps [])(lk:Lk X EX)(I:Inv X zd σ H s)(r:Vals vs us)
  (h:∀x dx,H x=none->H dx=none->dx≠x->sp (.ref x::vs) (upd (upd H dx (.own x)) x (.ins C dx [])) (λv H2=>v=.non/\Q (.ref x) H2) (EXE X.K (EX σ))):wpAny (model X.prog X.w) X.A (call (.ref C) us) (EP X zd σ Q) X.xe s:=by
 have hq:=h (s.heap.objs.size + 1) s.heap.objs.size (I.hok.fresh (M7 _)) (I.hok.fresh (B5 _)) (D7 (S4 _));have I2:=Inv.made (C:=C) I;have r2:Vals (V.ref (s.heap.objs.size + 1)::vs) (Value.ref (s.heap.objs.size + 1)::us):=.cons rfl r;have hl:(Value.ref (s.heap.objs.size + 1)::us).length=ps.length:=by
  rw[<-r2.length];exact F.len _ _ _ _ hq
 have hb':=hb _ (Value.ref (s.heap.objs.size + 1)::us) I2.kIn (by rw[D8];exact hl);rw[D8]at hb';refine V5 (cm_2 (f:=f) I.kIn M.makes M.init (N1.mp M.fn) (Q4 (F.run _ X.stack _ _ ⟨Value.ref (s.heap.objs.size + 1)::us,[]⟩ (Value.ref (s.heap.objs.size + 1)::us) _ _ _ (hr.make C us []) (I2.env0.make C us []) hb' r2 hq) λr s' hq'=> ?_));cases r with
 |error e=>exact lk zd σ _ _ e s' I2 hq'
 |ok fl=>
  cases fl with
  |ret u=>
   obtain⟨v,H',I3,rv,ev,q3⟩:=I2.after hq';subst ev;exact⟨rv,⟨V.ref (s.heap.objs.size + 1),H',I3,rfl,q3⟩⟩
  |next=>exact False.elim hq'
  |brk=>exact False.elim hq'
  |cont=>exact False.elim hq'
def MakD(P:Program)(w:World)(K:Frag)(mg:AB)(base:Heap)(cc:Bool)(c:Str)(k n:Nat)(F:List D->R (List Str×List D)):Prop:=
 ∃C f fd ps,ClsAt K c C/\mg c=some (.ref C)/\Mk K C f/\FnX P w K mg base cc k f fd ps (spI K C n F)/\Binds K fd ps []
end
section
variable{K:Frag}{G:Hp}{a:Addr}{vs:List V}{ds:List D}
end
section
variable{X:Cx}{EX:Az}{pos:Pos}
end
end L3
namespace L3
open PySem L2 Builtin Builtin.Str
variable{K:Frag}{fd:FuncData}{mg:AB}{us:List Value}{base:Heap}{H:Hp}{X:Cx}{pos:Pos}{v:V}
def db_7{x y:Str}(h:x.cps.toList=y.cps.toList):x=y:=by
 obtain⟨a⟩:=x;obtain⟨b⟩:=y;simp only at h;have:a=b:=by
  have:=K5 List.toArray h;simpa using this
 rw[this]
def db_8(x:Str):x.length=x.cps.toList.length:=by simp[Str.length]
def db_9(x y:Str):(x ++ y).cps.toList=x.cps.toList ++ y.cps.toList:=by
 show(Str.append x y).cps.toList=_;simp[Str.append]
end L3
namespace L3
open PySem L2
variable{K:Frag}{fd:FuncData}{mg:AB}{us:List Value}{base:Heap}{H:Hp}{X:Cx}{pos:Pos}{v:V}
def i_7(i j:Int):Cm (.int i) (.int j)=.ok (.sh (.bl (decide (i=j)))):=by
 have h:Fq (.int i) (.int j)=decide (i=j):=by
  show(i ==j)=decide (i=j);rw[Bool.beq_eq_decide_eq]
 show(if Gh (.int i) (.int j)=true then R.ok (W.sh (D.bl (Fq (.int i) (.int j)))) else .no)=_;rw[if_pos (by rfl),h]
def y_4(i j:Int):Dt (.int i) (.int j)=.ok (.sh (.bl (!decide (i=j)))):=by
 have h:Fq (.int i) (.int j)=decide (i=j):=by
  show(i ==j)=decide (i=j);rw[Bool.beq_eq_decide_eq]
 show(if Gh (.int i) (.int j)=true then R.ok (W.sh (D.bl (!Fq (.int i) (.int j)))) else .no)=_;rw[if_pos (by rfl),h]
def cb_3(x y:Str):Cm (.str x) (.str y)=.ok (.sh (.bl (decide (x=y)))):=rfl
def dc_0(x y:Str):Dt (.str x) (.str y)=.ok (.sh (.bl (!decide (x=y)))):=rfl
def n_9{i j:Int}(h1: -18446744073709551616 < i)(h2:i < 18446744073709551616):Er i j=true:=D6 (.inl ())
def bi_1{i j:Int}(h1: -18446744073709551616 < j)(h2:j < 18446744073709551616):Er i j=true:=D6 (.inr ())
def k_5{i j:Int}(h:Er i j=true):Du (.int i) (.int j)=.ok (.sh (.int (i * j))):=by unfold Du intD;simp only[h,if_true]
def Fz(i j:Int):Ca (.int i) (.int j)=.ok (.sh (.int (i + j))):=rfl
def v_0(i j:Int):Ds (.int i) (.int j)=.ok (.sh (.int (i - j))):=rfl
def ab_2{i j:Int}(h1:0 < j)(h2:j < 1361129467683753853853498429727072845824):Gg (.int i) (.int j)=.ok (.sh (.int (i / j))):=by
 exact if_pos (show divC i j=true from D6 ⟨h1,by omega⟩)
def Cy{i j:Int}(h1:0 < j):Bu (.int i) (.int j)=.ok (.sh (.int (i % j))):=by
 exact if_pos (show modC i j=true from D6 h1)
def ai_8(i j:Int):ltD (.int i) (.int j)=.ok (.sh (.bl (decide (i < j)))):=rfl
def av_6(i j:Int):leD (.int i) (.int j)=.ok (.sh (.bl (decide (i<=j)))):=rfl
def di_0(i j:Int):gtD (.int i) (.int j)=.ok (.sh (.bl (decide (j < i)))):=rfl
def dn_9{x y:Str}(h:x.length + y.length<=16777216):Ca (.str x) (.str y)=.ok (.sh (.str (x ++ y))):=if_pos h
def do_0{i j:Int}(h:powC i j=true):powD (.int i) (.int j)=.ok (.sh (.int (i ^ j.toNat))):=by unfold powD intD;simp only[h,if_true]
def cq_1{i j:Int}(h1:0<=j)(h2:j<=1000000)(h3: -18446744073709551616 < i)(h4:i < 18446744073709551616):powC i j=true:=D6 ⟨h1,by omega,by omega⟩
def o_0(ds:List D):x_8 [.lst ds]=.ok (.sh (.int ds.length)):=rfl
def cq_2{x:Str}(h:x.length<=16777216):x_8 [.str x]=.ok (.sh (.int x.length)):=if_pos h
def cq_3(i j:Int):maxD [.int i,.int j]=.ok (.sh (.int (max i j))):=by
 show R.ok (W.sh (D.int (if j > i then j else i)))=_;rw[show(if j > i then j else i)=max i j by rw[Int.max_def];split <;> split <;> omega]
def do_1(i j:Int):minD [.int i,.int j]=.ok (.sh (.int (min i j))):=by
 show R.ok (W.sh (D.int (if j < i then j else i)))=_;rw[show(if j < i then j else i)=min i j by rw[Int.min_def];split <;> split <;> omega]
def o_8{ds:List D}{i:Int}{d:D}(h:atI ds i=some d):Bf (.lst ds) (.int i)=.ok (.sh d):=by unfold Bf;simp only[h]
def dc_1{x:Str}{i:Int}{c:Nat}(hz:x.length<=16777216)(h:atI x.cps.toList i=some c):Bf (.str x) (.int i)=.ok (.sh (.str ⟨#[c]⟩)):=by
 unfold Bf;simp only[h,if_pos hz]
def bw_1{α:Type}{xs:List α}{i:Int}{x:α}(h0:0<=i)(h:xs[i.toNat]? =some x):atI xs i=some x:=by
 have hl:i.toNat < xs.length:=(B4.mp h).1;unfold atI ixN;rw[if_pos h0,if_pos ()];exact h
def ci_1(fg:FG)(g:FS)(I:Nat->SE->Prop){n:Nat}{lo:Int}{Δ:SE}(h0:I 0 Δ)
  (step:∀k Δ,k < n->I k Δ->∃Δ1,fg (.int (lo + (k:Int))) Δ=.ok Δ1/\∃Δ2,(g Δ1=.nx Δ2\/g Δ1=.ct Δ2)/\I (k + 1) Δ2):∃Δ',Cu fg g (q_9 lo n) Δ=.nx Δ'/\I n Δ':=by
 have all:∀(m k:Nat) (Δ:SE),k + m=n->I k Δ->∃Δ',Cu fg g ((List.range' k m).map λ(j:Nat)=>D.int (lo + (j:Int))) Δ=.nx Δ'/\I n Δ':=by
  intro m
  induction m with
  |zero=>intro k Δ e h;exact⟨Δ,rfl,by rw[<-e];exact h⟩
  |succ m ih=>
   intro k Δ e h;obtain⟨Δ1,e1,Δ2,e2,h2⟩:=step k Δ () h;obtain⟨Δ',e3,h3⟩:=ih (k + 1) Δ2 () h2;refine⟨Δ', ?_,h3⟩;rw[List.range'_succ,B3];show(match fg (.int (lo + (k:Int))) Δ with
    | .ok Δ1=>(match g Δ1 with
     | .nx Δ2=>Cu fg g _ Δ2
     | .ct Δ2=>Cu fg g _ Δ2
     | .bk Δ2=> .nx Δ2
     |r=>r)
    | .ex _=> .no
    | .no=> .no)=_
   rw[e1];rcases e2 with e2|e2
   ·simp only[e2];exact e3
   ·simp only[e2];exact e3
 obtain⟨Δ',e,h⟩:=all n 0 Δ () h0;refine⟨Δ', ?_,h⟩;unfold q_9;rw[List.range_eq_range'];exact e
def s_1(fg:FG)(g:FS)(I:Nat->SE->Prop){ds:List D}{Δ:SE}(h0:I 0 Δ)
  (step:∀k d Δ,ds[k]? =some d->I k Δ->∃Δ1,fg d Δ=.ok Δ1/\∃Δ2,(g Δ1=.nx Δ2\/g Δ1=.ct Δ2)/\I (k + 1) Δ2):∃Δ',Cu fg g ds Δ=.nx Δ'/\I ds.length Δ':=by
 have all:∀(m k:Nat) (Δ:SE),k + m=ds.length->I k Δ->∃Δ',Cu fg g (ds.drop k) Δ=.nx Δ'/\I ds.length Δ':=by
  intro m
  induction m with
  |zero=>
   intro k Δ e h;rw[U3 ()];exact⟨Δ,rfl,by rw[<-e];exact h⟩
  |succ m ih=>
   intro k Δ e h;obtain⟨d,d1,d2⟩:=aa_8 (l:=ds) (i:=k) ();obtain⟨Δ1,e1,Δ2,e2,h2⟩:=step k d Δ d1 h;obtain⟨Δ',e3,h3⟩:=ih (k + 1) Δ2 () h2;refine⟨Δ', ?_,h3⟩;rw[d2];show(match fg d Δ with
    | .ok Δ1=>(match g Δ1 with
     | .nx Δ2=>Cu fg g (ds.drop (k + 1)) Δ2
     | .ct Δ2=>Cu fg g (ds.drop (k + 1)) Δ2
     | .bk Δ2=> .nx Δ2
     |r=>r)
    | .ex _=> .no
    | .no=> .no)=_
   rw[e1];rcases e2 with e2|e2
   ·simp only[e2];exact e3
   ·simp only[e2];exact e3
 have:=all ds.length 0 Δ () h0
 rwa[List.drop_zero]at this
def ci_2{fg:Ga}{p:FT}{f:FE}{δ:DE}{F:Int->D}:∀(n:Nat) (lo:Int),(∀k:Nat,k < n->∃δ1 w,fg (.int (lo + (k:Int))) δ=.ok δ1/\p δ1=.ok true/\f δ1=.ok w/\w.d=F (lo + (k:Int)))->
  n_6 fg p f δ (q_9 lo n)=.ok ((List.range n).map λ(k:Nat)=>F (lo + (k:Int))):=by
 have all:∀(es:List Nat) (lo:Int),(∀k∈es,∃δ1 w,fg (.int (lo + ((k:Nat):Int))) δ=.ok δ1/\p δ1=.ok true/\f δ1=.ok w/\w.d=F (lo + (k:Int)))->
   n_6 fg p f δ (es.map λ(k:Nat)=>D.int (lo + (k:Int)))=.ok (es.map λ(k:Nat)=>F (lo + (k:Int))):=by
  intro es lo
  induction es with
  |nil=>intro _;rfl
  |cons k es ih=>
   intro h;obtain⟨δ1,w,e1,e2,e3,e4⟩:=h k C8;have e5:=ih λj hj=>h j (C4 _ hj);rw[B3,B3];show((fg (.int (lo + (k:Int))) δ).bind λ δ1=>(p δ1).bind λb=>if b=true then(f δ1).bind λw=>(n_6 fg p f δ _).bind λrs=> .ok (w.d::rs) else n_6 fg p f δ _)=_;rw[e1];simp only[R.bind_ok,e2,if_true,e3];rw[e5];simp only[R.bind_ok,e4]
 intro n lo h;exact all (List.range n) lo λk hk=>h k (R6.mp hk)
def bi_2{j:Int}(h1: -4611686018427387903<=j)(h2:j < 4611686018427387904):rng1 [.int j]=.ok (q_9 0 j.toNat):=by
 have h:j.natAbs < 4611686018427387904:=by omega
 exact if_pos h
def t_0{m:Nat}{fi:FI}{fg:Ga}{p:FT}{f:FE}{δ:DE}{ds rs:List D}(h:fi δ=.ok ds)(hl:ds.length<=16777216)(hc:n_6 fg p f (δ ++ List.replicate m none) ds=.ok rs):Ci m fi fg p f δ=.ok (.ow (.lst rs)):=by
 unfold Ci;rw[h];simp only[R.bind_ok];rw[if_pos hl,hc];rfl
def do_2(d:D):Sl.pub (.sh d)=some d:=rfl
def do_3(d:D):Sl.pub (.ow d)=none:=rfl
def do_4:Sl.pub .no=none:=rfl
def do_5(d:D):Sl.any (.sh d)=some d:=rfl
def do_6(d:D):Sl.any (.ow d)=some d:=rfl
def do_7:Sl.any .no=none:=rfl
def dc_2(d:D):Sl.give (.sh d)=.sh d:=rfl
def dc_3(d:D):Sl.give (.ow d)=.sh d:=rfl
def dc_4:Sl.give .no=.no:=rfl
def Be{g h:FS}{Δ Δ':SE}(e:g Δ=.nx Δ'):Ag g h Δ=h Δ':=by unfold Ag;rw[e]
def k_6{n:Nat}{g:FS}{ds:List D}{w:W}(e:g (Ba n ds)=.rt w):Ap n g ds=.ok w:=by unfold Ap;rw[e]
theorem o_9{fg:Ga}{p:FT}{f:FE}{δ:DE}(P:D->Bool)(F:D->D):∀(ds:List D),(∀d∈ds,∃δ1,fg d δ=.ok δ1/\p δ1=.ok (P d)/\(P d=true->∃w,f δ1=.ok w/\w.d=F d))->
  n_6 fg p f δ ds=.ok ((ds.filter P).map F)
 | [],_=>rfl
 |d::ds,h=>by
  obtain⟨δ1,e1,e2,e3⟩:=h d C8;have ih:=o_9 P F ds λx hx=>h x (C4 _ hx);show((fg d δ).bind λ δ1=>(p δ1).bind λb=>if b=true then(f δ1).bind λw=>(n_6 fg p f δ ds).bind λrs=> .ok (w.d::rs) else n_6 fg p f δ ds)=_;rw[e1];simp only[R.bind_ok,e2];cases hP:P d with
  |true=>
   obtain⟨w,e4,e5⟩:=e3 hP;rw[if_pos rfl,e4,ih];simp only[R.bind_ok,e5,Z2 hP,B3]
  |false=>
   rw[if_neg A6,ih,Z1 (by rw[hP];exact A6)]
def cq_4{fg:Ga}{f:FE}{δ:DE}(F:D->D)(ds:List D)(h:∀d∈ds,∃δ1 w,fg d δ=.ok δ1/\f δ1=.ok w/\w.d=F d):
  n_6 fg (λ_=> .ok true) f δ ds=.ok (ds.map F):=by
 have:=o_9 (fg:=fg) (p:=λ_=> .ok true) (f:=f) (δ:=δ) (λ_=>true) F ds λd hd=>by
  obtain⟨δ1,w,e1,e2,e3⟩:=h d hd;exact⟨δ1,e1,rfl,λ_=>⟨w,e2,e3⟩⟩
 rw[this,S8.mpr λ_ _=>rfl]
def bo_5:Dk "int" .non=some false:=rfl
def bw_2(b:Bool):Dk "int" (.bl b)=some true:=rfl
def bo_6(i:Int):Dk "int" (.int i)=some true:=rfl
def bo_7(x:Str):Dk "int" (.str x)=some false:=rfl
def bo_8(l:List D):Dk "int" (.lst l)=some false:=rfl
def bo_9(l:List D):Dk "int" (.tup l)=some false:=rfl
def bi_3:Dk "bool" .non=some false:=rfl
def bp_0(b:Bool):Dk "bool" (.bl b)=some true:=rfl
def bi_4(i:Int):Dk "bool" (.int i)=some false:=rfl
def bi_5(x:Str):Dk "bool" (.str x)=some false:=rfl
def bi_6(l:List D):Dk "bool" (.lst l)=some false:=rfl
def bi_7(l:List D):Dk "bool" (.tup l)=some false:=rfl
def bp_1:Dk "str" .non=some false:=rfl
def bw_3(b:Bool):Dk "str" (.bl b)=some false:=rfl
def bp_2(i:Int):Dk "str" (.int i)=some false:=rfl
def bp_3(x:Str):Dk "str" (.str x)=some true:=rfl
def bp_4(l:List D):Dk "str" (.lst l)=some false:=rfl
def bp_5(l:List D):Dk "str" (.tup l)=some false:=rfl
def bi_8:Dk "list" .non=some false:=rfl
def bp_6(b:Bool):Dk "list" (.bl b)=some false:=rfl
def bi_9(i:Int):Dk "list" (.int i)=some false:=rfl
def bj_0(x:Str):Dk "list" (.str x)=some false:=rfl
def bj_1(l:List D):Dk "list" (.lst l)=some true:=rfl
def bj_2(l:List D):Dk "list" (.tup l)=some false:=rfl
def ba_1:Dk "tuple" .non=some false:=rfl
def bj_3(b:Bool):Dk "tuple" (.bl b)=some false:=rfl
def ba_2(i:Int):Dk "tuple" (.int i)=some false:=rfl
def ba_3(x:Str):Dk "tuple" (.str x)=some false:=rfl
def ba_4(l:List D):Dk "tuple" (.lst l)=some false:=rfl
def ba_5(l:List D):Dk "tuple" (.tup l)=some true:=rfl
end L3
namespace L3
open PySem PySem.Spec PyProof.Rows L2
variable{K:Frag}{fd:FuncData}{mg:AB}{us:List Value}{base:Heap}{H:Hp}{X:Cx}{pos:Pos}{v:V}
def bj_4:List Value->Bool
 | .ref _::r=>bj_4 r
 |l=>l == [.type "ValueError",.type "Exception",.type "BaseException",.type "object"]
theorem af_0(self:Value):∀{l:List Value},bj_4 l=true->refuseLoop self "__setattr__" l=pure .unit
 | [],e=>by cases e
 | .ref c::r,e=>by rw[refuseLoop_ref];exact af_0 self e
 | .type n::r,e=>by
  have e':(Value.type n::r)= [.type "ValueError",.type "Exception",.type "BaseException",.type "object"]:=eq_of_beq e;rw[e'];exact PySem.F.store_ValueError.passes self
 | .none::r,e=>by cases(eq_of_beq (show((Value.none::r) == [.type "ValueError",.type "Exception",.type "BaseException",.type "object"])=true from e))
 | .bool b::r,e=>by cases(eq_of_beq (show((Value.bool b::r) == [.type "ValueError",.type "Exception",.type "BaseException",.type "object"])=true from e))
 | .int b t::r,e=>by cases(eq_of_beq (show((Value.int b t::r) == [.type "ValueError",.type "Exception",.type "BaseException",.type "object"])=true from e))
 | .str b t::r,e=>by cases(eq_of_beq (show((Value.str b t::r) == [.type "ValueError",.type "Exception",.type "BaseException",.type "object"])=true from e))
 | .builtin b::r,e=>by cases(eq_of_beq (show((Value.builtin b::r) == [.type "ValueError",.type "Exception",.type "BaseException",.type "object"])=true from e))
theorem av_7:∀{l:List Value},bj_4 l=true->l.contains (.type "object")=true/\l.isEmpty=false
 | [],e=>by cases e
 | .ref c::r,e=>⟨by rw[M4,(av_7 (l:=r) e).1,ZB7],rfl⟩
 | .type n::r,e=>by
  have e':(Value.type n::r)= [.type "ValueError",.type "Exception",.type "BaseException",.type "object"]:=eq_of_beq e;rw[e'];exact⟨by decide,rfl⟩
 | .none::r,e=>by cases(eq_of_beq (show((Value.none::r) == [.type "ValueError",.type "Exception",.type "BaseException",.type "object"])=true from e))
 | .bool b::r,e=>by cases(eq_of_beq (show((Value.bool b::r) == [.type "ValueError",.type "Exception",.type "BaseException",.type "object"])=true from e))
 | .int b t::r,e=>by cases(eq_of_beq (show((Value.int b t::r) == [.type "ValueError",.type "Exception",.type "BaseException",.type "object"])=true from e))
 | .str b t::r,e=>by cases(eq_of_beq (show((Value.str b t::r) == [.type "ValueError",.type "Exception",.type "BaseException",.type "object"])=true from e))
 | .builtin b::r,e=>by cases(eq_of_beq (show((Value.builtin b::r) == [.type "ValueError",.type "Exception",.type "BaseException",.type "object"])=true from e))
structure XCls(K:Frag)(C:Addr):Prop where
 sa:findIn K (.ref C) "__setattr__" =some (some (.builtin "object.__setattr__"))
 over:(clsIn K C).any (λcd=>bj_4 cd.mro && cd.hasDict)=true
section
variable{prog:Program}{w:World}{A:Around}{E:AA}{s:Shared}{K:Frag}{x C:Addr}{R:Result->Shared->Prop}
def dc_5{ox:Obj}{od:Option Obj}{name:Str}{tk:Tok}{v:Value}(X:K.In s.heap)(I:InstAt s.heap x ox C od)(xc:XCls K C)(ha:findIn K (.ref C) name=some none)
  (h:wpAny (model prog w) A.in1 (Builtin.ObjectAttr.storeInOwnDict (.ref x) (.ref C) (.str name tk) name v false)
   (λfin s'=>match fin with| .done f=>R (.ok f) s'| .again c'=>c'.quiet=true/\codeAny (model prog w) A c' R s') (λe s'=>R (.error e) s') s):
  codeAny (model prog w) A (.call (.builtin "object.__setattr__") ⟨[.ref x,.str name tk,v],[]⟩) R s:=by
 have SF:=PySem.F.store_object;obtain⟨cd,hc,ho⟩:=any_some xc.over;rw[D9]at ho;obtain⟨hs1,hs2⟩:=av_7 ho.1;have sub:Looks (model prog w) s.heap (isInstance (.ref x) (.type "object")) true:=I.type.andThen (looks_mroIn X (by unfold mroIn;rw[hc,Option.bind_some,if_neg (by rw[hs2];decide),hs1]));refine codeAny_call_builtin SF.slot.plain SF.entry (@check_slot (model prog w) _ _ s "object.__setattr__" "object" "__setattr__" (.ref x) [.str name tk,v] [] _ SF.kind SF.split sub (SF.args (.ref x) (.str name tk) v) ?_);have hm:Looks (model prog w) s.heap (mroOf (.ref C)) cd.mro:=(ZA8 X hc).andThen .now;rw[osa_eq,refuse_eq];refine A7 (A7 (I.type.here (A7 (hm.here ?_))));rw[af_0 _ ho.1];refine F0 (A7 (I.type.here (A7 ((ZB6 X ha).here (A7 (F0 (a:=(none:Option Value)) ?_))))));exact h
def ci_3{D:Addr}{name:Str}{tk:Tok}{v:Value}{Q:PySem.Fin->Shared->Prop}(hD:s.heap.get? D=some {cls:=.type "dict",data:=.dict #[]})
  (h:∀h' tk,h'.Ns1 D (λy=>if y=name then some v else none)->Heap.SameBut D s.heap h'->Q (.done (.ret .none)) {s with heap:=h',toks:=tk}):wpAny (model prog w) A (Builtin.ObjectAttr.storeInDict D (.str name tk) name v) Q E s:=by
 have cf:s.heap.Ns D λ_=>none:=⟨_, #[],_,hD,rfl,λ_ he=>(Array.not_mem_empty _ he).elim,λ_=>rfl⟩;unfold Builtin.ObjectAttr.storeInDict Builtin.ObjectAttr.newKeyGuard
 wp_walk using wpAny_nsSet1 (Heap.Ns1.of_empty cf)
 intro h' n sb;obtain⟨o,es,ep,at1,is1,few⟩:=n.count (.cons name v .nil);have le:es.size<=sizeLine + 1:=D4 few (by simp[F1]);exact A7 (wpAny_lookBehind at1 (is1▸pastItsLine_dict le) (F0 (h h' _ n sb)))
def bp_7{name:Str}{v:Value}{us:Array Value}{Q:Unit->Shared->Prop}(X:K.In s.heap)(hx:s.heap.get? x=some ⟨.ref C,none,.fields us, #[]⟩)(xc:XCls K C)(ha:findIn K (.ref C) name=some none)
  (h:∀h' tk,h'.get? x=some ⟨.ref C,some s.heap.objs.size,.fields us, #[]⟩->h'.Ns1 s.heap.objs.size (λy=>if y=name then some v else none)->(∀b o,b≠x->s.heap.get? b=some o->h'.get? b=some o)->Q .unit {s with heap:=h',toks:=tk}):
  wpAny (model prog w) A (setAttr (.ref x) name v) Q E s:=by
 have I:InstAt s.heap x ⟨.ref C,none,.fields us, #[]⟩ C none:=⟨hx,rfl,rfl,True.intro⟩;refine set_plain X I xc.sa (dc_5 (s:={s with toks:=s.toks + 1}) X I xc ha ?_);obtain⟨cd,hc,hd'⟩:=any_some xc.over;rw[D9]at hd';refine A7 (F0 (A7 (A7 (wpAny_loadPart (s:={s with toks:=s.toks + 1}) hx (A7 (ZB5 (s:={s with toks:=s.toks + 1}) (ZA8 X hc) ?_))))));rw[hd'.2]
 
 have Dt:x≠s.heap.objs.size:=D7 (A5 hx);have old:∀b o,b≠x->s.heap.get? b=some o->((s.heap.push {cls:=.type "dict",data:=.dict #[]}).update x λo=>{o with dict:=some s.heap.objs.size}).get? b=some o:=λb o hb e=>by
  rw[Heap.get?_update_ne _ _ _ _ hb];exact A4 _ e
 have itself:=R4 (λo:Obj=>{o with dict:=some s.heap.objs.size}) (A4 {cls:=.type "dict",data:=.dict #[]} hx) rfl;have isD:((s.heap.push {cls:=.type "dict",data:=.dict #[]}).update x λo=>{o with dict:=some s.heap.objs.size}).get? s.heap.objs.size=some {cls:=.type "dict",data:=.dict #[]}:=by
  rw[Heap.get?_update_ne _ _ _ _ (Ne.symm Dt)];exact B8 _ rfl
 refine A7 (wpAny_alloc' (A7 (wpAny_update' (A4 _ hx) (F0 (ci_3 isD λh' tk n sb=>h h' tk ?_ n λb o hb e=> ?_)))))
 ·rw[sb.2 x Dt];exact itself
 ·rw[sb.2 b (D7 (A5 e))];exact old b o hb e
end
def XE(a:Addr)(o:Obj):HO:=.ext λh=>h.get? a=some o
def XE.ok{P:Program}{w:World}{h:Heap}{a:Addr}{o:Obj}(e:h.get? a=some o):ObjOk P w H h a (XE a o):=⟨e,⟨o,e⟩,λ_ _ p k=>k _ p⟩
theorem XE.get{P:Program}{w:World}{h:Heap}{a:Addr}{o:Obj}(x:HOk P w H h)(e:H a=some (XE a o)):h.get? a=some o:=(x a _ e).1
def XO.ok{P:Program}{w:World}{h:Heap}{a C:Addr}{dx:Option Addr}{us:Array Value}{sl:Array (Option Value)}(e:h.get? a=some ⟨.ref C,dx,.fields us,sl⟩)(c2:us[2]? =some .none):ObjOk P w H h a (XO a C dx):=
 ⟨⟨us,sl,e,c2⟩,⟨_,e⟩,λ_ _ ⟨us,sl,p,c⟩ k=>⟨us,sl,k _ p,c⟩⟩
section
variable{X:Cx}{zd:AE}{σ:Sg}{H:Hp}{s:Shared}
def Inv.excSet{a:Addr}{o0 o1:Obj}{h':Heap}{t':Nat}{fs:List (Str×V)}{mA:AB}(I:Inv X zd σ H s)(e:H a=some (XE a o0))(hx:h'.get? a=some o1)(hn:h'.Ns1 s.heap.objs.size mA)(hr:∀f,RelO (fs.lookup f) (mA f))
  (k:∀b o,b≠a->s.heap.get? b=some o->h'.get? b=some o):Inv X zd σ (upd (upd H s.heap.objs.size (.xd fs)) a (XE a o1)) {s with heap:=h',toks:=t'}:=by
 have hf:H s.heap.objs.size=none:=I.hok.fresh (B5 _);have other:∀b u,H b=some u->b≠a->(upd (upd H s.heap.objs.size (.xd fs)) a (XE a o1)) b=some u:=λb u q n=>by
  rw[Ao n,Ao (Et q hf)];exact q
 refine I.un (h':=h') ⟨λb o q n _ _=>k b o (λz=>by subst z;rw[e]at n;cases n) q,λb o q n _ _=>⟨o.slots,k b o (λz=>by subst z;rw[e]at n;cases n) q⟩,λb o q n _=> ?_,λb o q _=> ?_,λb xs q=> ?_,λb o u q=> ?_,λb ps q=> ?_⟩ λb u q=> ?_
 ·rw[Ao (λz=>by subst z;rw[e]at n;cases n),Ao (D7 (A5 q))];exact n
 ·by_cases z:b=a
  ·subst z;exact⟨_,hx⟩
  ·exact⟨_,k b o z q⟩
 ·exact other b _ q λz=>by subst z;rw[e]at q;cases q
 ·exact other b _ q λz=>by subst z;rw[e]at q;cases q
 ·exact⟨#[],by rw[other b _ q λz=>by subst z;rw[e]at q;cases q];simp⟩
 ·by_cases z:b=a
  ·subst z;rw[Bk]at q;cases q;exact XE.ok hx
  ·rw[Ao z]at q
   by_cases z2:b=s.heap.objs.size
   ·subst z2;rw[Bk]at q;cases q;exact⟨mA,hn,hr⟩
   ·rw[Ao z2]at q;refine(I.hok b u q).stay (λc v hc z3=>k c v ?_ z3) (λc z3=>other c _ z3 λz4=> ?_) λc xs z3=>other c _ z3 λz4=> ?_
    ·rcases hc with rfl|hc
     ·exact z
     ·exact λz4=>by subst z4;rw[e]at hc;cases hc
    ·subst z4;rw[e]at z3;cases z3
    ·subst z4;rw[e]at z3;cases z3
def Inv.forget{a:Addr}{φ:Heap->Prop}(I:Inv X zd σ (upd H a (.ext φ)) s)(hn:H a=none):Inv X zd σ H s:=by
 have sub:∀b u,H b=some u->upd H a (.ext φ) b=some u:=λb u e=>by rw[Ao (Et e hn)];exact e
 have nf:∀b,upd H a (.ext φ) b=none->H b=none:=λb e=>by
  by_cases z:b=a
  ·subst z;exact hn
  ·rw[Ao z]at e;exact e
 have bk:∀b u,upd H a (.ext φ) b=some u->(∀ψ,u≠ .ext ψ)->H b=some u:=λb u e n=>by
  by_cases z:b=a
  ·subst z;rw[Bk]at e;cases e;exact absurd rfl (n φ)
  ·rw[Ao z]at e;exact e
 have B:=I.base;refine⟨I.ok,I.os,I.bare,⟨B.keep,B.slot,λb u q n x=>nf b (B.free b u q n x),B.there,λb xs q=>bk _ _ (B.tups b xs q) (λ_ z=>nomatch z),λb u v q=>bk _ _ (B.frzs b u v q) (λ_ z=>nomatch z),λb ps q=> ?_⟩,I.loc,I.cell,nf _ I.free,λx c e=>nf _ (I.freeC x c e),λp hp=> ?_,λb u e=> ?_,I.len⟩
 ·obtain⟨more,z⟩:=B.tbls b ps q;exact⟨more,bk _ _ z (λ_ z=>nomatch z)⟩
 ·obtain⟨p1,p2,p3⟩:=I.pin p hp;exact⟨p1,nf _ p2,p3⟩
 ·exact(I.hok b u (sub b u e)).stay (λ_ _ _ q=>q) (λc q=>bk _ _ q (λ_ z=>nomatch z)) (λc xs q=>bk _ _ q (λ_ z=>nomatch z))
end
def an_0(C:Addr)(f:Str):Sp:=λvs H Q _=>∃a v us,vs= [.ref a,v]/\H a=some (XE a ⟨.ref C,none,.fields us, #[]⟩)/\∀d,H d=none->d≠a->Q .non (upd (upd H d (.xd [(f,v)])) a (XE a ⟨.ref C,some d,.fields us, #[]⟩))
section
variable{X:Cx}{C:Addr}{f:Str}{pos pos' p1 p2:Pos}{x y:Str}
def di_1(C:Addr)(f:Str):TS:=λD σ H=>∃a v us,σ[0]? =some (some (.ref a))/\σ[1]? =some (some v)/\H a=some (XE a ⟨.ref C,none,.fields us, #[]⟩)/\∀d,H d=none->d≠a->D.nx σ (upd (upd H d (.xd [(f,v)])) a (XE a ⟨.ref C,some d,.fields us, #[]⟩))
def cb_4(xc:XCls X.K C)(hn:findIn X.K (.ref C) f=some none)(ho:PE X (.Name x p1) (tVar 0))(hv:PE X (.Name y p2) (tVar 1))(hs:swapsWith (.Name y p2) (some (.Attribute (.Name x p1) f pos')) pos.line X.env=pure false:=by rfl):
  PS X (.Assign [.Attribute (.Name x p1) f pos'] (.Name y p2) pos) (di_1 C f):=by
 intro zd s σ H D I h;obtain⟨a,v,us,e0,e1,ha,q⟩:=h;refine U8 (Bc (hv zd s σ H (λy H1=>y=v/\H1=H) I ⟨v,e1,rfl,rfl⟩) λu s1 ⟨y,H1,I1,ry,ey,eH⟩=>Bc (ho zd s1 σ H1 (λy H2=>y=.ref a/\H2=H) I1 ⟨.ref a,e0,rfl,eH⟩) λov s2 ⟨x,H2,I2,rx,ex,eH2⟩=> ?_) hs;subst ey ex eH eH2;obtain rfl:ov=Value.ref a:=rx;refine bp_7 I2.kIn (XE.get I2.hok ha) xc hn λh' tk g1 g2 g3=> ?_;refine⟨σ,_,Inv.excSet I2 (t':=tk) (fs:=[(f,y)]) ha g1 g2 (λg=> ?_) g3,q _ (I2.hok.fresh (B5 _)) ?_⟩
 ·show RelO ([(f,y)].lookup g) (if g=f then some u else none)
  by_cases z:g=f
  ·subst z;rw[if_pos rfl];simp only[F5,M8];exact ry
  ·rw[if_neg z];have zb:(g ==f)=false:=by simpa using z
   simp only[F5,zb,List.lookup_nil]
   trivial
 ·exact X0 (A5 (XE.get I2.hok ha))
end
abbrev bmVE:List Value:=[.type "ValueError",.type "Exception",.type "BaseException",.type "object"]
def m_6(es:Array DictEntry):Bool:=es.toList.all λe=>match e.key with| .str _ _=>true|_=>false
def bw_4{es:Array DictEntry}(h:m_6 es=true):StrKeys es:=λe he=>by
 have q:=K7.mp h e (Array.mem_toList_iff.mpr he);revert q;cases hk:e.key with
 |str n t=>intro _;exact⟨n,t,rfl⟩
 |_=>intro q;cases q
def cb_5{N:Addr}{oc:Value}{od:Option Addr}{es:Array DictEntry}{ep:Nat}{sl:Array (Option Value)}(l:K.lookup N=some ⟨oc,od,.dict es ep,sl⟩)(k:m_6 es=true){h:Heap}(X:K.In h):h.Ns N (nsFind es):=
 ⟨_,es,ep,X _ _ l,rfl,bw_4 k,λ_=>rfl⟩
def XMk(K:Frag)(C fI:Addr):Prop:=∃(nm q:Str) (N:Addr) (bs bm:List Value) (sn:List Str) (sub:List Value) (ab:Bool) (col:Option Bool) (dd:Option Addr) (k0 k1 k2 k3 k5:Option Value) (mN:AB),
 K.lookup C=some (excClassObj nm q C N bs bm true sn sub ab col dd k0 k1 k2 k3 k5 "ValueError.__new__")/\(∀h:Heap,K.In h->OwnTail h bmVE bm)/\(∀h:Heap,K.In h->h.Ns N mN)/\mN "__init__" =some (.ref fI)
def do_8{C fI N L:Addr}{nm q:Str}{bs:List Value}{sn:List Str}{sub:List Value}{ab:Bool}{col:Option Bool}{dd:Option Addr}{k0 k1 k2 k3 k5:Option Value}{oc c0 oL:Value}{od ddL odL:Option Addr}{es esL:Array DictEntry}{ep epL:Nat}{sl sl0 slL:Array (Option Value)}{cd:ClassData}
  (lc:K.lookup C=some (excClassObj nm q C N bs (.ref L::bmVE) true sn sub ab col dd k0 k1 k2 k3 k5 "ValueError.__new__")) (ln:K.lookup N=some ⟨oc,od,.dict es ep,sl⟩) (kn:m_6 es=true) (hi:nsFind es "__init__" =some (.ref fI))
  (ll:K.lookup L=some ⟨c0,ddL,.cls cd,sl0⟩) (lm:K.lookup cd.ns=some ⟨oL,odL,.dict esL epL,slL⟩) (km:m_6 esL=true) (hL:nsFind esL "__init__" =none):XMk K C fI:=
 ⟨nm,q,N,bs,_,sn,sub,ab,col,dd,k0,k1,k2,k3,k5,nsFind es,lc,λh X=> .own (X _ _ ll) (cb_5 lm km X) hL .base,λh X=>cb_5 ln kn X,hi⟩
def dc_6{C N L:Addr}{nm q:Str}{bs:List Value}{sn:List Str}{sub:List Value}{ab:Bool}{col:Option Bool}{dd:Option Addr}{k0 k1 k2 k3 k5:Option Value}
  (lc:K.lookup C=some (excClassObj nm q C N bs (.ref L::bmVE) true sn sub ab col dd k0 k1 k2 k3 k5 "ValueError.__new__")) (sa:findIn K (.ref C) "__setattr__" =some (some (.builtin "object.__setattr__"))):XCls K C:=
 ⟨sa,by unfold clsIn;rw[lc];rfl⟩
def cb_6{c:Bool}{P:Program}{w:World}{x qual sf at_ fl:Str}{st:Stmt}{f C:Addr}{k:Nat}(F:Fun K x qual st f fd)(S:FnScope [sf,at_] [sf,at_] (Ch st))
  (zj:∀(zp:Value) (A:Around) (outer:List Env) (s:Shared) (H:Hp) (E:XK),PSs (Gc c P w K mg base [sf,at_] qual (Ch st) f zp A outer s H E) (Ft st) (di_1 C fl)):FnX P w K mg base c (k + 1) f fd [sf,at_] (an_0 C fl):=by
 refine Fun.okX F S (λvs H Q E h=> ?_) λzp A outer s H vs Q E hr h=>⟨_,zj zp A outer s H E, ?_⟩
 ·obtain⟨a,v,us,rfl,_⟩:=h;rfl
 ·obtain⟨a,v,us,rfl,ha,q⟩:=h;exact⟨a,v,us,rfl,rfl,ha,q⟩
theorem an_1{h:Heap}:∀{bm:List Value},OwnTail h bmVE bm->bm.contains (.type "BaseException")=true
 |_,.base=>by decide
 |_,.own _ _ _ t=>by rw[M4,an_1 t,ZB7]
structure XC(P:Program)(w:World)(K:Frag)(mg:AB)(base:Heap)(c:Str)(f:Str)(C:Addr):Prop where
 at_:ClsAt K c C
 glob:mg c=some (.ref C)
 kp:keepIn K (.ref C)=true
 xc:XCls K C
 made:∃(fI:Addr) (fd:FuncData) (ps:List Str) (oI:Obj),XMk K C fI/\K.lookup fI=some oI/\oI.cls=.type "function" /\FnX P w K mg base false 1 fI fd ps (an_0 C f)/\Binds K fd ps []
section
variable{X:Cx}{zd:AE}{σ:Sg}{H:Hp}{s:Shared}{C:Addr}{c f:Str}
def cq_5{e d:Addr}{o0 o1 x:HO}:upd (upd (upd H e o0) d x) e o1=upd (upd H d x) e o1:=by
 funext b
 unfold upd
 by_cases z:b=e
 ·rw[if_pos z,if_pos z]
 ·rw[if_neg z,if_neg z,if_neg z]
def ci_4{u:Value}{Q:AA}{E:AA}(M:XC X.prog X.w X.K X.mg X.base c f C)(hr:RoomC false 2 X.A)(I:Inv X zd σ H s)(r:RelV v u)
  (h:∀a d t s',H a=none->H d=none->d≠a->s.heap.objs.size<=a->Inv X zd σ (upd (upd H d (.xd [(f,v)])) a (XE a ⟨.ref C,some d,.fields #[.ref t,.none,.none,.none,.bool false,.none], #[]⟩)) s'->Q (.ref a) s'):
  wpAny (model X.prog X.w) X.A (call (.ref C) [u]) Q E s:=by
 obtain⟨fI,fd,ps,oI,⟨nm,q,N,bs,bm,sn,sub,ab,col,dd,k0,k1,k2,k3,k5,mN,lc,tl,hn,hi⟩,lI,hI,F,hb⟩:=M.made;have KX:=I.kIn;obtain⟨hh,g,dr,tk,os⟩:=s;refine cn_2 X6 (tl hh KX) (KX _ _ lc) (hn hh KX) hi (KX _ _ lI) hI (λh' e me ze=> ?_) (by show 1<=sizeLine;rw[F1];omega);obtain⟨kk,new,t,et,_,_⟩:=me;have I2:Inv X zd σ (upd H e (XE e ⟨.ref C,none,.fields #[.ref t,.none,.none,.none,.bool false,.none], #[]⟩)) ⟨h',g,dr,tk,os⟩:=I.laid (h':=h') (t':=tk) kk ze (XE.ok et);have he:H e=none:=I.hok.fresh ze;have r2:Vals [.ref e,v] [.ref e,u]:=.cons rfl (.cons r .nil);have sp:an_0 C f [.ref e,v] (upd H e (XE e ⟨.ref C,none,.fields #[.ref t,.none,.none,.none,.bool false,.none], #[]⟩)) (λy H2=>y=.non/\∃d,H d=none/\d≠e/\H2=upd (upd H d (.xd [(f,v)])) e (XE e ⟨.ref C,some d,.fields #[.ref t,.none,.none,.none,.bool false,.none], #[]⟩)) (λ_ _ _=>False):=
  ⟨e,v,_,rfl,Bk,λd hd ne=>⟨rfl,d,by rw[Ao ne]at hd;exact hd,ne,cq_5⟩⟩
 have hl: [Value.ref e,u].length=ps.length:=F.len _ _ _ _ sp;have hb':=hb ⟨h',g,dr,tk,os⟩ [.ref e,u] I2.kIn (by rw[D8];exact hl);rw[D8]at hb';refine V5 (Q4 (F.run _ X.stack _ _ ⟨[.ref e,u],[]⟩ [.ref e,u] [.ref e,v] _ _ (hr.make C [u] []) (I2.env0.make C [u] []) hb' r2 sp) λr s' hq=> ?_);cases r with
 |error x=>
  obtain⟨a,C',dx,T,H',_,_,_,_,_,_,_,_,_,_,z⟩:=hq;exact z.elim
 |ok fl=>
  cases fl with
  |ret y=>
   obtain⟨v',H',I3,rv,ev,d,hd,ne,eH⟩:=I2.after hq;subst ev eH;exact⟨rv,h e d t s' he hd ne ze I3⟩
  |next=>exact False.elim hq
  |brk=>exact False.elim hq
  |cont=>exact False.elim hq
def Lk1(X:Cx)(EX:Az):Prop:=∀(zd:AE) (σ:Sg) (H H':Hp) (s s':Shared) (a C:Addr) (dx:Option Addr) (o:Obj) (us:Array Value),Inv X zd σ H s->Inv X zd σ H' s'->s'.heap.get? a=some o->o.cls=.ref C->o.dict=dx->o.data=.fields us->us[1]? =some .none->us[2]? =some .none->
 H' a=none->s.heap.objs.size<=a->EXE X.K (EX σ) (.ref C) dx H'->X.xe (.ref a) s'
def as_4{cm:Bool}{P:Program}{w:World}{N:List Str}{qual:Str}{scope:Scope}{f:Addr}{cd:Value}{A:Around}{outer:List Env}{s:Shared}{E:XK}:
  Lk1 (Gc cm P w K mg base N qual scope f cd A outer s H E) (λ_=>EXof K E):=λzd σ H H' s s' a C dx o us I I' he hc hx hd h1 c2 n1 z1 q=>bg_5 I I' he hc hx hd h1 c2 n1 z1 q.of
def af_8(c f:Str)(js:List Nat)(fe:FE):FS:=λ Δ=>match fe (Aw (gsome js Δ)) with
 | .ok w=> .ex ⟨c,[f],[w.d]⟩ (gsome js Δ)
 | .ex x=> .ex x (gsome js Δ)
 | .no=> .no
def bp_9{EX:Az}(js:List Nat){e:Expr}{fe:FE}{np zf pos:Pos}(M:XC X.prog X.w X.K X.mg X.base c f C)(hr:RoomC true 2 X.A)(l1:Lk1 X EX)(he:ED X EX e fe)(hg:Gl X c:=by rfl)(hdb:AG c:=by decide)
  (hs:starEach [e] X.env=(false,eval e X.env)::starEach [] X.env:=by rfl) (hpl:(backTo zf (starEach [] X.env)).any (·.1)=false:=by rfl):
  SD X EX (.Raise (some (.Call (.Name c np) [e] [] zf)) none pos) (af_8 c f js fe):=by
 intro zd s σ H D I q;obtain⟨H0,G0,G,Δ,O,E,q⟩:=q;obtain⟨G',O',sg,E'⟩:=E.gsome js;obtain⟨fI,fd,ps,oI,⟨nm,qn,N,bs,bm,sn,sub,ab,col,dd,k0,k1,k2,k3,k5,mN,lc,tl,hn,hi⟩,lI,hI,F,hb⟩:=M.made;have hB:bm.contains (.type "BaseException")=true:=an_1 (tl s.heap I.kIn);rw[arm_exec_Raise];have tD0:tD X.K EX fe σ H λv H1=>∃v' w G1,[v]= [v']/\fe (Aw (gsome js Δ))=.ok w/\Step G' H G1 H1/\Has X.K G1 v' w.d:=by
  refine⟨G',Aw (gsome js Δ),E'.st.gh,E'.gsh, ?_⟩;unfold af_8 at q;cases e1:fe (Aw (gsome js Δ)) with
  |ok w=>exact WP.intro λv G1 H1 st r=>⟨v,w,G1,rfl,rfl,st,r⟩
  |ex x=>rw[e1]at q;exact q σ G' H O' E' sg
  |no=>rw[e1]at q;exact q
 have mk:wpAny (model X.prog X.w) X.A (eval (.Call (.Name c np) [e] [] zf) X.env) (λv s1=>∃a t dx,v=.ref a/\s1.heap.get? C=some (excClassObj nm qn C N bs bm true sn sub ab col dd k0 k1 k2 k3 k5 "ValueError.__new__")/\
   s1.heap.get? a=some {cls:=.ref C,dict:=dx,data:=.fields #[.ref t,.none,.none,.none,.bool false,.none]}/\X.xe (.ref a) s1) X.xe s:=by
  refine M3 (r_1 I hg M.glob ?_ hdb);refine X2 (h₀:=X.base) I.ok.mod.kin M.kp (Bc (j_2 he q_2 hs zf zd s σ H (λvs H1=>∃v' w G1,vs= [v']/\fe (Aw (gsome js Δ))=.ok w/\Step G' H G1 H1/\Has X.K G1 v' w.d) I tD0) λus s1 ⟨vs,H1,I1,r,v,w,G1,ev,ew,st,hv⟩=>⟨I1.kIn, ?_⟩) hs hpl;subst ev;obtain⟨u,rfl,ru⟩:=r.one;refine ci_4 M hr.loose I1 ru λa d t s2 ha hd ne za I2=> ?_;have ga:=XE.get I2.hok Bk;refine⟨a,t,some d,rfl,I2.kIn _ _ lc,ga, ?_⟩;have I3:Inv X zd σ (upd H1 d (.xd [(f,v)])) s2:=Inv.forget I2 (by rw[Ao ne.symm];exact ha);refine l1 zd σ H1 _ s1 s2 a C (some d) _ _ I1 I3 ga rfl rfl rfl rfl rfl (by rw[Ao ne.symm];exact ha) za ?_;have st2:Step G1 H1 (upd G1 d (.xd [(f,v)])) (upd H1 d (.xd [(f,v)])):=Step.new st.gh hd _;refine⟨⟨c,[f],[w.d]⟩,upd G1 d (.xd [(f,v)]),st2.gh,.with_ M.at_ Bk rfl (.cons (hv.mono st2.gg) .nil), ?_⟩;unfold af_8 at q;rw[ew]at q;exact q σ _ _ O' ((E'.grow st).grow st2) (sg.trans (st.gg.trans st2.gg))
 refine A7 (P6 (bc_1 hB (hr.hd rfl) (A7 (F3 mk (λv s3 h3=>A7 (P6 (F0 h3))) λ_ _ x=>x))))
end
section
variable{X:Cx}{zd:AE}{σ:Sg}{H:Hp}{s:Shared}
def ad_0{M:Model}{A:Around}{E:AA}{i:Nat}{n:Str}{Q:Unit->Shared->Prop}(I:Inv X zd σ H s)(hN:X.N.Nodup)(hi:X.N[i]? =some n)(hk:X.env.scope.names.lookup n=some .local)
  (h:∀s',Inv X zd (σ.set i none) H s'->Q .unit s'):wpAny M A (do bindName X.env n .none;unbindBehindTheSuite X.env n pos) Q E s:=by
 obtain⟨m,hn,hl⟩:=id I.loc;have cj:(X.env.scope.kind == .class || (X.env.scope.kind == .module && X.env.locals != X.env.globals))=false:=by rw[I.ok.kind];rfl
 have hiσ:i < σ.length:=by rw[I.len];exact(B4.mp hi).1
 have cne:=I.cne;have tracked:∀{a:Addr} {h':Heap},(∃o,s.heap.get? a=some o/\H a=none)->Heap.SameBut a s.heap h'->HOk X.prog X.w H h':=λ{a h'} ha hs b ob e=>by
  obtain⟨_,_,ar⟩:=ha;refine(I.hok b ob e).stay (λc w' hc q=>(hs.2 c ?_).trans q) (λ_ q=>q) λ_ _ q=>q
  rintro rfl
  rcases hc with rfl|hc
  ·rw[ar]at e;cases e
  ·rw[ar]at hc;cases hc
 refine wpAny_nameGoes_keeps hk hn cj λh' v hn' hs=> ?_;obtain⟨oL,_,_,hoL,_⟩:=id hn;refine h _ ⟨I.ok,I.os,I.bare,⟨λb o e n hb hx=> ?_,λb o e n hb hx=> ?_,I.base.free,λb o e hx=> ?_,I.base.tups,I.base.frzs,I.base.tbls⟩,⟨_,hn',λj y v' e1 e2 e3=> ?_⟩,λy c e=> ?_,I.free,I.freeC,λp hp=> ?_,tracked ⟨oL,hoL,I.free⟩ hs,by simpa using I.len⟩
 ·exact(hs.2 b (D7 (C5 (A5 e) I.ok.above))).trans (I.base.keep b o e n hb hx)
 ·obtain⟨sl,e1⟩:=I.base.slot b o e n hb hx;exact⟨sl,(hs.2 b (D7 (C5 (A5 e) I.ok.above))).trans e1⟩
 ·obtain⟨o',e1⟩:=I.base.there b o e hx;exact⟨o',(hs.2 b (D7 (C5 (A5 e) I.ok.above))).trans e1⟩
 ·by_cases hj:j=i
  ·subst hj;rw[J7 hiσ]at e2;cases e2
  ·rw[C7 (Ne.symm hj)]at e2;obtain⟨u',r',q⟩:=hl j y v' e1 e2 e3;refine⟨u',r', ?_⟩;rcases q with⟨k,e⟩|⟨k,c,e,z⟩
   ·refine .inl ⟨k, ?_⟩;have:y≠n:=λe=>hj (at_4 hN e1 (e▸hi));simp[this,e]
   ·exact .inr ⟨k,c,e,z.sameBut hs (cne y c e)⟩
 ·obtain⟨w',z⟩:=I.cell y c e;exact⟨w',z.sameBut hs (cne y c e)⟩
 ·obtain⟨e,n,ne,nf,d⟩:=I.pin p hp;exact⟨(hs.2 p.1 ne).trans e,n,ne,nf,d⟩
def Inv.speak{H':Hp}{s':Shared}{a C:Addr}{dx:Option Addr}{us:Array Value}{sl:Array (Option Value)}(I:Inv X zd σ H s)(I':Inv X zd σ H' s')(za:s.heap.objs.size<=a)(e:s'.heap.get? a=some ⟨.ref C,dx,.fields us,sl⟩)(c2:us[2]? =some .none)(hn:H' a=none):Inv X zd σ (upd H' a (.frz ⟨.ref C,dx,.fields us,sl⟩ (XO a C dx))) s':=by
 have B:=I'.base;have ns:∀b o,X.s₀.heap.get? b=some o->b≠a:=λb o q z=>absurd (C5 (A5 q) (D4 I.sz za)) (by rw[z];exact F4 _);have lt:∀b:Addr,b < s.heap.objs.size->b≠a:=λb h z=>absurd (C5 h za) (by rw[z];exact F4 _);have up:∀b u,H' b=some u->upd H' a (.frz ⟨.ref C,dx,.fields us,sl⟩ (XO a C dx)) b=some u:=λb u q=>by rw[Ao (Et q hn)];exact q
 refine⟨I'.ok,I'.os,I'.bare,⟨B.keep,B.slot,λb o q n x=>by rw[Ao (ns b o q)];exact B.free b o q n x,B.there,λb xs q=>up _ _ (B.tups b xs q),λb o u q=>up _ _ (B.frzs b o u q),λb ps q=>let⟨m,z⟩:=B.tbls b ps q;⟨m,up _ _ z⟩⟩,I'.loc,I'.cell, ?_,λx c q=> ?_,λp hp=> ?_,λb u q=> ?_,I'.len⟩
 ·rw[Ao (lt _ I.lt)];exact I'.free
 ·obtain⟨v,hv⟩:=I.cell x c q;rw[Ao (lt _ hv.lt)];exact I'.freeC x c q
 ·obtain⟨p1,p2,p3⟩:=I'.pin p hp;exact⟨p1,by rw[Ao (lt _ (A5 (I.pin p hp).1))];exact p2,p3⟩
 ·by_cases z:b=a
  ·subst z;rw[Bk]at q;cases q;exact⟨e,XO.ok e c2⟩
  ·rw[Ao z]at q;exact(I'.hok b u q).stay (λ_ _ _ q=>q) (λc q=>up _ _ q) λc xs q=>up _ _ q
end
def tryB(X:Cx)(zd:AE)(W:AA):Cx:={X with pn:=X.pn ++ zd,xe:=W}
structure HX where
 a:Addr
 C:Addr
 dx:Option Addr
 us:Array Value
 sl:Array (Option Value)
 c2:us[2]? =some .none
def HX.ho(e:HX):HO:=.frz ⟨.ref e.C,e.dx,.fields e.us,e.sl⟩ (XO e.a e.C e.dx)
def hand(X:Cx)(e:HX):Cx:={X with A:=X.A.mark (some (.ref e.a)),calm:=false,xe:=λ_ _=>False,H₀:=upd X.H₀ e.a e.ho}
section
variable{X:Cx}{zd aj:AE}{σ:Sg}{H:Hp}{s:Shared}{W:AA}{e:HX}
def ok_tryB:(tryB X zd W).Ok↔X.Ok:=⟨λok=>⟨ok.mod,ok.kind,ok.glob,ok.blt,ok.above,ok.inj,ok.has,ok.cab,ok.hd,ok.frames,ok.stk,ok.exf,ok.bs,ok.bsz,ok.noex,ok.exfs,ok.funs,ok.frf⟩,
 λok=>⟨ok.mod,ok.kind,ok.glob,ok.blt,ok.above,ok.inj,ok.has,ok.cab,ok.hd,ok.frames,ok.stk,ok.exf,ok.bs,ok.bsz,ok.noex,ok.exfs,ok.funs,ok.frf⟩⟩
def Inv.toB(I:Inv X zd σ H s):Inv (tryB X zd W) [] σ H s:=⟨ok_tryB.mpr I.ok,I.os,I.bare,I.base,I.loc,I.cell,I.free,I.freeC,λp hp=>I.pin p (by have hp:p∈(X.pn ++ zd) ++ []:=hp;rwa[D8]at hp),I.hok,I.len⟩
def Inv.ofB(I:Inv (tryB X zd W) aj σ H s):Inv X zd σ H s:=⟨ok_tryB.mp I.ok,I.os,I.bare,I.base,I.loc,I.cell,I.free,I.freeC,λp hp=>I.pin p (E8 _ hp),I.hok,I.len⟩
theorem SP.ofB{D:Ends}{f:Flow}(h:SP (tryB X zd W) aj D f s):SP X zd D f s:=by
 cases f with
 |next=>obtain⟨σ',H',I,q⟩:=h;exact⟨σ',H',Inv.ofB I,q⟩
 |brk=>obtain⟨σ',H',I,q⟩:=h;exact⟨σ',H',Inv.ofB I,q⟩
 |cont=>obtain⟨σ',H',I,q⟩:=h;exact⟨σ',H',Inv.ofB I,q⟩
 |ret u=>obtain⟨v,σ',H',I,r,q⟩:=h;exact⟨v,σ',H',Inv.ofB I,r,q⟩
def Un.hput{fs ex:List Addr}{H0 H':Hp}{h h':Heap}{a:Addr}{o:Obj}{u:HO}(U:Un fs ex H0 H' h h')(z:h.objs.size<=a)(q:H' a=some (.frz o u)):Un fs ex (upd H0 a (.frz o u)) H' h h':=by
 have nb:∀b o,h.get? b=some o->b≠a:=λb o g e=>absurd (A5 g) (by rw[e];exact ZA3.mpr z);refine⟨λb o g n=>U.keep b o g (by rwa[Ao (nb b o g)]at n),λb o g n=>U.slot b o g (by rwa[Ao (nb b o g)]at n),λb o g n=>U.free b o g (by rwa[Ao (nb b o g)]at n),U.there,λb xs e=> ?_,λb ob v e=> ?_,λb ps e=> ?_⟩
 all_goals
  by_cases hb:b=a
  ·subst hb;rw[Bk]at e;cases e
   try exact q
  ·rw[Ao hb]at e
   first|exact U.tups b _ e|exact U.frzs b _ _ e|exact U.tbls b _ e
def Un.htake{fs ex:List Addr}{H0 H1 H':Hp}{h h1 h':Heap}{a:Addr}{v:HO}(U0:Un fs ex H0 H1 h h1)(n:H1 a=none)(U:Un fs ex (upd H0 a v) H' h h')(z:h.objs.size<=a):Un fs ex H0 H' h h':=by
 have nb:∀b o,h.get? b=some o->b≠a:=λb o g e=>absurd (A5 g) (by rw[e];exact ZA3.mpr z);refine⟨λb o g q=>U.keep b o g (by rwa[Ao (nb b o g)]),λb o g q=>U.slot b o g (by rwa[Ao (nb b o g)]),λb o g q=>U.free b o g (by rwa[Ao (nb b o g)]),U.there,λb xs e=> ?_,λb ob v e=> ?_,λb ps e=> ?_⟩
 ·by_cases hb:b=a
  ·subst hb;have:=U0.tups b xs e;rw[n]at this;cases this
  ·exact U.tups b xs (by rwa[Ao hb])
 ·by_cases hb:b=a
  ·subst hb;have:=U0.frzs b ob v e;rw[n]at this;cases this
  ·exact U.frzs b ob v (by rwa[Ao hb])
 ·by_cases hb:b=a
  ·subst hb;obtain⟨m,q⟩:=U0.tbls b ps e;rw[n]at q;cases q
  ·exact U.tbls b ps (by rwa[Ao hb])
def Inv.toH(I:Inv X zd σ H s)(z:X.s₀.heap.objs.size<=e.a)(q:H e.a=some e.ho):Inv (hand X e) zd σ H s:=by
 have nb:∀b o,X.s₀.heap.get? b=some o->b≠e.a:=λb o g y=>absurd (A5 g) (by rw[y];exact ZA3.mpr z);refine⟨⟨I.ok.mod,I.ok.kind,I.ok.glob,I.ok.blt,I.ok.above,I.ok.inj,I.ok.has,I.ok.cab,λz=>absurd z A6,I.ok.frames,I.ok.stk,I.ok.exf,λb o g=> ?_,I.ok.bsz,I.ok.noex,I.ok.exfs,I.ok.funs,λb hb=> ?_⟩,I.os,I.bare,Un.hput I.base z q,I.loc,I.cell,I.free,I.freeC,I.pin,I.hok,I.len⟩
 ·obtain⟨g1,g2⟩:=I.ok.bs b o g;exact⟨g1,(Ao (nb b o g1)).trans g2⟩
 ·obtain⟨_,u,hu,_⟩:=I.ok.funs.mem hb;exact(Ao (nb b u hu)).trans (I.ok.frf b hb)
def Inv.ofH{p0:AE}{σ0:Sg}{H0:Hp}{s0:Shared}(J:Inv X p0 σ0 H0 s0)(n:H0 e.a=none)(z:X.s₀.heap.objs.size<=e.a)(I:Inv (hand X e) zd σ H s):Inv X zd σ H s:=⟨J.ok,I.os,I.bare,Un.htake J.base n I.base z,I.loc,I.cell,I.free,I.freeC,I.pin,I.hok,I.len⟩
end
def di_2(i:Nat):Fl->Fl
 | .nx Δ=> .nx (Δ.set i .no)
 | .bk Δ=> .bk (Δ.set i .no)
 | .ct Δ=> .ct (Δ.set i .no)
 | .rt w=> .rt w
 |_=> .no
def Catches(K:Frag)(C2:Addr)(tb:List (Str×Bool)):Prop:=∀c b,tb.lookup c=some b->∀C,ClsAt K c C->exmOne K (.ref C) (.ref C2)=some b
def Ev.drop{H0:HB}{G0 G H:Hp}{σ:Sg}{Δ:SE}{O:OS}(E:Ev K H0 G0 G H σ Δ O)(i:Nat):Ev K H0 G0 G H (σ.set i none) (Δ.set i .no) O:=by
 refine⟨E.st,by rw[G6,G6];exact E.len,λj d e=> ?_,λj z d e zo=> ?_,E.out,E.dj,λj d e=> ?_,λj d e=> ?_⟩
 ·rcases Fg e with⟨rfl,q⟩|⟨n,q⟩
  ·cases q
  ·rw[C7 n];exact E.sh j d q
 ·rcases Fg e with⟨rfl,q⟩|⟨n,q⟩
  ·subst q;cases zo
  ·rw[C7 n];exact E.ow j z d q zo
 ·rcases Fg e with⟨rfl,q⟩|⟨n,q⟩
  ·cases q
  ·rw[C7 n];exact E.lk j d q
 ·rcases Fg e with⟨rfl,q⟩|⟨n,q⟩
  ·cases q
  ·rw[C7 n];exact E.lt j d q
section
variable{X:Cx}{EX:Az}{i:Nat}{tb:List (Str×Bool)}{g h:FS}{c n:Str}{C2:Addr}{body ai:List Stmt}{b₀:Stmt}{np hp pos:Pos}
def Has.exc{G:Hp}{a C:Addr}{dx:Option Addr}{o:Obj}{x:Xn}(hn:G a=none)(e:ExcAt K G (.ref C) dx x):Has K (upd G a (.frz o (XO a C dx))) (.ref a) (.exn x.c x.ns x.vs):=by
 cases e with
 |bare hc=>exact .exn0 hc Bk
 |with_ hc hd hl r=>exact .exn1 hc Bk (by rw[Ao (Et hd hn)];exact hd) hl (r.mono (j_4 hn _))
def cq_6{H0:HB}{G0 G1:Hp}{D:Ends}{r:Fl}(q:Fin K EX H0 G0 G1 D (di_2 i r)):Fin K Bt H0 G0 G1 {nx:=λ σ H=>D.nx (σ.set i none) H,rt:=D.rt,bk:=λ σ H=>D.bk (σ.set i none) H,ct:=λ σ H=>D.ct (σ.set i none) H} r:=by
 cases r with
 |nx Δ=>exact λ σ G H O E sg=>q _ G H O (E.drop i) sg
 |bk Δ=>exact λ σ G H O E sg=>q _ G H O (E.drop i) sg
 |ct Δ=>exact λ σ G H O E sg=>q _ G H O (E.drop i) sg
 |rt w=>exact q
 |rv d Δ=>exact q.elim
 |ex x Δ=>exact q.elim
 |no=>exact q
end
structure XGet(K:Frag)(C:Addr)(f:Str):Prop where
 ga:findIn K (.ref C) "__getattribute__" =some (some (.builtin "BaseException.__getattribute__"))
 gt:findIn K (.ref C) "__getattr__" =some none
 be:mroIn K C (.type "BaseException")=some true
 hd:hasDictIn K C=true
 no:findIn K (.ref C) f=some none
section
variable{prog:Program}{w:World}{A:Around}{E:AA}{s:Shared}{K:Frag}{x C dx:Addr}{f:Str}
structure XInst(K:Frag)(C:Addr):Prop where
 ga:findIn K (.ref C) "__getattribute__" =some (some (.builtin "BaseException.__getattribute__"))
 gt:findIn K (.ref C) "__getattr__" =some none
 be:mroIn K C (.type "BaseException")=some true
 hd:hasDictIn K C=true
 cl:findIn K (.ref C) "__class__" =some (some (.builtin "object.__class__"))
 gs:specialIn K (.builtin "object.__class__") "__get__" =some (some (.builtin "getset_descriptor.__get__"))
 tk:takesIn K (.builtin "object.__class__")=some true
 ob:mroIn K C (.type "object")=some true
end
def eAttr(cs:List Str)(f:Str)(fo:FE):FE:=λ δ=>(fo δ).bind λw=>match w.d with
 | .exn c ns vs=>if cs.contains c=true then(match(ns.zip vs).lookup f with|some d=> .ok (.sh d)|none=> .no) else .no
 |_=> .no
section
variable{X:Cx}{EX:Az}{o:Expr}{fo:FE}{f:Str}{cs:List Str}{pos:Pos}
end
def eIsC(tb:List (Str×Bool))(fo:FE):FE:=λ δ=>(fo δ).bind λw=>match w.d with
 | .exn c _ _=>(match tb.lookup c with|some b=> .ok (.sh (.bl b))|none=> .no)
 |_=> .no
section
variable{X:Cx}{EX:Az}{zd:AE}{σ:Sg}{G H:Hp}{s:Shared}
variable{a:Expr}{fo:FE}{tb:List (Str×Bool)}{pp pos:Pos}
end
theorem RoomC.units{c:Bool}{k:Nat}{A:Around}(r:RoomC c k A):A.units + 64 < cLine:=by have:=r.un;omega
section
variable{X:Cx}{c:Bool}{k:Nat}{zd:AE}{W:AA}{e:HX}
def cq_7(h:RoomC c k (Cx.A X)):RoomC c k (Cx.A (Cx.nox X)):=h
def cq_8(h:RoomC c k (Cx.A X)):RoomC c k (Cx.A (tryB X zd W)):=h
def cq_9(h:Cx.calm X=true):Cx.calm (Cx.nox X)=true:=h
def e_9{cm:Bool}{P:Program}{w:World}{N:List Str}{qual:Str}{scope:Scope}{f:Addr}{cd:Value}{A:Around}{outer:List Env}{s:Shared}{E:XK}:
  PassesOwn (model P w) (Cx.A (Gc cm P w K mg base N qual scope f cd A outer s H E)) (Cx.env (Gc cm P w K mg base N qual scope f cd A outer s H E)) (Cx.xe (Gc cm P w K mg base N qual scope f cd A outer s H E)):=
 λe s' h=>wpAny_leaving_again (SameStack.refl _) h
def Catches.one{C2:Addr}{c:Str}{C:Addr}{b:Bool}(a:ClsAt K c C)(h:exmOne K (.ref C) (.ref C2)=some b){tb:List (Str×Bool)}(r:Catches K C2 tb):Catches K C2 ((c,b)::tb):=λc' b' e C' a'=>by
 rw[F5]at e;cases z:(c' ==c) with
 |true=>
  rw[z]at e;cases e;have:c'=c:=eq_of_beq z;subst this;unfold ClsAt at a a';rw[a]at a';cases a';exact h
 |false=>rw[z]at e;exact r c' b' e C' a'
def Catches.nil{C2:Addr}:Catches K C2 []:=λ_ _ e=>by cases e
end
structure Hd where
 i:Option Nat
 tb:List (Str×Bool)
 h:FS
def hdGo(d:Hd)(x:Xn)(Δ:SE):Fl:=match d.i with
 |some i=>di_2 i (d.h (Δ.set i (.sh (.exn x.c x.ns x.vs))))
 |none=>(match d.h Δ with
  | .ex _ _=> .no
  |r=>r)
def tryH:List Hd->Xn->SE->Fl
 | [],_,_=> .no
 |d::r,x,Δ=>match d.tb.lookup x.c with
  |some true=>hdGo d x Δ
  |some false=>tryH r x Δ
  |none=> .no
def av_8(g:FS)(hs:List Hd):FS:=λ Δ=>match g Δ with
 | .ex x Δ1=>tryH hs x Δ1
 |r=>r
inductive HOk3(X:Cx):List ExceptHandler->List Hd->Prop where
 |nil:HOk3 X [] []
 |as_ {c n:Str} {C2:Addr} {b₀:Stmt} {ai:List Stmt} {np hp:Pos} {i:Nat} {tb:List (Str×Bool)} {h:FS} {hs:List ExceptHandler} {ds:List Hd} (hc:X.mg c=some (.ref C2)) (ct:Catches X.K C2 tb) (hh:∀e,BD (hand X e) Bt (b₀::ai) h) (r:HOk3 X hs ds)
   (hi:X.N[i]? =some n:=by rfl) (hk:X.env.scope.names.lookup n=some .local:=by rfl) (hg:Gl X c:=by rfl) (hdb:AG c:=by decide):
   HOk3 X (.ExceptHandler (some (.Name c np)) (some n) (b₀::ai) hp::hs) (⟨some i,tb,h⟩::ds)
 |bare {c:Str} {C2:Addr} {b₀:Stmt} {ai:List Stmt} {np hp:Pos} {tb:List (Str×Bool)} {h:FS} {hs:List ExceptHandler} {ds:List Hd} (hc:X.mg c=some (.ref C2)) (ct:Catches X.K C2 tb) (hh:∀e,BD (hand X e) Bt (b₀::ai) h) (r:HOk3 X hs ds)
   (hg:Gl X c:=by rfl) (hdb:AG c:=by decide):
   HOk3 X (.ExceptHandler (some (.Name c np)) none (b₀::ai) hp::hs) (⟨none,tb,h⟩::ds)
def EXh(K:Frag)(EX:Az)(D:Ends)(ds:List Hd):Az:=λ σ=>⟨λx G H=>∃H0 G0 Δ O,Ev K H0 G0 G H σ Δ O/\Fin K EX H0 G0 G D (tryH ds x Δ),
 λ_ _ _ _ _ s ⟨H0,G0,Δ,O,E,f⟩=>⟨H0,G0,Δ,O,E.grow s,Fin.mono s.gg f⟩⟩
def dc_7{EX:Az}{H0:HB}{G0 G1:Hp}{D:Ends}{r:Fl}(q:Fin K EX H0 G0 G1 D (match r with| .ex _ _=> .no|r=>r)):Fin K Bt H0 G0 G1 {nx:=D.nx,rt:=D.rt,bk:=D.bk,ct:=D.ct} r:=by
 cases r with
 |nx Δ=>exact q
 |bk Δ=>exact q
 |ct Δ=>exact q
 |rt w=>exact q
 |rv d Δ=>exact q
 |ex x Δ=>exact q.elim
 |no=>exact q
section
variable{X:Cx}{EX:Az}{g:FS}{body:List Stmt}{pos:Pos}
def ci_6(hN:X.N.Nodup){zd:AE}{D:Ends}{a C T2:Addr}{dx:Option Addr}{σ1 σ0:Sg}{H1 H2:Hp}{s1 s2:Shared}{h2:Heap}{x:Xn}{H0':HB}{G2 G0':Hp}{Δ1:SE}{O1:OS}{e0:HX}{h9:Heap}(ha:e0.a=a)(hC:e0.C=C)(hx:e0.dx=dx)(zz:X.s₀.heap.objs.size<=e0.a)
  (J1:Inv X zd σ0 H1 s1) (J3:Inv X zd σ1 H2 {s2 with heap:=h9}) (J4:Inv X zd σ1 (upd H2 a e0.ho) {s2 with heap:=h2}) (st4:Step G2 H2 (upd G2 a e0.ho) (upd H2 a e0.ho))
  (n1:H2 a=none) (sg2:Same G2 H2) (ea:ExcAt X.K G2 (.ref C) dx x) (LT:Looks (model X.prog X.w) h2 (typeOf (.ref a)) (.ref C)) (hcC:ClsAt X.K x.c C)
  (E1:Ev X.K H0' G0' G2 H2 σ1 Δ1 O1)
  (flt:∀{A:Around} {E:AA} {Q:Unit->Shared->Prop},(∀h3,Inv X zd σ1 (upd H2 a e0.ho) {s2 with heap:=h3}->Q .unit {s2 with heap:=h3})->wpAny (model X.prog X.w) A (setFlight (.ref a) none) Q E {s2 with heap:=h2}):
  ∀{hs:List ExceptHandler} {ds:List Hd},HOk3 X hs ds->Fin X.K EX H0' G0' G2 D (tryH ds x Δ1)->wpAny (model X.prog X.w) X.A (handleBy (.ref a) X.env hs) (SP X zd D) X.xe {s2 with heap:=h2}:=by
 subst ha hC hx;intro hs ds ho
 induction ho with
 |nil=>intro q;exact False.elim q
 |as_ hc ct hh r hi hk hg hdb ih=>
  rename_i c n C2 b₀ ai np hp i tb h hs ds;intro q;refine wpAny_handleBy_cons (codeAny_handlers_test ?_) (by intro z;cases z);refine r_1 (X:=hand X e0) (Inv.toH J4 zz Bk) hg hc ?_ hdb;unfold tryH at q;cases e2:tb.lookup x.c with
  |none=>simp only[e2]at q;exact q.elim
  |some b=>
   have em:=ct _ _ e2 _ hcC;refine ZB5 (s:={s2 with heap:=h2}) (exm_one J4.kIn LT em) ?_;cases b with
   |false=>simp only[e2]at q;exact ih q
   |true=>
    simp only[e2,hdGo]at q;show codeAny _ _ _ _ _;refine codeAny_handlers_suite_as (flt λh3 J5=> ?_);refine at_5 (X:=hand X e0) (v:=.ref e0.a) (Inv.toH J5 zz Bk) hN hi (.inl hk) rfl (λs6 I6=> ?_) (.inr hk);have E6:=(E1.grow st4).put (i:=i) (Has.exc (sg2.free n1) ea);refine F3 (hh e0 zd s6 _ _ _ I6 ⟨H0',G0',_,_,O1,E6,cq_6 (Fin.mono st4.gg q)⟩) (λf s7 h7=> ?_) λ_ _ z=>False.elim z;show wpAny _ X.A (do bindName X.env n .none;unbindBehindTheSuite X.env n hp) (λ_ s₃=>SP X zd D f s₃) _ s7;cases f with
    |next=>
     obtain⟨σ7,H7,I7,q7⟩:=h7;exact ad_0 (Inv.ofH J3 n1 zz I7) hN hi hk λs8 I8=>⟨_,H7,I8,q7⟩
    |brk=>
     obtain⟨σ7,H7,I7,q7⟩:=h7;exact ad_0 (Inv.ofH J3 n1 zz I7) hN hi hk λs8 I8=>⟨_,H7,I8,q7⟩
    |cont=>
     obtain⟨σ7,H7,I7,q7⟩:=h7;exact ad_0 (Inv.ofH J3 n1 zz I7) hN hi hk λs8 I8=>⟨_,H7,I8,q7⟩
    |ret u=>
     obtain⟨v,σ7,H7,I7,r7,q7⟩:=h7;exact ad_0 (Inv.ofH J3 n1 zz I7) hN hi hk λs8 I8=>⟨v,_,H7,I8,r7,q7⟩
 |bare hc ct hh r hg hdb ih=>
  rename_i c C2 b₀ ai np hp tb h hs ds;intro q;refine wpAny_handleBy_cons (codeAny_handlers_test ?_) (by intro z;cases z);refine r_1 (X:=hand X e0) (Inv.toH J4 zz Bk) hg hc ?_ hdb;unfold tryH at q;cases e2:tb.lookup x.c with
  |none=>simp only[e2]at q;exact q.elim
  |some b=>
   have em:=ct _ _ e2 _ hcC;refine ZB5 (s:={s2 with heap:=h2}) (exm_one J4.kIn LT em) ?_;cases b with
   |false=>simp only[e2]at q;exact ih q
   |true=>
    simp only[e2,hdGo]at q;show codeAny _ _ _ _ _;refine codeAny_handlers_suite (flt λh3 J5=> ?_);have E6:=E1.grow st4;refine F3 (hh e0 zd {s2 with heap:=h3} _ _ _ (Inv.toH J5 zz Bk) ⟨H0',G0',_,_,O1,E6,dc_7 (Fin.mono st4.gg q)⟩) (λf s7 h7=> ?_) λ_ _ z=>False.elim z;cases f with
    |next=>
     obtain⟨σ7,H7,I7,q7⟩:=h7;exact⟨_,H7,Inv.ofH J3 n1 zz I7,q7⟩
    |brk=>
     obtain⟨σ7,H7,I7,q7⟩:=h7;exact⟨_,H7,Inv.ofH J3 n1 zz I7,q7⟩
    |cont=>
     obtain⟨σ7,H7,I7,q7⟩:=h7;exact⟨_,H7,Inv.ofH J3 n1 zz I7,q7⟩
    |ret u=>
     obtain⟨v,σ7,H7,I7,r7,q7⟩:=h7;exact⟨v,_,H7,Inv.ofH J3 n1 zz I7,r7,q7⟩
def dc_8{hd0:ExceptHandler}{hs0:List ExceptHandler}{ds:List Hd}(hN:X.N.Nodup)(hfr:X.env.frame=some X.env.locals)(hst:X.stack=X.env::X.outer)(hb:∀zd W EXB,Lk (tryB X zd W) EXB->BD (tryB X zd W) EXB body g)(ho:HOk3 X (hd0::hs0) ds):
  SD X EX (.Try body (hd0::hs0) [] [] pos) (av_8 g ds):=by
 intro zd s σ H D I q;obtain⟨H0,G0,G,Δ,O,E,q⟩:=q;refine wpAny_Try_except ?_;have lk:Lk (tryB X zd λe s₁=>wpAny (model X.prog X.w) X.A (noteFrame e X.env) (λ_ s₂=>wpAny (model X.prog X.w) X.A (setFlight e none) (λ_ s₃=>wpAny (model X.prog X.w) X.A (handleBy e X.env (hd0::hs0)) (SP X zd D) X.xe s₃) X.xe s₂) X.xe s₁) (EXh X.K EX D ds):=by
  intro aj σ1 H1 s1 e s2 I1 cx;obtain⟨a,C,dx,T,H2,rfl,I2,tr,n1,n2,z1,z2,x,G2,sg2,ea,H0',G0',Δ1,O1,E1,f1⟩:=Inv.raised I1 cx;show wpAny _ X.A (noteFrame (.ref a) X.env) _ _ s2;have J1:=Inv.ofB I1;have J2:=Inv.ofB I2;refine bc_0 (outer:=X.outer) (by rw[<-hst];exact J2.ok.frames) (by rw[<-hst];exact J2.stack) hfr tr λh1 T2 z3 k1 t1=> ?_;refine u_3 t1 λh2 k2 t2=> ?_;have zT2:H2 T2=none:=J2.hok.fresh z3;have J3:Inv X zd σ1 H2 {s2 with heap:=h2}:=by
   refine Inv.settle (ch:=[a,T] ++ [T2]) J1 J2 (λb hb=> ?_) ?_
   ·have:b=a\/b=T\/b=T2:=by simpa using hb
    rcases this with rfl|rfl|rfl
    ·exact⟨z1,n1⟩
    ·exact⟨z2,n2⟩
    ·exact⟨D4 z1 (D4 (P0 (A5 tr.ob.choose_spec.choose_spec.1)) z3),zT2⟩
   ·rw[hst];exact k1.trans (KeepX.of_same k2)
  obtain⟨⟨oa,ua,ga,gc,gd,gf,g1,g2⟩,ne,tbk⟩:=id t2;have goa:h2.get? a=some ⟨.ref C,dx,.fields ua,oa.slots⟩:=by
   obtain⟨c1,d1,e1,s1⟩:=oa;simp only at gc gd gf;subst gc gd gf;exact ga
  let e0:HX:=⟨a,C,dx,ua,oa.slots,g2⟩
  have zz:X.s₀.heap.objs.size<=e0.a:=D4 J1.sz z1;have J4:Inv X zd σ1 (upd H2 a e0.ho) {s2 with heap:=h2}:=Inv.speak J1 J3 z1 goa g2 n1;have st4:Step G2 H2 (upd G2 a e0.ho) (upd H2 a e0.ho):=Step.new sg2 n1 _;have LT:Looks (model X.prog X.w) h2 (typeOf (.ref a)) (.ref C):=gc▸(Looks.ld ga).andThen .now;obtain⟨hcC⟩:Nonempty (ClsAt X.K x.c C):=by cases ea with|bare hc=>exact⟨hc⟩|with_ hc _ _ _=>exact⟨hc⟩
  refine ci_6 (e0:=e0) (T2:=T2) hN rfl rfl rfl zz J1 J3 J4 st4 n1 sg2 ea LT hcC E1 (λ{A E Q} hq=> ?_) ho f1;refine u_3 t2 λh3 k3 t3=>hq h3 ?_;refine Inv.settle (ch:=[T2]) (s':={s2 with heap:=h2}) J1 J4 (λb hb=> ?_) (KeepX.of_same k3);have:b=T2:=by simpa using hb
  subst this;exact⟨D4 z1 (D4 (P0 (A5 tr.ob.choose_spec.choose_spec.1)) z3),by rw[Ao ne];exact zT2⟩
 refine F3 (hb zd _ _ lk [] s σ H D (Inv.toB I) ⟨H0,G0,G,Δ,O,E, ?_⟩) (λf s1 hs=> ?_) λ_ _ z=>z
 ·unfold av_8 at q;cases e1:g Δ with
  |ex x Δ1=>
   rw[e1]at q;exact λ σ1 G1 H1 O1 E1 sg=>⟨H0,G0,Δ1,O1,E1,Fin.mono sg q⟩
  |nx Δ1=>rw[e1]at q;exact q
  |bk Δ1=>rw[e1]at q;exact q
  |ct Δ1=>rw[e1]at q;exact q
  |rt w=>rw[e1]at q;exact q
  |rv d Δ1=>rw[e1]at q;exact q
  |no=>rw[e1]at q;exact q
 ·have hs':=SP.ofB hs;cases f with
  |next=>exact T3 hs'
  |brk=>exact hs'
  |cont=>exact hs'
  |ret u=>exact hs'
end
section
variable{prog:Program}{w:World}{A:Around}{E:AA}{h:Heap}{g:Array GenState}{d:Drawn}{t:Nat}{os:OsState}
variable{nm q:Str}{C N:Addr}{bs bm bmB:List Value}{ax:Bool}{sn:List Str}{sub:List Value}{ab:Bool}{col:Option Bool}{dd:Option Addr}{k0 k1 k2 k3 k5:Option Value}{B newId ah:String}
def bw_6(FB:ExcBaseFacts B newId ah bmB)(T:OwnTail h bmB bm){mN:AB}{Q:PySem.Fin->Shared->Prop}
  (hC:h.get? C=some (excClassObj nm q C N bs bm ax sn sub ab col dd k0 k1 k2 k3 k5 newId)) (hn:h.Ns N mN) (hi:mN "__init__" =none)
  (z:∀h' e,Heap.MadeExcOf h h' e (.ref C) []->h.objs.size<=e->Q (.done (.ret (.ref e))) ⟨h',g,d,t,os⟩):
  wpAny (model prog w) A (Builtin.«type.__call__» ⟨[.ref C],[]⟩) Q E ⟨h,g,d,t,os⟩:=by
 wp_walk using N3 hC,wpAny_madeBy_exc hC
 refine X8 (T6 _ FB.quiet) (wpAny_check_new_subT FB T hC ?_);refine codeAny_exc_new_subT FB T hC ?_ (by show 0<=sizeLine;exact K6 _);show wpAny _ _ _ _ _ _;generalize e1:({cls:=.type "tuple",data:=.seq ([]:List Value).toArray}:Obj)=o1;generalize e2:({cls:=.ref C,data:=.fields #[.ref h.objs.size,.none,.none,.none,.bool false,.none]}:Obj)=o2;have up:∀b o,h.get? b=some o->((h.push o1).push o2).get? b=some o:=λb o e=>A4 _ (A4 _ e);have ge:((h.push o1).push o2).get? (h.objs.size + 1)=some o2:=by
  have:=B8 (h.push o1) (o:=o2) (by rw[<-e2];rfl)
  rwa[N2]at this
 have hC1:=up _ _ hC;have hn1:((h.push o1).push o2).Ns N mN:=hn.keeps up;have T1:=T.keeps up;have cl:o2.cls=.ref C:=by rw[<-e2]
 have hcC:List.contains (Value.ref C::bm) (.ref C)=true:=R5.mpr (.head _);unfold isInstance
 repeat (first|(with_reducible refine N3 ge ?_;rw[cl])|(with_reducible refine W7 hC1 ?_;rw[hcC])|wp_step)
 show wpAny _ _ (typeLookup (.ref C) _) _ _ _;refine wpAny_typeLookup_tail hC1 hn1 T1 FB.mroIs FB.init.lookup ?_;rw[hi];refine V8 (A7 (wpAny_of_eq (FB.init.bind _) ?_));refine A7 (V5 (codeAny_call_builtin FB.init.plain FB.initEntry (wpAny_check_init_subT FB T1 hC1 ge cl ?_)));subst e1 e2
 wp_walk
 refine z _ (h.objs.size + 1) ⟨λb o hb=> ?_,P1 (M7 _),h.objs.size + 2, ?_,P1 (), ?_⟩ (M7 _)
 ·rw[K2 _ _ (Ne.symm (D7 (U5 (A5 hb))))];exact A4 _ (up b o hb)
 ·rw[R4 _ (A4 _ ge) rfl,N2,N2];rfl
 ·rw[K2 _ _ (D7 (S4 (h.objs.size + 1)))];exact Heap.get?_push_at (by rw[N2,N2]) rfl
def ci_7(FB:ExcBaseFacts B newId ah bmB)(T:OwnTail h bmB bm){mN:AB}{Q:AA}
  (hC:h.get? C=some (excClassObj nm q C N bs bm ax sn sub ab col dd k0 k1 k2 k3 k5 newId)) (hn:h.Ns N mN) (hi:mN "__init__" =none)
  (z:∀h' e,Heap.MadeExcOf h h' e (.ref C) []->h.objs.size<=e->Q (.ref e) ⟨h',g,d,t,os⟩):
  wpAny (model prog w) A (call (.ref C) []) Q E ⟨h,g,d,t,os⟩:=by
 have f1:=tc_lookup;have f2:=tc_bind (.ref C);have Dk:Shared.TypeIs ⟨h,g,d,t,os⟩ (.ref C) "type" :=⟨_,hC,rfl⟩;refine V5 (codeAny_of_tree (?_:wpAny _ _ (callAny (.ref C) _) _ _ _))
 wp_walk using N3 hC
 refine⟨rfl, ?_⟩;exact Y7 (T6 _ nofun) entry_typeCall (X9 hC (bw_6 FB T hC hn hi z))
end
def XMk0(K:Frag)(C:Addr):Prop:=∃(nm q:Str) (N:Addr) (bs bm:List Value) (sn:List Str) (sub:List Value) (ab:Bool) (col:Option Bool) (dd:Option Addr) (k0 k1 k2 k3 k5:Option Value) (mN:AB),
 K.lookup C=some (excClassObj nm q C N bs bm true sn sub ab col dd k0 k1 k2 k3 k5 "ValueError.__new__")/\(∀h:Heap,K.In h->OwnTail h bmVE bm)/\(∀h:Heap,K.In h->h.Ns N mN)/\mN "__init__" =none
def dd_0{C N L:Addr}{nm q:Str}{bs:List Value}{sn:List Str}{sub:List Value}{ab:Bool}{col:Option Bool}{dd:Option Addr}{k0 k1 k2 k3 k5:Option Value}{oc c0 oL:Value}{od ddL odL:Option Addr}{es esL:Array DictEntry}{ep epL:Nat}{sl sl0 slL:Array (Option Value)}{cd:ClassData}
  (lc:K.lookup C=some (excClassObj nm q C N bs (.ref L::bmVE) true sn sub ab col dd k0 k1 k2 k3 k5 "ValueError.__new__")) (ln:K.lookup N=some ⟨oc,od,.dict es ep,sl⟩) (kn:m_6 es=true) (hi:nsFind es "__init__" =none)
  (ll:K.lookup L=some ⟨c0,ddL,.cls cd,sl0⟩) (lm:K.lookup cd.ns=some ⟨oL,odL,.dict esL epL,slL⟩) (km:m_6 esL=true) (hL:nsFind esL "__init__" =none):XMk0 K C:=
 ⟨nm,q,N,bs,_,sn,sub,ab,col,dd,k0,k1,k2,k3,k5,nsFind es,lc,λh X=> .own (X _ _ ll) (cb_5 lm km X) hL .base,λh X=>cb_5 ln kn X,hi⟩
structure XC0(K:Frag)(mg:AB)(c:Str)(C:Addr):Prop where
 at_:ClsAt K c C
 glob:mg c=some (.ref C)
 kp:keepIn K (.ref C)=true
 made:XMk0 K C
def ad_1(c:Str):FS:=λ Δ=> .ex ⟨c,[],[]⟩ Δ
section
variable{X:Cx}{C:Addr}{c:Str}
def bd_0{EX:Az}{np zf pos:Pos}(M:XC0 X.K X.mg c C)(hr:RoomC true 2 X.A)(l1:Lk1 X EX)(hg:Gl X c:=by rfl)(hdb:AG c:=by decide):
  SD X EX (.Raise (some (.Call (.Name c np) [] [] zf)) none pos) (ad_1 c):=by
 intro zd s σ H D I q;obtain⟨H0,G0,G,Δ,O,E,q⟩:=q;obtain⟨nm,qn,N,bs,bm,sn,sub,ab,col,dd,k0,k1,k2,k3,k5,mN,lc,tl,hn,hi⟩:=M.made;have hB:bm.contains (.type "BaseException")=true:=an_1 (tl s.heap I.kIn);rw[arm_exec_Raise];have mk:wpAny (model X.prog X.w) X.A (eval (.Call (.Name c np) [] [] zf) X.env) (λv s1=>∃a t dx,v=.ref a/\s1.heap.get? C=some (excClassObj nm qn C N bs bm true sn sub ab col dd k0 k1 k2 k3 k5 "ValueError.__new__")/\
   s1.heap.get? a=some {cls:=.ref C,dict:=dx,data:=.fields #[.ref t,.none,.none,.none,.bool false,.none]}/\X.xe (.ref a) s1) X.xe s:=by
  refine M3 (r_1 I hg M.glob ?_ hdb);refine callWith_K0 I.kIn M.kp ?_;have KX:=I.kIn;obtain⟨hh,gg,dr,tk,os⟩:=s;refine ci_7 X6 (tl hh KX) (KX _ _ lc) (hn hh KX) hi λh' a me za=> ?_;obtain⟨kk,new,t,et,_,_⟩:=me;have I2:Inv X zd σ H ⟨h',gg,dr,tk,os⟩:=I.kept (h':=h') (t':=tk) kk;refine⟨a,t,none,rfl,I2.kIn _ _ lc,et, ?_⟩;exact l1 zd σ H H ⟨hh,gg,dr,tk,os⟩ ⟨h',gg,dr,tk,os⟩ a C none _ _ I I2 et rfl rfl rfl rfl rfl (I.hok.fresh za) za ⟨⟨c,[],[]⟩,G,E.st.gh,.bare M.at_,q σ G H O E (Same.refl _)⟩
 refine A7 (P6 (bc_1 hB (hr.hd rfl) (A7 (F3 mk (λv s3 h3=>A7 (P6 (F0 h3))) λ_ _ x=>x))))
end
end L3
namespace L3
open PySem L2
variable{K:Frag}{fd:FuncData}{mg:AB}{us:List Value}{base:Heap}{H:Hp}{X:Cx}{pos:Pos}{v:V}
abbrev Ai{a b:Prop}(x:a)(y:b):a/\b:=⟨x,y⟩
def An:=Ai @Ap.eq_1 (Ai @Ba.eq_1 (Ai @Ag.eq_1 (Ai @Ak.eq_1 (Ai @gsome.eq_1 (Ai @give1.eq_1 (Ai @ZA6.{0,0} (Ai @List.foldl_nil.{0,0} (Ai @As.eq_1 (Ai @Cb.eq_1 (Ai @Bl.eq_1 (Ai @sExpr.eq_1 (Ai @Ar.eq_1 (Ai @Aw.eq_1 (Ai @Bj.eq_1 (Ai @gall.eq_1 (Ai @do_2 (Ai @do_3 (Ai @do_4 (Ai @do_5 (Ai @do_6 (Ai @do_7 (Ai @dc_2 (Ai @dc_3 (Ai @dc_4 (Ai @Ae.eq_1 (Ai @Aa.eq_1 (Ai @eC.eq_1 (Ai @Ah.eq_1 (Ai @Ay.eq_1 (Ai @Cc.eq_1 (Ai @Cc.eq_2 (Ai @Cc.eq_3 (Ai @Cc.eq_4 (Ai @Cc.eq_5 (Ai @Cc.eq_6 (Ai @Cc.eq_7 (Ai @Ea.eq_1 (Ai @Ea.eq_2 (Ai @At.eq_1 (Ai @Bi.eq_1 (Ai @R.calm_ok (Ai @R.calm_no (Ai @R.calm_ex (Ai @Eg.eq_1 (Ai @Eg.eq_2 (Ai @Eg.eq_3 (Ai @Eg.eq_4 (Ai @Eg.eq_5 (Ai @eAttr.eq_1 (Ai @eIsC.eq_1 (Ai @Fm.eq_1 (Ai @Fm.eq_2 (Ai @nonB.eq_1 (Ai @nonB.eq_2 (Ai @Ac.eq_1 (Ai @Ab.eq_1 (Ai @Dy.eq_1 (Ai @By.eq_1 (Ai @eIf.eq_1 (Ai @eAnd.eq_1 (Ai @eOr.eq_1 (Ai @eNot.eq_1 (Ai @Cj.eq_1 (Ai @El.eq_1 (Ai @Cd.eq_1 (Ai @eIs.eq_1 (Ai @bo_5 (Ai @bw_2 (Ai @bo_6 (Ai @bo_7 (Ai @bo_8 (Ai @bo_9 (Ai @bi_3 (Ai @bp_0 (Ai @bi_4 (Ai @bi_5 (Ai @bi_6 (Ai @bi_7 (Ai @bp_1 (Ai @bw_3 (Ai @bp_2 (Ai @bp_3 (Ai @bp_4 (Ai @bp_5 (Ai @bi_8 (Ai @bp_6 (Ai @bi_9 (Ai @bj_0 (Ai @bj_1 (Ai @bj_2 (Ai @ba_1 (Ai @bj_3 (Ai @ba_2 (Ai @ba_3 (Ai @ba_4 (Ai @ba_5 (Ai @eSlice.eq_1 (Ai @oNone.eq_1 (Ai @oSome.eq_1 (Ai @intPart.eq_1 (Ai @intPart.eq_2 (Ai @eMeth.eq_1 (Ai @eMeth0.eq_1 (Ai @tyD.eq_1 (Ai @tyD.eq_2 (Ai @tyD.eq_3 (Ai @tyD.eq_4 (Ai @Fb.eq_1 (Ai @Ez.eq_1 (Ai @Fo.eq_1 (Ai @Fo.eq_2 (Ai @Fo.eq_3 (Ai @Fo.eq_4 (Ai @R.bind_ok (Ai @R.bind_no (Ai @R.bind_ex (Ai @W.d_sh (Ai @W.d_ow (Ai @B3.{0,0} (Ai @N7.{0,0} (Ai @P9.{0} (Ai @R1.{0} (Ai @D8.{0} (Ai @K8.{0} (Ai @List.replicate_zero.{0} (Ai @A9.{0} (Ai @F9.{0} (Ai @X7.{0} (Ai @List.set_cons_succ.{0} (Ai @M9.{0} (Ai @O0.{0} (Ai @if_true.{1} (Ai @S9.{1} (Ai @Bb.eq_1 (Ai @Bb.eq_2 (Ai @Bb.eq_3 (Ai @Bb.eq_4 (Ai @Bb.eq_5 (Ai @Q6 (Ai @ZB4 (Ai @ZB2 (Ai @Bool.true_and (Ai @Bool.false_and (Ai @S5 (Ai @W1 (Ai @X1 (Ai @gC.eq_1 (@gV.eq_1))))))))))))))))))))))))))))))))))))))))))))))))))))))))))))))))))))))))))))))))))))))))))))))))))))))))))))))))))))))))))))))))))))))))))))))))))))
end L3
namespace L3
open PySem PySem.Spec PyProof.Rows L2
variable{K:Frag}{fd:FuncData}{mg:AB}{us:List Value}{base:Heap}{H:Hp}{X:Cx}{pos:Pos}{v:V}
abbrev HBd(c:Bool)(P:Program)(w:World)(K:Frag)(mg:AB)(base:Heap)(N:List Str)(qual:Str)(st:Stmt)(f:Addr)(k:Nat)(g:FS):Prop:=∀{zp:Value} {A:Around} {outer:List Env} {s:Shared} {H:Hp} {E:XK},(Gc c P w K mg base N qual (Ch st) f zp A outer s H E).calm=c->RoomC c k (Cx.A (Gc c P w K mg base N qual (Ch st) f zp A outer s H E))->(Cx.A (Gc c P w K mg base N qual (Ch st) f zp A outer s H E)).units + 64 < cLine->N.Nodup->Lk (Gc c P w K mg base N qual (Ch st) f zp A outer s H E) (λ_=>EXof K E)->
   BD (Gc c P w K mg base N qual (Ch st) f zp A outer s H E) (λ_=>EXof K E) (Ft st) g
def Dc{c:Bool}{P:Program}{w:World}{x qual:Str}{st:Stmt}{f:Addr}{N ps:List Str}{k:Nat}{g:FS}(F:Fun K x qual st f fd)
  (zj:HBd c P w K mg base N qual st f k g) (S:FnScope N ps (Ch st):=by exact⟨rfl,rfl,rfl,by decide +kernel,rfl,by decide +kernel,by decide +kernel⟩):FnX P w K mg base c (k + 1) f fd ps (Bx K ps.length (Ap N.length g)):=
 fn_D F S λzp A outer s H E hr=>zj rfl hr (RoomC.units hr) S.nd bh_4
def FnAt(K:Frag)(x qual:Str)(st:Stmt)(f:Addr):Prop:=∃fd,Fun K x qual st f fd
def FnAt.mk{x qual:Str}{st:Stmt}{f:Addr}{oc kV dc pm cd ct:Value}{od an:Option Addr}{sl:Array (Option Value)}
  (l:K.lookup f=some ⟨oc,od,.func (fnOf x qual (j_9 st) (Ft st) (Ch st) .none kV dc pm an cd ct),sl⟩) (c:codeIn K cd qual=true) (k:keepIn K (.ref f)=true):FnAt K x qual st f:=⟨_,bu_7 l c k⟩
def FnTop(K:Frag)(x:Str)(st:Stmt):Prop:=∃f,nsIn K mainGlobals x=some (some (.ref f))/\FnAt K x x st f
theorem FnTop.mk{x:Str}{st:Stmt}{f:Addr}{oc kV dc pm cd ct:Value}{od an:Option Addr}{sl:Array (Option Value)}(a:nsIn K mainGlobals x=some (some (.ref f)))
  (l:K.lookup f=some ⟨oc,od,.func (fnOf x x (j_9 st) (Ft st) (Ch st) .none kV dc pm an cd ct),sl⟩) (c:codeIn K cd x=true) (k:keepIn K (.ref f)=true):FnTop K x st:=⟨f,a,FnAt.mk l c k⟩
def FnMet(K:Frag)(C:Addr)(x qual:Str)(st:Stmt):Prop:=∃f,findIn K (.ref C) x=some (some (.ref f))/\FnAt K x qual st f/\keepIn K (.ref f)=true/\isFn K (.ref f)=true
theorem FnMet.mk{C:Addr}{x qual:Str}{st:Stmt}{f:Addr}{oc kV dc pm cd ct:Value}{od an:Option Addr}{sl:Array (Option Value)}(a:findIn K (.ref C) x=some (some (.ref f)))
  (l:K.lookup f=some ⟨oc,od,.func (fnOf x qual (j_9 st) (Ft st) (Ch st) .none kV dc pm an cd ct),sl⟩) (c:codeIn K cd qual=true) (k:keepIn K (.ref f)=true) (i:isFn K (.ref f)=true):FnMet K C x qual st:=⟨f,a,FnAt.mk l c k,k,i⟩
section
variable{X:Cx}{EX:Az}{pos:Pos}
end
section
variable{X:Cx}{EX:Az}{pos:Pos}
end
section
variable{X:Cx}{EX:Az}
end
end L3
namespace PySem
namespace SetTable
structure Cut(xs:Array Nat)(j k:Nat):Prop where
 le:k<=xs.size
 lo:∀i x,i < k->xs[i]? =some x->x < j
 hi:∀i x,k<=i->xs[i]? =some x->j<=x
end SetTable
end PySem
namespace PySem
def vInt:Value->Int
 | .int i _=>i
 |_=>0
section
variable{prog:Program}{w:World}{A:Around}{E:AA}{s:Shared}{led:Bool}{ns:List Int}{a:Addr}
end
end PySem
namespace PySem
open AutoSeq1 (wpAny_loadPart')
namespace F
end F
section
variable{prog:Program}{w:World}{A:Around}{E:AA}{s:Shared}
def Heap.SetIt(h:Heap)(I S:Addr)(f:Value)(i n ep:Nat):Prop:=∃o,h.get? I=some o/\o.cls=.type "set_iterator" /\o.data=.fields #[f,rawInt i,.ref S,rawInt n,rawInt ep]
def Heap.SetIt.ty{I S:Addr}{f:Value}{i n ep:Nat}(x:s.heap.SetIt I S f i n ep):s.TypeIs (.ref I) "set_iterator" :=x.elim λo z=>⟨o,z.1,z.2.1⟩
end
end PySem
namespace PySem
open AutoSeq1 (wpAny_loadPart')
section
variable{prog:Program}{w:World}{A:Around}{R:Result->Shared->Prop}{I S:Addr}{fp wr:List Addr}{G:Array GenState->Array GenState->Prop}{n:Nat}{P:Nat->Value->Prop}{St:Nat->Shared->Prop}{led:Bool}
end
section
variable{prog:Program}{w:World}{A:Around}{E:AA}{s:Shared}
end
end PySem
namespace PySem
open AutoSeq1 (wpAny_loadPart')
section
variable{prog:Program}{w:World}{A:Around}{E:AA}{s:Shared}
end
end PySem
namespace PySem
open AutoSeq1 (wpAny_loadPart')
namespace SetTable
end SetTable
section
variable{prog:Program}{w:World}{A:Around}
end
section
variable{prog:Program}{w:World}{A A':Around}{E:AA}{s:Shared}
structure SetWalk(prog:Program)(w:World)(A':Around)(h:Heap)(I S:Addr)(old:Nat)(ns:List Int):Prop where
 ex:∃(fp:List Addr) (n:Nat) (vals:Array Value) (St:Nat->Heap->Prop),Walks prog w A' I fp [I] n (λi v=>vals[i]? =some v) St/\St 0 h/\(∀b∈fp,b < h.objs.size/\(b=S\/old<=b))/\n=vals.size/\(vals.toList.map vInt).Perm ns/\∀v∈vals.toList,∃i t,v=.int i t
 new:old<=I
end
end PySem
namespace PySem
open AutoSeq1 (wpAny_loadPart')
open PyProof.Rows (IntsAre seqObj sortedHeap)
section
variable{prog:Program}{w:World}{A:Around}{E:AA}{s:Shared}
end
end PySem
namespace L3
open PySem PySem.Spec PyProof.Rows L2
variable{K:Frag}{fd:FuncData}{mg:AB}{us:List Value}{base:Heap}{H:Hp}{X:Cx}{pos:Pos}{v:V}
section
variable{X:Cx}{EX:Az}{a:Expr}{f:FE}{p p' pos pos':Pos}
end
def Inv.retag{zd:AE}{σ:Sg}{s:Shared}(I:Inv X zd σ H s){a:Addr}{u u':HO}(hu:H a=some u)(n1:∀xs,u≠ .tup xs)(n2:∀x,u≠ .own x)(n3:∀ps,u≠ .tbl ps)(nf:∀o v,X.H₀ a≠some (.frz o v))(new:ObjOk X.prog X.w (upd H a u') s.heap a u'):Inv X zd σ (upd H a u') s:=by
 have off:∀b,H b=none->upd H a u' b=none:=λb z=>by
  rw[Ao (λq=>by rw[q,hu]at z;cases z)];exact z
 refine⟨I.ok,I.os,I.bare,⟨I.base.keep,I.base.slot,λb o e n hx=>off b (I.base.free b o e n hx),I.base.there,λb xs e=> ?_,λb o v e=> ?_,λb ps e=> ?_⟩,I.loc,I.cell,off _ I.free,λx c e=>off c (I.freeC x c e),λp hp=> ?_,λb o e=> ?_,I.len⟩
 ·have z:=I.base.tups b xs e;rw[Ao (λq=>by rw[q,hu]at z;cases z;exact n1 _ rfl)];exact z
 ·have z:=I.base.frzs b o v e;rw[Ao (λq=>by subst q;exact nf _ _ e)];exact z
 ·obtain⟨more,z⟩:=I.base.tbls b ps e;exact⟨more,by rw[Ao (λq=>by rw[q,hu]at z;cases z;exact n3 _ rfl)];exact z⟩
 ·obtain⟨z1,z2,z3⟩:=I.pin p hp;exact⟨z1,off _ z2,z3⟩
 ·by_cases hb:b=a
  ·subst hb;rw[Bk]at e;cases e;exact new
  ·rw[Ao hb]at e;refine(I.hok b o e).stay (λ_ _ _ q=>q) (λc z=> ?_) λc xs z=> ?_
   ·rw[Ao (λq=>by rw[q,hu]at z;cases z;exact n2 _ rfl)];exact z
   ·rw[Ao (λq=>by rw[q,hu]at z;cases z;exact n1 _ rfl)];exact z
section
variable{K:Frag}{G:Hp}{a:Addr}{u u':HO}
def isDk(kvs:List (Af×V))(u:HO):Prop:=u=.dK kvs\/∃o,u=.frz o (.dK kvs)
def isDk.rd{kvs:List (Af×V)}(h:isDk kvs u)(e:G a=some u):Rd G a (.dK kvs):=by
 rcases h with rfl|⟨o,rfl⟩
 ·exact .inl e
 ·exact .inr ⟨o,e⟩
def isDk.noL{kvs:List (Af×V)}(h:isDk kvs u)(e:G a=some u){xs:List V}:¬Rd G a (.lst xs)/\¬Rd G a (.tup xs):=by
 rcases h with rfl|⟨o,rfl⟩
 ·exact⟨λr=>by rcases r with r|⟨o,r⟩ <;> (rw[e]at r;cases r),λr=>by rcases r with r|⟨o,r⟩ <;> (rw[e]at r;cases r)⟩
 ·exact⟨λr=>by rcases r with r|⟨o,r⟩ <;> (rw[e]at r;cases r),λr=>by rcases r with r|⟨o,r⟩ <;> (rw[e]at r;cases r)⟩
def isDk.one{kvs bj:List (Af×V)}(h:isDk kvs u)(e:G a=some u)(r:Rd G a (.dK bj)):bj=kvs:=by
 rcases h with rfl|⟨o,rfl⟩ <;> rcases r with r|⟨o,r⟩ <;> (rw[e]at r;cases r;try rfl)
def isDk.noX{kvs:List (Af×V)}(h:isDk kvs u)(e:G a=some u):(∀φ,G a≠some (.ext φ))/\(∀fs,G a≠some (.xd fs))/\∀C dx fs,G a≠some (.ins C dx fs):=by
 rcases h with rfl|⟨o,rfl⟩ <;> exact⟨λ_ z=>(by rw[e]at z;cases z),λ_ z=>(by rw[e]at z;cases z),λ_ _ _ z=>(by rw[e]at z;cases z)⟩
def isDk.noF{kvs:List (Af×V)}(h:isDk kvs u)(e:G a=some u)(o:Obj)(x C:Addr)(dx:Option Addr):G a≠some (.frz o (XO x C dx)):=by
 rcases h with rfl|⟨o,rfl⟩ <;> exact λz=>(by rw[e]at z;cases z)
def cr_0{b:Addr}{v:HO}(h:b≠a)(r:Rd G b v):Rd (upd G a u') b v:=by
 rcases r with r|⟨o,r⟩
 ·exact .inl (by rw[Ao h];exact r)
 ·exact .inr ⟨o,by rw[Ao h];exact r⟩
mutual
theorem Has.tag{kvs:List (Af×V)}(ha:G a=some u)(hd:isDk kvs u)(hd':isDk kvs u'):∀{v:V} {d:D},Has K G v d->Has K (upd G a u') v d
 |_,_,.non=> .non
 |_,_,.bl b=> .bl b
 |_,_,.int i=> .int i
 |_,_,.str x=> .str x
 |_,_,.lst (a:=b) h r=>by
  refine .lst ?_ (HasL.tag ha hd hd' r);rcases h with h|h
  ·exact .inl (cr_0 (λz=>(hd.noL ha).1 (by rw[<-z];exact h)) h)
  ·exact .inr h
 |_,_,.tup (a:=b) h r=>by
  refine .tup ?_ (HasL.tag ha hd hd' r);rcases h with h|h
  ·exact .inl (cr_0 (λz=>(hd.noL ha).2 (by rw[<-z];exact h)) h)
  ·exact .inr h
 |_,_,.exn0 (a:=b) hc h=> .exn0 hc (by rw[Ao (λz=>hd.noF ha _ _ _ _ (by rw[<-z];exact h))];exact h)
 |_,_,.exn1 (a:=b) (d:=e) hc h hx hl r=> .exn1 hc (by rw[Ao (λz=>hd.noF ha _ _ _ _ (by rw[<-z];exact h))];exact h) (by rw[Ao (λz=>(hd.noX ha).2.1 _ (by rw[<-z];exact hx))];exact hx) hl (HasL.tag ha hd hd' r)
 |_,_,.dic (a:=b) h hk r=>by
  have r':=HasL.tag ha hd hd' r
  by_cases hb:b=a
  ·refine .dic ?_ hk r';have e:=hd.one ha (by rw[<-hb];exact h);rw[e,hb];exact hd'.rd Bk
  ·exact .dic (cr_0 hb h) hk r'
 |_,_,.obj (a:=b) hc h hl r=> .obj hc (by rw[Ao (λz=>(hd.noX ha).2.2 _ _ _ (by rw[<-z];exact h))];exact h) hl (HasL.tag ha hd hd' r)
theorem HasL.tag{kvs:List (Af×V)}(ha:G a=some u)(hd:isDk kvs u)(hd':isDk kvs u'):∀{vs:List V} {ds:List D},HasL K G vs ds->HasL K (upd G a u') vs ds
 |_,_,.nil=> .nil
 |_,_,.cons h r=> .cons (Has.tag ha hd hd' h) (HasL.tag ha hd hd' r)
end
end
def Itk(a:Addr)(ob:Obj)(kvs:List (Af×V)):It:=⟨λi H=>H a=some (.frz ob (.dK kvs))/\i < kvs.length,λi H x H'=>H'=H/\∃p,kvs[i]? =some p/\x=kV p.1,λi H=>H a=some (.frz ob (.dK kvs))/\i=kvs.length⟩
def ai_9{P:Program}{w:World}{h:Heap}{a:Addr}{ob:Obj}{kvs:List (Af×V)}(ok:HOk P w H h)(e:H a=some (.frz ob (.dK kvs))){es:Array DictEntry}{ep:Nat}(hd:ob.data=.dict es ep):∃ws,KV kvs ws/\h.DictAt (Dx P w) a ws ep:=by
 obtain⟨g,_,_,ws,kv,o,es',ep',g',c1,c2,c3⟩:=(show ObjOk P w H h a (.frz ob (.dK kvs)) from ok a _ e);rw[g]at g';cases g';rw[hd]at c2;cases c2;exact⟨ws,kv,ob,_,g,c1,hd,c3⟩
def KV.get{kvs:List (Af×V)}{ws:List (Af×Value)}(r:KV kvs ws){i:Nat}{p:Af×V}(e:kvs[i]? =some p):∃x,ws[i]? =some (p.1,x):=by
 have hl:=r.length;have hk:=r.keys;have hi:i < kvs.length:=(B4.mp e).1;obtain⟨q,hq⟩:∃q,ws[i]? =some q:=⟨_,B9 (show i < ws.length by omega)⟩;have e1:(kvs.map (·.1))[i]? =some p.1:=by rw[A8,e];rfl
 have e2:(ws.map (·.1))[i]? =some q.1:=by rw[A8,hq];rfl
 rw[hk,e2]at e1;have e3:q.1=p.1:=F6 e1;exact⟨q.2,by rw[hq,<-e3]⟩
def ad_2{P:Program}{w:World}{tg:Expr}(a it:Addr)(ob:Obj)(kvs:List (Af×V)){es:Array DictEntry}{ep:Nat}(hd:ob.data=.dict es ep):Turn P w K tg (Itk a ob kvs) [it] it (λi h=>h.IsKeyIter it a i kvs.length ep) where
 mem:=by simp
 obj:=λi h st b hb=>by
  have e:b=it:=by simpa using hb
  subst e;obtain⟨o,e,c,d⟩:=st;exact⟨o,e,λv z=>by rw[d]at z;cases z⟩
 keep:=λi h h' st k=>st.at λo e=>k it (by simp) o e
 item:=by
  intro X hP hw hK hc i zd s σ H E I hf st hg;subst hP hw hK;obtain⟨hq,hlt⟩:=hg;obtain⟨ws,kv,da⟩:=ai_9 I.hok hq hd;obtain⟨f0,f1,f2,f3,f4,f5⟩:=hf it (by simp);obtain⟨p,hp⟩:∃p,kvs[i]? =some p:=⟨_,B9 hlt⟩;obtain⟨x,hx⟩:=KV.get kv hp;rw[kv.length]at st;refine wpAny_pyNext_dict_item st da hx λkey h' hk st' sb=> ?_;rw[<-kv.length]at st';have I1:Inv X zd σ H {s with heap:=h'}:=I.turned (t':=s.toks) (λb o hb e=>(sb.2 b hb).trans e) f0 f1 f3 f4 f5;obtain⟨o,e,c,d⟩:=id st';exact⟨key,rfl,bl_9 (s:={s with heap:=h'}) e c d ⋯ ⟨kV p.1,H,I1,cp_8 hk,⟨rfl,p,hp,rfl⟩,st',λb hb=>(hf b hb).1⟩⟩
 done:=by
  intro X hP hw hK hc i zd s σ H E I hf st hg;subst hP hw hK;obtain⟨hq,hg⟩:=hg;subst hg;obtain⟨ws,kv,da⟩:=ai_9 I.hok hq hd;obtain⟨f0,f1,f2,f3,f4,f5⟩:=hf it (by simp);rw[kv.length]at st;exact wpAny_pyNext_dict_end (I.ok.hd hc) st da (by simp) λh' eb=>⟨rfl,I.turned (t':=s.toks) (λb o hb e=>eb b o hb e) f0 f1 f3 f4 f5⟩
 self:=λ_ _ _ _ _ st h=>wpAny_pyIter_keyiter st h
def du_1:D->R (List D)
 | .dic kds=> .ok (kds.map λp=>kD p.1)
 |_=> .no
def Fk(f:FE):FI:=λ δ=>(f δ).bind λw=>du_1 w.d
section
variable{X:Cx}{EX:Az}{pos:Pos}
def ci_8{elt iter tg:Expr}{ifs:List Expr}{scope:Scope}{N':List Str}{f0:FE}{fg:Ga}{p:FT}{f:FE}{m:Nat}(hx0:∀e s,¬X.xe e s)(hc:X.calm=true)(hi:ED X Bt iter f0)(hk:scope.kind=.function)(hb:w_0 scope.names X.env.scope.names X.N N'=true)
  (hm:N'.length=X.N.length + m)
  (hin:∀C s0 H0 fp pn,GC (Cr X scope (Bz X.env.cells scope.names []) N' C s0 H0 fp pn) Bt tg fg/\CTs (Cr X scope (Bz X.env.cells scope.names []) N' C s0 H0 fp pn) Bt ifs p/\ED (Cr X scope (Bz X.env.cells scope.names []) N' C s0 H0 fp pn) Bt elt f)
  (hs:∀x,foldedSetIterable iter X.env x=pure x:=by intro _;rfl):ED X Bt (.ListComp elt [⟨tg,iter,ifs,0⟩] scope pos) (Ci m (Fk f0) fg p f):=by
 intro zd s σ H Q I q;obtain⟨G,δ,g0,h0,o⟩:=q;rw[eval_ListComp];have n:=aa_9 I.ok hk hb
 
 obtain⟨w,kds,ew,ed⟩:∃w kds,f0 δ=.ok w/\w.d=.dic kds:=by
  unfold Ci Fk at o;cases e:f0 δ with
  |ok w=>
   rw[e]at o;simp only[R.bind_ok]at o;cases e2:w.d with
   |dic kds=>exact⟨w,kds,rfl,e2⟩
   |_=>rw[e2]at o;exact False.elim o
  |ex x=>rw[e]at o;exact False.elim o
  |no=>rw[e]at o;exact False.elim o
 have ek:Fk f0 δ=.ok (kds.map λp=>kD p.1):=by
  unfold Fk;rw[ew,R.bind_ok,ed];rfl
 let Z:Hp->Hp->Prop:=λG2 H2=>∃(a:Addr) (ob:Obj) (kvs:List (Af×V)) (G1 H1:Hp),Step G H G1 H1/\((G2=G1/\H2=H1)\/(G1 a=some (.dK kvs)/\(∀o v,X.H₀ a≠some (.frz o v))/\G2=upd G1 a (.frz ob (.dK kvs))/\H2=upd H1 a (.frz ob (.dK kvs))))
 refine P7 (use:=none) rfl hs n.clos n.kind n.names (am_2 (RR:=λzn C=>compPost (model X.prog X.w) X.A X.xe none (EP X zd σ Q) zn C) hx0 (B:=bc_7) hk hb hm hin I (Z:=Z) (fi:=Fk f0) (δ:=δ) (λG2 H2 z=> ?_) (λ_ _ _ _ _ _=>hc) ?_ ?_ λDa C s1 G2 H2 G' H' vs rs e Io hm' fc z st h1 h2 h3 rl=> ?_)
 ·obtain⟨a,ob,kvs,G1,H1,st,z⟩:=z;rcases z with⟨rfl,rfl⟩|⟨ga,_,rfl,rfl⟩
  ·exact⟨st.gh,h0.mono st.gg⟩
  ·refine⟨s_5 st.gh _ _,(h0.mono st.gg).len,λi d e=> ?_⟩;obtain⟨v,e1,r⟩:=(h0.mono st.gg).get i d e;exact⟨v,e1,Has.tag ga (.inl rfl) (.inr ⟨ob,rfl⟩) r⟩
 ·refine Bc (hi zd s σ H (λv H1=>∃G1,Step G H G1 H1/\Has X.K G1 v w.d) I ⟨G,δ,g0,h0,by rw[ew];exact WP.intro λv G1 H1 st r=>⟨G1,st,r⟩⟩) λu s1 ⟨v,H1,I1,r1,G1,st,r⟩=> ?_;rw[ed]at r;cases r with
  |dic hh hk' r=>
   rename_i a kvs;cases r1;obtain⟨z,lo,ws,kv,o,es,ep,g1,c1,c2,c3⟩:=q_8 I1.hok (Same.rdD st.gh hh);have da:s1.heap.DictAt (Dx X.prog X.w) a ws ep:=⟨o,es,g1,c1,c2,c3⟩;refine wpAny_pyIter_dict lo da ?_;have I2:=I1.kept (t':=s1.toks) (h':=s1.heap.push {cls:=.type "dict_keyiterator",data:=.fields #[.ref a,.int 0 0,.int ws.length 0,.int ep 0]}) λb o e=>A4 _ e;have tn0:(s1.heap.push {cls:=.type "dict_keyiterator",data:=.fields #[.ref a,.int 0 0,.int ws.length 0,.int ep 0]}).IsKeyIter s1.heap.objs.size a 0 kvs.length ep:=⟨_,B8 _ rfl,rfl,by rw[kv.length];rfl⟩;have zk:(kds.map λp=>kD p.1).length=kvs.length:=by
    have:=K5 List.length hk';rw[A3,A3]at this;rw[A3];exact this.symm
   have itd:∀G2:Hp,G2 a=some (.frz o (.dK kvs))->ItD X.K G2 (Itk a o kvs) (kds.map λp=>kD p.1):=λG2 ga G' H' s1' s2' i=>by
    have gH:H' a=some (.frz o (.dK kvs)):=s2' _ _ (s1' _ _ ga);refine⟨λd e=>⟨⟨gH, ?_⟩,λx H'' y=> ?_⟩,λe=>⟨gH,by omega⟩⟩
    ·have:=(B4.mp e).1;omega
    ·obtain⟨rfl,q,hq,rfl⟩:=y;refine⟨G',Step.refl s2', ?_⟩;rw[A8]at e;obtain⟨q',hq',rfl⟩:=E7.mp e;have e1:(kvs.map (·.1))[i]? =some q.1:=by rw[A8,hq];rfl
     have e2:(kds.map (·.1))[i]? =some q'.1:=by rw[A8,hq'];rfl
     rw[hk',e2]at e1;have e3:q'.1=q.1:=F6 e1;rw[e3];exact am_7 _
   have fr:∀H2:Hp,H2 s1.heap.objs.size=none->∀b∈ [s1.heap.objs.size],Gb X zd H2 b:=λH2 hn b hb=>by
    have e:b=s1.heap.objs.size:=by simpa using hb
    subst e;exact I1.fpOk (B5 _) hn
   have free:=I1.hok.fresh (B5 s1.heap.objs.size);rcases hh with hh|⟨o',hh⟩
   ·have hH:=st.gh _ _ hh;have nf:∀o v,X.H₀ a≠some (.frz o v):=λo v e=>by
     have:=I1.base.frzs a o v e;rw[hH]at this;cases this
    have ok:ObjOk X.prog X.w (upd H1 a (.frz o (.dK kvs))) (s1.heap.push {cls:=.type "dict_keyiterator",data:=.fields #[.ref a,.int 0 0,.int ws.length 0,.int ep 0]}) a (.frz o (.dK kvs)):=⟨A4 _ g1,z,lo,ws,kv,o,es,ep,A4 _ g1,c1,c2,c3⟩;have I3:=Inv.retag I2 hH (λ_ z=>by cases z) (λ_ z=>by cases z) (λ_ z=>by cases z) nf ok;refine⟨_,_,_,Itk a o kvs,_,_,upd G1 a (.frz o (.dK kvs)),rfl,I3,Turn.z (ad_2 a _ o kvs c2),tn0,fr _ ?_,ek,⟨a,o,kvs,G1,H1,st,.inr ⟨hh,nf,rfl,rfl⟩⟩,itd _ Bk⟩;rw[Ao (λz=>by rw[z,hH]at free;cases free)];exact free
   ·have hH:=st.gh _ _ hh;obtain⟨g2,_⟩:=(show ObjOk X.prog X.w H1 s1.heap a (.frz o' (.dK kvs)) from I1.hok a _ hH);rw[g1]at g2;cases g2;exact⟨_,_,_,Itk a o kvs,H1,_,G1,rfl,I2,Turn.z (ad_2 a _ o kvs c2),tn0,fr _ free,ek,⟨a,o,kvs,G1,H1,st,.inl ⟨rfl,rfl⟩⟩,itd _ hh⟩
 ·cases e:Ci m (Fk f0) fg p f δ with
  |ok w=>trivial
  |ex x=>rw[e]at o;exact o
  |no=>rw[e]at o;exact o
 ·rw[e]at o;obtain⟨mm,hnm⟩:=hm';obtain⟨c0,c1,c2,c3,c4,c5⟩:=fc;obtain⟨a,ob,kvs,G1,H1,st1,z⟩:=z;rcases z with⟨rfl,rfl⟩|⟨ga,nf,rfl,rfl⟩
  ·exact⟨mm,hnm,λh' sb=>⟨.ref Da,H',Io.turned (t':=s1.toks) (λb ob hb e=>(sb.2 b hb).trans e) c0 c1 c3 c4 c5,rfl,o (.ref Da) (λb=>b=Da) G' H' (st1.trans st) (λa e=>by subst e;exact⟨st1.hh.free h1,h3,by rw[h2];simp⟩) (.list h2 rfl rl)⟩⟩
  ·have gF:G' a=some (.frz ob (.dK kvs)):=st.gg _ _ Bk;have hF:H' a=some (.frz ob (.dK kvs)):=st.hh _ _ Bk;have hH1:H1 a=some (.dK kvs):=st1.gh _ _ ga;have nDa:Da≠a:=λz=>by rw[z,Bk]at h1;cases h1
   have nC:C≠a:=λz=>by rw[z,hF]at c0;cases c0
   obtain⟨_,okd⟩:=(show ObjOk X.prog X.w H' s1.heap a (.frz ob (.dK kvs)) from Io.hok a _ hF);have I4:Inv X zd σ (upd H' a (.dK kvs)) s1:=Inv.retag Io hF (λ_ z=>by cases z) (λ_ z=>by cases z) (λ_ z=>by cases z) nf okd;have stA:Step G H (upd G' a (.dK kvs)) (upd H' a (.dK kvs)):=by
    refine⟨λb o z=> ?_,s_5 st.gh _ _,λb o z=> ?_,λb z1 z2=> ?_⟩
    ·have z1:=st1.hh _ _ z
     by_cases hb:b=a
     ·subst hb;rw[hH1]at z1;rw[Bk];exact z1
     ·rw[Ao hb];exact st.hh _ _ (by rw[Ao hb];exact z1)
    ·have z1:=st1.gg _ _ z
     by_cases hb:b=a
     ·subst hb;rw[ga]at z1;rw[Bk];exact z1
     ·rw[Ao hb];exact st.gg _ _ (by rw[Ao hb];exact z1)
    ·have g1:=st1.nw b z1 z2;have hb:b≠a:=λq=>by rw[q,ga]at g1;cases g1
     rw[Ao hb];exact st.nw b (by rw[Ao hb];exact g1) (by rw[Ao hb];exact λq=>z2 (st1.hh.free q))
   have h2':upd H' a (.dK kvs) Da=some (.lst vs):=by rw[Ao nDa];exact h2
   refine⟨mm,hnm,λh' sb=>⟨.ref Da,_,I4.turned (t':=s1.toks) (λb ob hb e=>(sb.2 b hb).trans e) (by rw[Ao nC];exact c0) c1 c3 c4 c5,rfl,o (.ref Da) (λb=>b=Da) _ _ stA (λx e=> ?_) (.list h2' rfl (HasL.tag gF (.inr ⟨ob,rfl⟩) (.inl rfl) rl))⟩⟩;subst e;refine⟨st1.hh.free (by rw[Ao nDa]at h1;exact h1),by rw[Ao nDa];exact h3,by rw[h2'];simp⟩
def cr_1{elt iter tg:Expr}{ifs:List Expr}{scope:Scope}{N':List Str}{f0:FE}{fg:Ga}{p:FT}{f:FE}{m:Nat}(hc:X.calm=true)(hi:ED X.nox Bt iter f0)(hk:scope.kind=.function)(hb:w_0 scope.names X.env.scope.names X.N N'=true)
  (hm:N'.length=X.N.length + m)
  (hin:∀C s0 H0 fp pn,GC (Cr X scope (Bz X.env.cells scope.names []) N' C s0 H0 fp pn) Bt tg fg/\CTs (Cr X scope (Bz X.env.cells scope.names []) N' C s0 H0 fp pn) Bt ifs p/\ED (Cr X scope (Bz X.env.cells scope.names []) N' C s0 H0 fp pn) Bt elt f)
  (hs:∀x,foldedSetIterable iter X.env x=pure x:=by intro _;rfl):ED X EX (.ListComp elt [⟨tg,iter,ifs,0⟩] scope pos) (Ci m (Fk f0) fg p f):=
 PE.imp (PE.nox (ci_8 (X:=X.nox) (λ_ _ z=>z) hc hi hk hb hm hin hs)) λ σ H Q ⟨G,δ,g0,h0,o⟩=>by
  refine⟨G,δ,g0,h0, ?_⟩;cases e:Ci m (Fk f0) fg p f δ with
  |ok w=>rw[e]at o;exact o
  |ex x=>exact(ai_2 e).elim
  |no=>rw[e]at o;exact o
end
def gcM{EX:Az}{i:Nat}{x:Str}(hN:decide X.N.Nodup=true:=by rfl')(hi:X.N[i]? =some x:=by rfl)(hx:Loc X.env.scope x:=by trivial)
  (hf:X.fn x=true\/X.env.scope.names.lookup x=some .local:=by trivial):GC X EX (.Name x pos) (gC i):=db_0 (N4 hN) hi hx hf
structure BaseI(K:Frag)(B f:Addr):Prop where
 sp:specialIn K (.ref B) "__getattribute__" =some (some (.builtin "type.__getattribute__"))
 rd:readsIn K B (.type "type")=true
 at_:findCls K (.ref B) (.type "type") "__init__" =some (.val (.ref f))
 kp:keepIn K (.ref f)=true
section
variable{X:Cx}{EX:Az}{e:Expr}{es:List Expr}{x:Str}{pp zg pos:Pos}{cc:Bool}{k k' n:Nat}{ps:List Str}
end
def Step.wr{G H G' H':Hp}{a:Addr}{o:HO}(s:Step G H G' H')(n:H a=none)(g:G' a=none):Step G H G' (L2.upd H' a o):=
 ⟨λb u z=>by rw[Ao (Et z n)];exact s.hh b u z,λb u z=>by rw[Ao (Et z g)];exact s.gh b u z,s.gg,s.nw⟩
structure OInst(K:Frag)(C:Addr):Prop where
 pg:plainGet K C "__class__" =true
 hd:hasDictIn K C=true
 cl:findIn K (.ref C) "__class__" =some (some (.builtin "object.__class__"))
 gs:specialIn K (.builtin "object.__class__") "__get__" =some (some (.builtin "getset_descriptor.__get__"))
 tk:takesIn K (.builtin "object.__class__")=some true
 ob:mroIn K C (.type "object")=some true
section
variable{X:Cx}{EX:Az}{zd:AE}{σ:Sg}{G H:Hp}{s:Shared}
variable{a:Expr}{fo:FE}{tb:List (Str×Bool)}{pp pos:Pos}
end
section
variable{X:Cx}{EX:Az}{pos:Pos}
def gNs:List Nat->List D->SE->R SE
 | [],[],Δ=> .ok Δ
 |i::is,d::ds,Δ=>gNs is ds (Δ.set i (.sh d))
 |_,_,_=> .no
def bd_1(is:List Nat):FG:=λd Δ=>match d with
 | .tup ds=>gNs is ds Δ
 |_=> .no
theorem cb_7:∀(is:List Nat) (ds:List D) (Δ Δ':SE),gNs is ds Δ=.ok Δ'->ds.length=is.length
 | [],[],_,_,_=>rfl
 |_::is,_::ds,_,_,e=>K5 Nat.succ (cb_7 is ds _ _ e)
 | [],_::_,_,_,e=>by cases e
 |_::_,[],_,_,e=>by cases e
def tGs(K:Frag)(is:List Nat):TGs:=λvs σ H Q=>∃H0 G0 G Δ O ds Δ',Ev K H0 G0 G H σ Δ O/\HasL K G vs ds/\gNs is ds Δ=.ok Δ'/\∀σ' G' H' O',Ev K H0 G0 G' H' σ' Δ' O'->Same G G'->Q σ' H'
def cr_2:PGs X [] (tGs X.K []):=λzd s σ H vs us Q I r ⟨H0,G0,G,Δ,O,ds,Δ',E,rl,e,q⟩=>bf_8 zd s σ H vs us Q I r (by
 cases rl with
 |nil=>cases e;exact⟨rfl,q σ G H O E (Same.refl _)⟩
 |cons _ _=>cases e)
def ad_3{i:Nat}{x:Str}{p:Pos}{ts:List Expr}{is:List Nat}(hN:X.N.Nodup)(h2:PGs X ts (tGs X.K is))(hi:X.N[i]? =some x:=by rfl)(hx:Loc X.env.scope x:=by trivial)
  (hf:X.fn x=true\/X.env.scope.names.lookup x=some .local:=by trivial)
  (hs:(assignEach (.Name x p::ts) X.env).map (·.2)=assign (.Name x p) X.env::(assignEach ts X.env).map (·.2):=by rfl):PGs X (.Name x p::ts) (tGs X.K (i::is)):=
 λzd s σ H vs us Q I r ⟨H0,G0,G,Δ,O,ds,Δ',E,rl,e,q⟩=>aa_2 (x_3 hN hi hx hf) h2 hs zd s σ H vs us Q I r (by
  cases rl with
  |nil=>cases e
  |cons h rl=>exact⟨_,_,rfl,H0,G0,G,_,O,_,Δ',E.put h,rl,e,q⟩)
theorem HasL.len{G:Hp}:∀{vs:List V} {ds:List D},HasL K G vs ds->vs.length=ds.length
 |_,_,.nil=>rfl
 |_,_,.cons _ r=>K5 Nat.succ r.len
def cb_8{es:List Expr}{is:List Nat}{k:Nat}(hc:X.calm=true)(h:PGs X es (tGs X.K is))(hn:(assignEach es X.env).length=is.length:=by rfl)(hst:(assignEach es X.env).findIdx? (·.1)=none:=by rfl):
  GD X EX (.Tuple es k pos) (bd_1 is):=
 PG.imp (bt_3 hc h hn hst) λv σ H Q ⟨H0,G0,G,Δ,O,d,E,r,q⟩=>by
  cases r with
  | @tup a vs ds h r=>
   simp only[bd_1]at q;cases e:gNs is ds Δ with
   |ok Δ'=>
    rw[e]at q;exact⟨_,_,rfl,Same.tupS E.st.gh h,r.len.trans (cb_7 _ _ _ _ e),H0,G0,G,Δ,O,_,Δ',E,r,e,q⟩
   |ex x=>rw[e]at q;exact q.elim
   |no=>rw[e]at q;exact q.elim
  |_=>exact False.elim q
end
section
variable{P:Program}{w:World}{K:Frag}{mg:AB}{base:Heap}{cc:Bool}{k n:Nat}{ps:List Str}{st:Stmt}{Fn:AF}
def bd_2{m q c:Str}{C:Addr}(xa:ClsAt K c C)(cl:Cls K C)(W:FnMet K C m q st)(ok:∀{f:Addr} {fd:FuncData},Fun K m q st f fd->FnX P w K mg base cc k f fd ps (Bx K (n + 1) Fn)/\Binds K fd ps []):MethD P w K mg base cc k n m c Fn:=by
 obtain⟨f,a,⟨fd,F⟩,kp,i⟩:=W;exact⟨⟨C,f,fd,ps,xa,cl,⟨a,i,kp⟩,(ok F).1,(ok F).2⟩⟩
def Eb{x:Str}{h:Heap}(X:K.In h)(G:h.Ns mainGlobals mg)(W:FnTop K x st)(ok:∀{f:Addr} {fd:FuncData},Fun K x x st f fd->FnX P w K mg base cc k f fd ps (Bx K ps.length Fn)/\Binds K fd ps []):FnD P w K mg base cc x k ps Fn:=by
 obtain⟨f,a,fd,F⟩:=W;exact dn_1 F (mg_of X G a) (ok F).2 (ok F).1
end
section
variable{X:Cx}{zd:AE}{σ:Sg}{H:Hp}{s:Shared}{a:Addr}{kvs:List (Af×V)}{k:Af}{u:Value}{A:Around}{E:AA}
def cr_3{x:V}{r:Value}{Q:AA}(I:Inv X zd σ H s)(e:H a=some (.dK kvs))(ry:RelV (kV k) u)(rx:RelV x r)(l:kvs.length < sizeLine)
  (h1:∀v w' s',Co kvs k=some v->Inv X zd σ H s'->RelV v w'->Q w' s') (h2:Co kvs k=none->∀s',Inv X zd σ (upd H a (.dK (Em kvs k x))) s'->Q r s'):
  wpAny (model X.prog X.w) A (call (.builtin "dict.setdefault") [.ref a,u,r]) Q E s:=by
 obtain⟨z,hd,vs,rel,dd⟩:=bz_4 I.hok e;have hl:(Em kvs k x).length<=sizeLine:=by have:=u_4 kvs k x;omega
 have hr:=rel.val k;refine T9 W4 dd.typeIs PySem.F.entry_dict_setdefault (PySem.F.args_dict_setdefault_3 _ _ _) (PySem.kt_meets_setdefault (Dx X.prog X.w) a (ah_8 ry) hd r) ⟨vs,dd,by rw[<-rel.length];exact z,λw' hw=> ?_,λhn h' dd' hs=> ?_⟩
 ·cases hv:Co kvs k with
  |none=>
   have hn:valueAt vs k=none:=RelO.none_of (by rw[<-hv];exact hr);rw[hn]at hw;cases hw
  |some v=>
   obtain⟨w2,hw2,rv⟩:=RelO.some_of (v:=v) (o:=valueAt vs k) (by rw[<-hv];exact hr);rw[hw2]at hw;cases hw;exact h1 v w' _ hv (I.tok _) rv
 ·have he:∃q,h'.get? a=some q:=let⟨q,_,_,hq,_⟩:=dd';⟨q,hq⟩;refine h2 ?_ _ (ah_9 I (by rw[e];exact True.intro) hs he (bh_0 hl hd (rel.put k rx) dd'));cases hv:Co kvs k with
  |none=>rfl
  |some v=>
   obtain⟨w2,hw2,rv⟩:=RelO.some_of (v:=v) (o:=valueAt vs k) (by rw[<-hv];exact hr);rw[hw2]at hn;cases hn
end
def du_2(td ty tx:TE):TE:=λ σ H Q=>td σ H λx H1=>∃a,x=.ref a/\IsD H1 a/\ty σ H1 λy H2=>tx σ H2 λz H3=>∃kvs k,H3 a=some (.dK kvs)/\y=kV k/\kvs.length < sizeLine/\
 (∀v,Co kvs k=some v->Q v H3)/\(Co kvs k=none->Q z (upd H3 a (.dK (Em kvs k z))))
section
variable{X:Cx}{EX:Az}{o e f:Expr}{zg zf pos:Pos}{td ty tx:TE}
def dd_1(ho:PE X o td)(he:PE X e ty)(hf:PE X f tx)(m:M2 X o "setdefault" zg e f zf):PE X (.Call (.Attribute o "setdefault" zg) [e,f] [] zf) (du_2 td ty tx):=by
 intro zd s σ H Q I h;refine Y2 m.base m.few m.line N9 W4 PySem.F.type_dict_setdefault (Bc (ho zd s σ H _ I h) λu s1 ⟨x,H1,I1,rx,a,ex,d,q1⟩=> ?_);subst ex;obtain rfl:u=Value.ref a:=rx;obtain⟨t1,t2,_⟩:=bv_0 I1 d;refine⟨t1,t2, ?_⟩;rw[m.trees];refine L0 rfl (R7 (M0 (Bc (he zd s1 σ H1 _ I1 q1) λiv s2 ⟨y,H2,I2,ry,q2⟩=>
  M0 (Bc (hf zd s2 σ H2 _ I2 q2) λfv s3 ⟨z,H3,I3,rz,kvs,k,ea,ey,l,q3,q4⟩=>P3 ?_))))
 subst ey;exact cr_3 I3 ea ry rz l (λv w' s4 hv I4 rv=>⟨v,_,I4,rv,q3 v hv⟩) λhn s4 I4=>⟨z,_,I4,rz,q4 hn⟩
end
def sdK(zm:List (Af×Tn))(k:Af):List (Af×Tn):=match Bh zm k with
 |some _=>zm
 |none=>zm ++ [(k,.lst [])]
section
variable{X:Cx}{EX:Az}{pos:Pos}
theorem bq_1{k:Af}:∀{kvs:List (Af×V)} {zm:List (Af×Tn)},kvs.map (·.1)=zm.map (·.1)->Bh zm k=none->Co kvs k=none
 | [],_,_,_=>rfl
 |_::_,[],e,_=>by simp at e
 |(x,v)::kvs,(y,t)::zm,e,h=>by
  simp only[B3,R3]at e;obtain⟨e1,e2⟩:=e;subst e1
  by_cases q:x=k
  ·exfalso;unfold Bh at h;rw[Q7 (by simpa using q)]at h;cases h
  ·rw[i_6 q];refine bq_1 e2 ?_;unfold Bh at h⊢
   rwa[Q8 (by simpa using q)]at h
end
section
variable{P:Program}{w:World}{K:Frag}{mg:AB}{base:Heap}{cc:Bool}{j k n:Nat}{ps:List Str}{st:Stmt}{Fn:AF}{C:Addr}{m c q f:Str}
def XB(K:Frag)(C:Addr)(q f:Str)(st:Stmt):Prop:=keepIn K (.ref C)=true/\XCls K C/\findIn K (.ref C) f=some none/\∃(fI:Addr) (fd:FuncData) (o:Obj),XMk K C fI/\K.lookup fI=some o/\o.cls=.type "function" /\Fun K "__init__" q st fI fd
def XB.mk{fI N L:Addr}{nm qn:Str}{bs sub:List Value}{sn:List Str}{ab:Bool}{col:Option Bool}{dd od ddL odL odI an:Option Addr}{k0 k1 k2 k3 k5:Option Value}{oc c0 oL kV dc pm cd ct:Value}{es esL:Array DictEntry}{ep epL:Nat}{sl sl0 slL slI:Array (Option Value)}{cdL:ClassData}
  (lc:K.lookup C=some (excClassObj nm qn C N bs (.ref L::bmVE) true sn sub ab col dd k0 k1 k2 k3 k5 "ValueError.__new__")) (ln:K.lookup N=some ⟨oc,od,.dict es ep,sl⟩) (_:findIn K (.ref C) "__init__" =some (some (.ref fI))) (kn:m_6 es=true) (hi:nsFind es "__init__" =some (.ref fI))
  (ll:K.lookup L=some ⟨c0,ddL,.cls cdL,sl0⟩) (lm:K.lookup cdL.ns=some ⟨oL,odL,.dict esL epL,slL⟩) (km:m_6 esL=true) (hL:nsFind esL "__init__" =none) (sa:findIn K (.ref C) "__setattr__" =some (some (.builtin "object.__setattr__"))) (nf:findIn K (.ref C) f=some none) (kp:keepIn K (.ref C)=true)
  (l:K.lookup fI=some ⟨.type "function",odI,.func (fnOf "__init__" q (j_9 st) (Ft st) (Ch st) .none kV dc pm an cd ct),slI⟩) (cI:codeIn K cd q=true) (kI:keepIn K (.ref fI)=true):XB K C q f st:=
 ⟨kp,dc_6 lc sa,nf,fI,_,_,do_8 lc ln kn hi ll lm km hL,l,rfl,bu_7 l cI kI⟩
def di_3(xa:ClsAt K c C)(gx:mg c=some (.ref C))(b:XB K C q f st)(ok:∀{fI:Addr} {fd:FuncData},Fun K "__init__" q st fI fd->XCls K C->findIn K (.ref C) f=some none->FnX P w K mg base false 1 fI fd ps (an_0 C f)/\Binds K fd ps []):XC P w K mg base c f C:=by
 obtain⟨kp,xc,nf,fI,fd,o,mk,l,e,F⟩:=b;exact⟨xa,gx,kp,xc,fI,fd,ps,o,mk,l,e,(ok F xc nf).1,(ok F xc nf).2⟩
def XB0{N L:Addr}{nm qn:Str}{bs sub:List Value}{sn:List Str}{ab:Bool}{col:Option Bool}{dd od ddL odL:Option Addr}{k0 k1 k2 k3 k5:Option Value}{oc c0 oL:Value}{es esL:Array DictEntry}{ep epL:Nat}{sl sl0 slL:Array (Option Value)}{cdL:ClassData}
  (lc:K.lookup C=some (excClassObj nm qn C N bs (.ref L::bmVE) true sn sub ab col dd k0 k1 k2 k3 k5 "ValueError.__new__")) (ln:K.lookup N=some ⟨oc,od,.dict es ep,sl⟩) (kn:m_6 es=true) (hi:nsFind es "__init__" =none)
  (ll:K.lookup L=some ⟨c0,ddL,.cls cdL,sl0⟩) (lm:K.lookup cdL.ns=some ⟨oL,odL,.dict esL epL,slL⟩) (km:m_6 esL=true) (hL:nsFind esL "__init__" =none) (kp:keepIn K (.ref C)=true):keepIn K (.ref C)=true/\XMk0 K C:=⟨kp,dd_0 lc ln kn hi ll lm km hL⟩
def XB9(K:Frag)(C:Addr):Prop:=keepIn K (.ref C)=true/\XMk0 K C
def cr_4(xa:ClsAt K c C)(gx:mg c=some (.ref C))(b:XB9 K C):XC0 K mg c C:=⟨xa,gx,b.1,b.2⟩
def OInst.mm(pg:plainGet K C Str.empty=true)(hd:hasDictIn K C=true)(cl:findIn K (.ref C) "__class__" =some (some (.builtin "object.__class__")))(gs:specialIn K (.builtin "object.__class__") "__get__" =some (some (.builtin "getset_descriptor.__get__")))(tk:takesIn K (.builtin "object.__class__")=some true)(ob:mroIn K C (.type "object")=some true):OInst K C:=⟨pg,hd,cl,gs,tk,ob⟩
def NoAttr.mk(h:findIn K (.ref C) f=some none):NoAttr K C f:=h
def mto{tb:List (Str×(AF))}(d:MethD P w K mg base cc j n m c Fn)(r:MethT P w K mg base cc k n m tb)(hj:j<=k:=by decide):MethT P w K mg base cc k n m ((c,Fn)::tb):=.one d hj r
def mtn:MethT P w K mg base cc k n m []:=.nil
end
def Gd:HO->Bool
 | .ins _ _ _=>true
 | .dK _=>true
 |_=>false
mutual
def Tn.lends:Tn->Bool
 | .sh _=>true
 | .lst _=>false
 | .tup _=>false
 | .dic zm=>Tn.lendsK zm
 | .obj _ _ ts=>Tn.lendsL ts
def Tn.lendsL:List Tn->Bool
 | []=>true
 |t::ts=>t.lends && Tn.lendsL ts
def Tn.lendsK:List (Af×Tn)->Bool
 | []=>true
 |(_,t)::ts=>t.lends && Tn.lendsK ts
end
theorem Tn.lendsK_eq:∀zm:List (Af×Tn),Tn.lendsL (zm.map (·.2))=Tn.lendsK zm
 | []=>by simp only[N7,Tn.lendsL,Tn.lendsK]
 |(k,t)::zm=>by simp only[B3,Tn.lendsL,Tn.lendsK,Tn.lendsK_eq zm]
mutual
theorem Ow.lend{G H:Hp}:∀{v:V} {t:Tn} {S:AS},Ow K G H v t S->t.lends=true->∃S':AS,(∀b,S' b->S b/\∃o,H b=some o/\Gd o=true)/\Ow K G H v t S'
 |_,_,_,.sh h,_=>⟨λ_=>False,λ_ z=>z.elim,.sh h⟩
 |_,_,_,.lst h ha sub r,e=>by simp only[Tn.lends]at e;cases e
 |_,_,_,.tup h ha sub r,e=>by simp only[Tn.lends]at e;cases e
 |_,_,_,.dic (a:=a) h hk ha sub r,e=>by
  simp only[Tn.lends]at e;obtain⟨S1,f,r'⟩:=OwL.lend r (by rw[Tn.lendsK_eq];exact e);refine⟨λb=>b=a\/S1 b,λb hb=> ?_,.dic h hk (.inl rfl) (λb hb=>⟨.inr hb,(sub b (f b hb).1).2⟩) r'⟩;rcases hb with rfl|hb
  ·exact⟨ha,_,h,rfl⟩
  ·exact⟨(sub b (f b hb).1).1,(f b hb).2⟩
 |_,_,_,.obj (a:=a) hc h hl ha sub r,e=>by
  simp only[Tn.lends]at e;obtain⟨S1,f,r'⟩:=OwL.lend r e;refine⟨λb=>b=a\/S1 b,λb hb=> ?_,.obj hc h hl (.inl rfl) (λb hb=>⟨.inr hb,(sub b (f b hb).1).2⟩) r'⟩;rcases hb with rfl|hb
  ·exact⟨ha,_,h,rfl⟩
  ·exact⟨(sub b (f b hb).1).1,(f b hb).2⟩
theorem OwL.lend{G H:Hp}:∀{vs:List V} {ts:List Tn} {S:AS},OwL K G H vs ts S->Tn.lendsL ts=true->∃S':AS,(∀b,S' b->S b/\∃o,H b=some o/\Gd o=true)/\OwL K G H vs ts S'
 |_,_,_,.nil,_=>⟨λ_=>False,λ_ z=>z.elim,.nil⟩
 |_,_,_,.cons h r dj s1 s2,e=>by
  simp only[Tn.lendsL,D9]at e;obtain⟨A,fA,hA⟩:=Ow.lend h e.1;obtain⟨B,fB,hB⟩:=OwL.lend r e.2;exact⟨λb=>A b\/B b,λb hb=>hb.elim (λz=>⟨s1 b (fA b z).1,(fA b z).2⟩) λz=>⟨s2 b (fB b z).1,(fB b z).2⟩,.cons hA hB (λb x y=>dj b (fA b x).1 (fB b y).1) (λ_ z=> .inl z) λ_ z=> .inr z⟩
end
mutual
def Fa:D->Bool
 | .non=>true
 | .bl _=>true
 | .int _=>true
 | .str _=>true
 | .lst ds=>Ew ds
 | .tup ds=>Ew ds
 |_=>false
def Ew:List D->Bool
 | []=>true
 |d::ds=>Fa d && Ew ds
end
mutual
def m_4:Tn->Bool
 | .sh d=>Fa d
 | .lst ts=>l_6 ts
 | .tup ts=>l_6 ts
 | .dic zm=>y_5 zm
 | .obj _ _ ts=>l_6 ts
def l_6:List Tn->Bool
 | []=>true
 |t::ts=>m_4 t && l_6 ts
def y_5:List (Af×Tn)->Bool
 | []=>true
 |(_,t)::ts=>m_4 t && y_5 ts
end
theorem av_9:∀zm:List (Af×Tn),l_6 (zm.map (·.2))=y_5 zm
 | []=>by simp only[N7,l_6,y_5]
 |(k,t)::zm=>by simp only[B3,l_6,y_5,av_9 zm]
def t_1:W->Bool
 | .sh d=>Fa d
 | .ow d=>m_4 (Tn.of d)
 | .tr t=>m_4 t
open Classical in
def offQ(G:Hp)(S:AS):Hp:=λb=>if S b then none else G b
section
variable{K:Frag}{G H:Hp}{S:AS}
def offQ_sub:Same (offQ G S) G:=λb o e=>by
 unfold offQ at e
 split at e
 ·cases e
 ·exact e
def aj_0{b:Addr}(h:¬S b):offQ G S b=G b:=by unfold offQ;rw[if_neg h]
def bj_5{b:Addr}(h:S b):offQ G S b=none:=by unfold offQ;rw[if_pos h]
def an_2(hs:∀b o,S b->G b=some o->Gd o=true){b:Addr}{o:HO}(e:G b=some o)(n:Gd o=false):offQ G S b=some o:=by
 rw[aj_0 λz=>by have:=hs b o z e;rw[n]at this;cases this];exact e
def cb_9(hs:∀b o,S b->G b=some o->Gd o=true){a:Addr}{u:HO}(h:Rd G a u)(n:Gd u=false):Rd (offQ G S) a u:=by
 rcases h with h|⟨o,h⟩
 ·exact .inl (an_2 hs h n)
 ·exact .inr ⟨o,an_2 hs h rfl⟩
mutual
theorem Has.offQ(hs:∀b o,S b->G b=some o->Gd o=true):∀{v:V} {d:D},Has K G v d->Fa d=true->Has K (L3.offQ G S) v d
 |_,_,.non,_=> .non
 |_,_,.bl b,_=> .bl b
 |_,_,.int i,_=> .int i
 |_,_,.str x,_=> .str x
 |_,_,.lst h r,e=>by
  simp only[Fa]at e;exact .lst (h.elim (λz=> .inl (cb_9 hs z rfl)) .inr) (HasL.offQ hs r e)
 |_,_,.tup h r,e=>by
  simp only[Fa]at e;exact .tup (h.elim (λz=> .inl (cb_9 hs z rfl)) .inr) (HasL.offQ hs r e)
 |_,_,.exn0 _ _,e=>by simp only[Fa]at e;cases e
 |_,_,.exn1 _ _ _ _ _,e=>by simp only[Fa]at e;cases e
 |_,_,.dic _ _ _,e=>by simp only[Fa]at e;cases e
 |_,_,.obj _ _ _ _,e=>by simp only[Fa]at e;cases e
theorem HasL.offQ(hs:∀b o,S b->G b=some o->Gd o=true):∀{vs:List V} {ds:List D},HasL K G vs ds->Ew ds=true->HasL K (L3.offQ G S) vs ds
 |_,_,.nil,_=> .nil
 |_,_,.cons h r,e=>by
  simp only[Ew,D9]at e;exact .cons (Has.offQ hs h e.1) (HasL.offQ hs r e.2)
end
mutual
theorem Ow.offQ(hs:∀b o,S b->G b=some o->Gd o=true):∀{v:V} {t:Tn} {S':AS},Ow K G H v t S'->m_4 t=true->Ow K (L3.offQ G S) H v t S'
 |_,_,_,.sh h,e=>by simp only[m_4]at e;exact .sh (h.offQ hs e)
 |_,_,_,.lst h ha sub r,e=>by simp only[m_4]at e;exact .lst h ha sub (OwL.offQ hs r e)
 |_,_,_,.tup h ha sub r,e=>by simp only[m_4]at e;exact .tup h ha sub (OwL.offQ hs r e)
 |_,_,_,.dic h hk ha sub r,e=>by simp only[m_4]at e;exact .dic h hk ha sub (OwL.offQ hs r (by rw[av_9];exact e))
 |_,_,_,.obj hc h hl ha sub r,e=>by simp only[m_4]at e;exact .obj hc h hl ha sub (OwL.offQ hs r e)
theorem OwL.offQ(hs:∀b o,S b->G b=some o->Gd o=true):∀{vs:List V} {ts:List Tn} {S':AS},OwL K G H vs ts S'->l_6 ts=true->OwL K (L3.offQ G S) H vs ts S'
 |_,_,_,.nil,_=> .nil
 |_,_,_,.cons h r dj s1 s2,e=>by
  simp only[l_6,D9]at e;exact .cons (Ow.offQ hs h e.1) (OwL.offQ hs r e.2) dj s1 s2
end
theorem ExcAt.offQ(hs:∀b o,S b->G b=some o->Gd o=true){cls:Value}{dx:Option Addr}{x:Xn}(h:ExcAt K G cls dx x)(e:Ew x.vs=true):ExcAt K (L3.offQ G S) cls dx x:=by
 cases h with
 |bare hc=>exact .bare hc
 |with_ hc hd hl r=>exact .with_ hc (an_2 hs hd rfl) hl (r.offQ hs e)
end
def t_2(js:List Nat):Nat->SE->DE
 |_,[]=> []
 |n,s::Δ=>(if js.contains n=true then s.any else s.pub)::t_2 js (n + 1) Δ
def Dp(js:List Nat)(Δ:SE):DE:=t_2 js 0 Δ
theorem bd_3(js:List Nat):∀(Δ:SE) (n i:Nat),(t_2 js n Δ)[i]? =(Δ[i]?).map λs=>if js.contains (n + i)=true then s.any else s.pub
 | [],n,i=>by simp only[t_2,List.getElem?_nil,Option.map_none]
 |s::Δ,n,0=>by simp only[t_2,M9,K9,Nat.add_zero]
 |s::Δ,n,i + 1=>by
  simp only[t_2,O0];rw[bd_3 js Δ (n + 1) i,show n + 1 + i=n + (i + 1) by omega]
theorem bd_4(js:List Nat):∀(Δ:SE) (n:Nat),(t_2 js n Δ).length=Δ.length
 | [],_=>rfl
 |s::Δ,n=>by simp only[t_2,A9,bd_4 js Δ]
def k_3(js:List Nat)(Δ:SE):Bool:=js.all λj=>match Δ[j]? with
 |some s=>(match s.own with
  |some t=>t.lends
  |none=>true)
 |none=>true
section
variable{K:Frag}{H0:HB}{G0 G H:Hp}{σ:Sg}{Δ:SE}{O:OS}
def Sl.any_own{s:Sl}{d:D}(e:s.any=some d):s=.sh d\/∃t,s.own=some t/\t.d=d:=by
 cases s with
 |no=>cases e
 |sh d'=>cases e;exact .inl rfl
 |ow d'=>cases e;exact .inr ⟨_,rfl,Tn.of_d _⟩
 |tr t=>cases e;exact .inr ⟨_,rfl,rfl⟩
 |lk d'=>cases e;exact .inr ⟨_,rfl,Tn.of_d _⟩
 |lt t=>cases e;exact .inr ⟨_,rfl,rfl⟩
theorem Ev.lend(E:Ev K H0 G0 G H σ Δ O)(js:List Nat)(hl:k_3 js Δ=true):∃S:AS,(∀b,S b->∃i,O i b)/\(∀b,S b->∃o,H b=some o/\Gd o=true)/\HasS K (Do G H S) σ (Dp js Δ):=by
 let S:AS:=λb=>∃(i:Nat) (s:Sl) (t:Tn) (v:V) (S':AS),Δ[i]? =some s/\s.own=some t/\σ[i]? =some (some v)/\(∀b,S' b->O i b/\∃o,H b=some o/\Gd o=true)/\S' b
 have hS:∀b,S b->∃i,O i b:=λb ⟨i,s,t,v,S',_,_,_,f,hb⟩=>⟨i,(f b hb).1⟩;have sg:Same G (Do G H S):=λb o q=>by
  unfold Do
  split
  ·rename_i hb;obtain⟨i,hi⟩:=hS b hb;rw[(E.out i b hi).1]at q;cases q
  ·exact q
 refine⟨S,hS,λb ⟨i,s,t,v,S',_,_,_,f,hb⟩=>(f b hb).2,by unfold Dp;rw[bd_4];exact E.len,λi d q=> ?_⟩;unfold Dp at q;rw[bd_3,S5]at q;obtain⟨s,es,q⟩:=E7.mp q
 split at q
 ·rename_i hj;rcases Sl.any_own q with rfl|⟨t,to,rfl⟩
  ·obtain⟨v,e1,r⟩:=E.sh i d es;exact⟨v,e1,r.mono sg⟩
  ·obtain⟨v,e1,w⟩:=E.ow i s t es to;have lt:t.lends=true:=by
    have:=K7.mp hl i (R5.mp hj);rw[es]at this;simp only[to]at this;exact this
   obtain⟨S',f,w'⟩:=w.lend lt;refine⟨v,e1,w'.has sg λb o hb hq=> ?_⟩;unfold Do;rw[if_pos ⟨i,s,t,v,S',es,to,e1,f,hb⟩];exact hq
 ·cases s with
  |sh d'=>cases q;obtain⟨v,e1,r⟩:=E.sh i _ es;exact⟨v,e1,r.mono sg⟩
  |_=>cases q
def bq_2(E:Ev K H0 G0 G H σ Δ O){S:AS}(hS:∀b,S b->∃i,O i b):offQ (Do G H S) S=G:=by
 funext b
 by_cases hb:S b
 ·rw[bj_5 hb];obtain⟨i,hi⟩:=hS b hb;exact(E.out i b hi).1.symm
 ·rw[aj_0 hb];unfold Do;rw[if_neg hb]
def cr_5(E:Ev K H0 G0 G H σ Δ O){S:AS}:Same (Do G H S) H:=λb o q=>by
 unfold Do at q
 split at q
 ·exact q
 ·exact E.st.gh b o q
def cr_6{S:AS}(hk:∀b,S b->∃o,H b=some o/\Gd o=true):∀b,S b->∃o,Do G H S b=some o/\Gd o=true:=λb hb=>by
 obtain⟨o,e,l⟩:=hk b hb;exact⟨o,by unfold Do;rw[if_pos hb];exact e,l⟩
end
theorem Step.offQ{G H G2 H2:Hp}{S:AS}(st:Step G H G2 H2):Step (L3.offQ G S) H (L3.offQ G2 S) H2:=
 ⟨st.hh,λb o q=>st.gh b o (offQ_sub b o q),λb o q=>by
  by_cases hb:S b
  ·rw[bj_5 hb]at q;cases q
  ·rw[aj_0 hb]at q⊢;exact st.gg b o q,λb n z=>by
  by_cases hb:S b
  ·exact bj_5 hb
  ·rw[aj_0 hb]at n⊢;exact st.nw b n z⟩
def Step.lentK{G H G2 H2:Hp}{S:AS}(st:Step G H G2 H2)(hk:∀b,S b->∃o,G b=some o/\Gd o=true):∀b,S b->∃o,G2 b=some o/\Gd o=true:=λb hb=>by
 obtain⟨o,e,l⟩:=hk b hb;exact⟨o,st.gg b o e,l⟩
def kin{G:Hp}{S:AS}(hk:∀b,S b->∃o,G b=some o/\Gd o=true):∀b o,S b->G b=some o->Gd o=true:=λb o hb q=>by
 obtain⟨o',e,l⟩:=hk b hb;rw[e]at q;cases q;exact l
def du_3(EX:EXT):EXT:=⟨λx G H=>Ew x.vs=true/\∃S:AS,(∀b,S b->∃o,G b=some o/\Gd o=true)/\EX.p x (offQ G S) H,
 λ_ _ _ _ _ st ⟨pl,S,k,q⟩=>⟨pl,S,st.lentK k,EX.mono _ _ _ _ _ st.offQ q⟩⟩
def bj_6(EX:Az):Az:=λ σ=>du_3 (EX σ)
def Lk.lend{EX:Az}(lk:Lk X EX):Lk X (bj_6 EX):=λzd σ H s e s' I c=>by
 obtain⟨a,C,dx,T,H',h1,h2,h3,h4,h5,h6,h7,h8,h9,h10,x,G,sg,ea,pl,S,k,q⟩:=c;exact lk zd σ H s e s' I ⟨a,C,dx,T,H',h1,h2,h3,h4,h5,h6,h7,h8,h9,h10,x,offQ G S,offQ_sub.trans sg,ea.offQ (kin k) pl,q⟩
section
variable{K:Frag}{EX:Az}{H0:HB}{G0 G H:Hp}{σ:Sg}{Δ:SE}{O:OS}{f:FE}{Q:VK}{js:List Nat}{w:W}{x:Xn}
def cc_0(E:Ev K H0 G0 G H σ Δ O)(hl:k_3 js Δ=true)(e:f (Dp js Δ)=.ok w)(pw:t_1 w=true)(q:WP K G H w Q):tD K EX f σ H Q:=by
 obtain⟨S,hS,hk,hs⟩:=E.lend js hl;have k1:=cr_6 (G:=G) hk;refine⟨Do G H S,Dp js Δ,cr_5 E,hs, ?_⟩;rw[e];have st':∀{G2 H2:Hp},Step (Do G H S) H G2 H2->Step G H (offQ G2 S) H2:=λst=>by
  have:=st.offQ (S:=S);rw[bq_2 E hS]at this;exact this
 cases w with
 |sh d=>exact λv G2 H2 st r=>q v (offQ G2 S) H2 (st' st) (r.offQ (kin (st.lentK k1)) pw)
 |ow d=>exact λv S' G2 H2 st fr t=>q v S' (offQ G2 S) H2 (st' st) (λa ha=>⟨(fr a ha).1,offQ_sub.free (fr a ha).2.1,(fr a ha).2.2⟩) (t.offQ (kin (st.lentK k1)) pw)
 |tr t=>exact λv S' G2 H2 st fr t=>q v S' (offQ G2 S) H2 (st' st) (λa ha=>⟨(fr a ha).1,offQ_sub.free (fr a ha).2.1,(fr a ha).2.2⟩) (t.offQ (kin (st.lentK k1)) pw)
def cc_1(E:Ev K H0 G0 G H σ Δ O)(hl:k_3 js Δ=true)(e:f (Dp js Δ)=.ex x)(pl:Ew x.vs=true)(q:(EX σ).p x G H):tD K (bj_6 EX) f σ H Q:=by
 obtain⟨S,hS,hk,hs⟩:=E.lend js hl;refine⟨Do G H S,Dp js Δ,cr_5 E,hs, ?_⟩;rw[e];exact⟨pl,S,cr_6 hk,by rw[bq_2 E hS];exact q⟩
end
inductive FM where
 |ok (d:D) (Δ:SE)|ex (x:Xn) (Δ:SE)|no
def OutM(K:Frag)(EX:Az)(H0:HB)(G0 G1:Hp)(σ:Sg)(r:FM)(Q:VK):Prop:=match r with
 | .ok d Δ=>∀v G H O,Ev K H0 G0 G H σ Δ O->Same G1 G->Has K G v d->Q v H
 | .ex x Δ=>∀G H O,Ev K H0 G0 G H σ Δ O->Same G1 G->(EX σ).p x G H
 | .no=>False
def OutM.mono{EX:Az}{H0:HB}{G0 G1 G2:Hp}{σ:Sg}{r:FM}{Q:VK}(s:Same G1 G2)(h:OutM K EX H0 G0 G1 σ r Q):OutM K EX H0 G0 G2 σ r Q:=by
 cases r with
 |ok d Δ=>exact λv G H O E q r=>h v G H O E (s.trans q) r
 |ex x Δ=>exact λG H O E q=>h G H O E (s.trans q)
 |no=>exact h
def tM(K:Frag)(EX:Az)(g:SE->FM):TE:=λ σ H Q=>∃H0 G0 G Δ O,Ev K H0 G0 G H σ Δ O/\OutM K EX H0 G0 G σ (g Δ) Q
abbrev EM(X:Cx)(EX:Az)(e:Expr)(g:SE->FM):Prop:=PE X e (tM X.K EX g)
def tMt(K:Frag)(EX:Az)(g:SE->FM):TT:=λ σ H Q=>tM K EX g σ H λv H'=>∃b,v=.bl b/\Q b H'
abbrev TM(X:Cx)(EX:Az)(e:Expr)(g:SE->FM):Prop:=PT X e (tMt X.K EX g)
def Dl(js:List Nat)(f:FE):SE->FM:=λ Δ=>if k_3 js Δ=true then(match f (Dp js Δ) with
 | .ok w=>if t_1 w=true then .ok w.d Δ else .no
 | .ex x=>if Ew x.vs=true then .ex x Δ else .no
 | .no=> .no) else .no
def mNot(g:SE->FM):SE->FM:=λ Δ=>match g Δ with
 | .ok (.bl b) Δ1=> .ok (.bl (!b)) Δ1
 | .ok _ _=> .no
 |r=>r
def cc_2(g:SE->FM):SE->FM:=λ Δ=>match g Δ with
 | .ok (.bl b) Δ1=> .ok (.bl b) Δ1
 | .ok _ _=> .no
 |r=>r
section
variable{X:Cx}{EX:Az}{a b e:Expr}{f:FE}{p:FT}{g g2:SE->FM}{pos:Pos}
def o_1(js:List Nat)(he:ED X (bj_6 EX) e f):EM X EX e (Dl js f):=PE.imp he λ σ H Q ⟨H0,G0,G,Δ,O,E,q⟩=>by
 unfold Dl at q
 split at q
 ·rename_i hl;cases e1:f (Dp js Δ) with
  |ok w=>
   simp only[e1]at q
   split at q
   ·rename_i pw;exact cc_0 E hl e1 pw (WP.intro λv G' H' st r=>q v G' H' O (E.grow st) st.gg r)
   ·exact q.elim
  |ex x=>
   simp only[e1]at q
   split at q
   ·rename_i pl;exact cc_1 E hl e1 pl (q G H O E (Same.refl _))
   ·exact q.elim
  |no=>simp only[e1]at q;exact q.elim
 ·exact q.elim
def dp_0(ha:TM X EX a g):TM X EX (.UnaryOp .Not a pos) (mNot g):=PT.imp (cl_2 ha) λ σ H Q ⟨H0,G0,G,Δ,O,E,q⟩=>by
 refine⟨H0,G0,G,Δ,O,E, ?_⟩;unfold mNot at q;cases e1:g Δ with
 |ok d Δ1=>
  simp only[e1]at q;cases d with
  |bl b=>
   intro v G1 H1 O1 E1 s1 r1;cases r1;obtain⟨b',z,q⟩:=q (.bl (!b)) G1 H1 O1 E1 s1 (.bl _);cases z;exact⟨b,rfl,q⟩
  |_=>exact q.elim
 |ex x Δ1=>simp only[e1]at q;exact q
 |no=>simp only[e1]at q;exact q.elim
def du_4(ha:EM X EX a g)(he:∀whole,isTrue a X.env whole=(do let v<-whole;standAt a.pos;holding [v] (truthy v)):=by intro _;rfl):TM X EX a (cc_2 g):=PT.imp (bm_0 ha he) λ σ H Q ⟨H0,G0,G,Δ,O,E,q⟩=>by
 refine⟨H0,G0,G,Δ,O,E, ?_⟩;unfold cc_2 at q;cases e1:g Δ with
 |ok d Δ1=>
  simp only[e1]at q;cases d with
  |bl b=>
   intro v G1 H1 O1 E1 s1 r1;obtain⟨b',z,q⟩:=q v G1 H1 O1 E1 s1 r1;subst z;exact⟨b',rfl,q⟩
  |_=>exact q.elim
 |ex x Δ1=>simp only[e1]at q;exact q
 |no=>simp only[e1]at q;exact q.elim
end
def Dr(i:Nat)(g:SE->FM):FS:=λ Δ=>match g Δ with
 | .ok d Δ1=> .nx (Δ1.set i (.sh d))
 | .ex x Δ1=> .ex x Δ1
 | .no=> .no
def t_3(g:SE->FM):FS:=λ Δ=>match g Δ with
 | .ok _ Δ1=> .nx Δ1
 | .ex x Δ1=> .ex x Δ1
 | .no=> .no
def o_2(g:SE->FM):FS:=λ Δ=>match g Δ with
 | .ok d Δ1=> .rv d Δ1
 | .ex x Δ1=> .ex x Δ1
 | .no=> .no
def sIfM(t:SE->FM)(g h:FS):FS:=λ Δ=>match t Δ with
 | .ok (.bl b) Δ1=>if b=true then g Δ1 else h Δ1
 | .ex x Δ1=> .ex x Δ1
 |_=> .no
section
variable{X:Cx}{EX:Az}{e:Expr}{g:SE->FM}{g1 g2:FS}{pos:Pos}
def p_4{i:Nat}{x:Str}{pos':Pos}(he:EM X EX e g)(hN:X.N.Nodup)(hi:X.N[i]? =some x:=by rfl)(hx:Loc X.env.scope x:=by trivial)(hs:swapsWith e (some (.Name x pos')) pos.line X.env=pure false:=by rfl)
  (hf:X.fn x=true\/X.env.scope.names.lookup x=some .local:=by trivial):SD X EX (.Assign [.Name x pos'] e pos) (Dr i g):=
 PS.imp (bt_4 hN hi hx he hs hf) λD σ H ⟨H0,G0,G,Δ,O,E,q⟩=>by
  refine⟨H0,G0,G,Δ,O,E, ?_⟩;unfold Dr at q;cases e1:g Δ with
  |ok d Δ1=>simp only[e1]at q;exact λv G1 H1 O1 E1 s1 r1=>q _ G1 H1 O1 (E1.put r1) s1
  |ex x Δ1=>simp only[e1]at q;exact λG1 H1 O1 E1 s1=>q σ G1 H1 O1 E1 s1
  |no=>simp only[e1]at q;exact q.elim
def aw_0(he:EM X EX e g)(hs:swapsWith e none pos.line X.env=pure false:=by rfl):SD X EX (.Expr e pos) (t_3 g):=
 PS.imp (x_2 he hs) λD σ H ⟨H0,G0,G,Δ,O,E,q⟩=>by
  refine⟨H0,G0,G,Δ,O,E, ?_⟩;unfold t_3 at q;cases e1:g Δ with
  |ok d Δ1=>simp only[e1]at q;exact λv G1 H1 O1 E1 s1 r1=>q σ G1 H1 O1 E1 s1
  |ex x Δ1=>simp only[e1]at q;exact λG1 H1 O1 E1 s1=>q σ G1 H1 O1 E1 s1
  |no=>simp only[e1]at q;exact q.elim
def y_6(he:EM X EX e g):SD X EX (.Return (some e) pos) (o_2 g):=
 PS.imp (bt_2 he) λD σ H ⟨H0,G0,G,Δ,O,E,q⟩=>by
  refine⟨H0,G0,G,Δ,O,E, ?_⟩;unfold o_2 at q;cases e1:g Δ with
  |ok d Δ1=>simp only[e1]at q;exact λv G1 H1 O1 E1 s1 r1=>q v σ G1 H1 O1 E1 s1 r1
  |ex x Δ1=>simp only[e1]at q;exact λG1 H1 O1 E1 s1=>q σ G1 H1 O1 E1 s1
  |no=>simp only[e1]at q;exact q.elim
def dp_1{c:Expr}{as bs:List Stmt}(hc:TM X EX c g)(ha:BD X EX as g1)(hb:BD X EX bs g2):SD X EX (.If c as bs pos) (sIfM g g1 g2):=
 PS.imp (dh_6 hc ha hb) λD σ H ⟨H0,G0,G,Δ,O,E,q⟩=>by
  refine⟨H0,G0,G,Δ,O,E, ?_⟩;unfold sIfM at q;cases e1:g Δ with
  |ok d Δ1=>
   simp only[e1]at q;cases d with
   |bl b=>
    intro v G1 H1 O1 E1 s1 r1;cases r1;refine⟨b,rfl, ?_⟩;cases b with
    |true=>rw[if_pos rfl];exact⟨H0,G0,G1,Δ1,O1,E1,Fin.mono s1 q⟩
    |false=>rw[if_neg A6];exact⟨H0,G0,G1,Δ1,O1,E1,Fin.mono s1 q⟩
   |_=>exact q.elim
  |ex x Δ1=>simp only[e1]at q;exact λG1 H1 O1 E1 s1=>q σ G1 H1 O1 E1 s1
  |no=>simp only[e1]at q;exact q.elim
end
inductive RR where
 |ok (d:D) (t:Tn)|ex (x:Xn) (t:Tn)|no
def ab_3(n:Nat)(t:Tn)(ds:List D):SE:=.lt t::(ds.map Sl.sh ++ List.replicate (n - (ds.length + 1)) .no)
def w_3(n:Nat)(g:FS)(t:Tn)(ds:List D):RR:=match g (ab_3 n t ds) with
 | .nx (.lt t'::_)=> .ok .non t'
 | .rv d (.lt t'::_)=> .ok d t'
 | .ex x (.lt t'::_)=> .ex x t'
 |_=> .no
def spR(K:Frag)(n:Nat)(F:Tn->List D->RR):Sp:=λvs H Q E=>∃a0 vs0,vs=.ref a0::vs0/\vs0.length=n/\∃G ds t S,Same G H/\HasL K G vs0 ds/\Ow K G H (.ref a0) t S/\(∀a,S a->G a=none/\H a≠none)/\
 match F t ds with
 | .ok d t'=>∀v G' H' S',MStep2 S G H G' H'->(∀a,S' a->(S a\/H a=none)/\G' a=none/\H' a≠none)->Ow K G' H' (.ref a0) t' S'->Has K G' v d->Q v H'
 | .ex x t'=>∀cls dx G' H' S',MStep2 S G H G' H'->(∀a,S' a->(S a\/H a=none)/\G' a=none/\H' a≠none)->Ow K G' H' (.ref a0) t' S'->ExcAt K G' cls dx x->E cls dx H'
 | .no=>False
open Classical in
def fn_R{c:Bool}{P:Program}{w:World}{x qual:Str}{st:Stmt}{f:Addr}{N ps:List Str}{k n:Nat}{g:FS}(F:Fun K x qual st f fd)(S:FnScope N ps (Ch st))(hn:ps.length=n + 1)(hle:ps.length<=N.length)
  (zj:∀(zp:Value) (A:Around) (outer:List Env) (s:Shared) (H:Hp) (E:XK),RoomC c k (A.deeper (envOfC qual (Ch st) s.heap.objs.size f zp))->
   BD (Gc c P w K mg base N qual (Ch st) f zp A outer s H E) (λ_=>EXof K E) (Ft st) g):FnX P w K mg base c (k + 1) f fd ps (spR K n (w_3 N.length g)):=by
 refine Fun.okX F S (λvs H Q E h=> ?_) λzp A outer s H vs Q E hr h=>⟨_,zj zp A outer s H E hr, ?_⟩
 ·obtain⟨a0,vs0,rfl,hl,_⟩:=h;rw[A9,hl,hn]
 obtain⟨a0,vs0,rfl,hl,G,ds,t,S0,g0,r,tw,out,q⟩:=h;have i0:Same (λb=>if S0 b then none else H b) H:=λb o e=>by
  simp only at e
  split at e
  ·cases e
  ·exact e
 have E0:=am_9 (N:=N) (b:=λ_=>a0) (v0:=.ref a0) g0 i0 r (by rw[hl];omega);have hs:(L2.start N (.ref a0::vs0))[0]? =some (some (.ref a0)):=rfl;have E1:=E0.putO (i:=0) (z:=.lt t) (v:=.ref a0) (S:=S0) (λa ha=>⟨by simp only;rw[if_pos ha],(out a ha).1,(out a ha).2⟩) rfl (λ_ z=>by cases z) tw (λj a ha=>ha.elim) (λ_ _=>rfl);rw[s_6 hs]at E1;refine⟨⟨λb=>if S0 b then none else H b,λ_=>a0⟩,G,G,_,_,E1, ?_⟩;have e2:(Sl.no::(ds.map Sl.sh ++ List.replicate (N.length - (ds.length + 1)) .no)).set 0 (.lt t)=ab_3 N.length t ds:=rfl;rw[e2];have fin:∀{Δ:SE} {t':Tn} {σ:Sg} {G' H':Hp} {O:OS},Ev K ⟨λb=>if S0 b then none else H b,λ_=>a0⟩ G G' H' σ (.lt t'::Δ) O->MStep2 S0 G H G' H'/\(∀a,O 0 a->(S0 a\/H a=none)/\G' a=none/\H' a≠none)/\Ow K G' H' (.ref a0) t' (O 0):=λ{Δ t' σ G' H' O} E'=>by
  obtain⟨v,s1,t3⟩:=E'.ow 0 (.lt t') t' rfl rfl;have s2:=E'.lt 0 t' rfl;rw[s1]at s2;cases s2;refine⟨⟨λb o nb z=>E'.st.hh b o (by simp only;rw[if_neg nb];exact z),E'.st.gh,E'.st.gg,λb nb z1 z2=>E'.st.nw b z1 (by simp only;rw[if_neg nb];exact z2)⟩,λa ha=> ?_,t3⟩;obtain⟨k1,k2,k3⟩:=E'.out _ a ha;refine⟨?_,k1,k3⟩;simp only at k2
  split at k2
  ·rename_i z;exact .inl z
  ·exact .inr k2
 unfold w_3 at q;cases e:g (ab_3 N.length t ds) with
 |nx Δ=>
  rw[e]at q;cases Δ with
  |nil=>exact q.elim
  |cons s Δ=>
   cases s with
   |lt t'=>
    intro σ G' H' O E' _;obtain⟨ms,fr,tt⟩:=fin E';exact q .non G' H' _ ms fr tt .non
   |_=>exact q.elim
 |rv d Δ=>
  rw[e]at q;cases Δ with
  |nil=>exact q.elim
  |cons s Δ=>
   cases s with
   |lt t'=>
    intro v σ G' H' O E' _ rv;obtain⟨ms,fr,tt⟩:=fin E';exact q v G' H' _ ms fr tt rv
   |_=>exact q.elim
 |ex x Δ=>
  rw[e]at q;cases Δ with
  |nil=>exact q.elim
  |cons s Δ=>
   cases s with
   |lt t'=>
    intro σ G' H' O E' _ cls dx G2 H2 st2 ea;obtain⟨ms,fr,tt⟩:=fin (E'.grow st2);exact q cls dx G2 H2 _ ms fr tt ea
   |_=>exact q.elim
 |rt w=>rw[e]at q;exact q.elim
 |bk Δ=>rw[e]at q;exact q.elim
 |ct Δ=>rw[e]at q;exact q.elim
 |no=>rw[e]at q;exact q.elim
def FnRd(P:Program)(w:World)(K:Frag)(mg:AB)(base:Heap)(c:Bool)(x:Str)(k n:Nat)(ps:List Str)(F:Tn->List D->RR):Prop:=
 ∃f fd,FnX P w K mg base c k f fd ps (spR K n F)/\mg x=some (.ref f)/\keepIn K (.ref f)=true/\Binds K fd ps []
def dp_2{c:Bool}{P:Program}{w:World}{x:Str}{st:Stmt}{f:Addr}{ps:List Str}{k n:Nat}{Fn:Tn->List D->RR}(F:Fun K x x st f fd)(hm:mg x=some (.ref f))(hb:Binds K fd ps [])
  (ok:FnX P w K mg base c k f fd ps (spR K n Fn)):FnRd P w K mg base c x k n ps Fn:=⟨f,fd,ok,hm,F.kp,hb⟩
structure MethR(P:Program)(w:World)(K:Frag)(mg:AB)(base:Heap)(cc:Bool)(k n:Nat)(m c:Str)(F:Tn->List D->RR):Prop where
 ex:∃C f fd ps,ClsAt K c C/\Cls K C/\Meth K C m f/\FnX P w K mg base cc k f fd ps (spR K n F)/\Binds K fd ps []
def tMa(K:Frag)(EX:Az)(ga:SE->R (List D)):TA:=λ σ H Q=>∃H0 G0 G Δ O,Ev K H0 G0 G H σ Δ O/\match ga Δ with
 | .ok ds=>∀vs G' H',Ev K H0 G0 G' H' σ Δ O->Same G G'->HasL K G' vs ds->Q vs H'
 | .ex x=>∀G' H',Ev K H0 G0 G' H' σ Δ O->Same G G'->(EX σ).p x G' H'
 | .no=>False
abbrev AM(X:Cx)(EX:Az)(es:List Expr)(ga:SE->R (List D)):Prop:=PA X es (tMa X.K EX ga)
def Ex:SE->R (List D):=λ_=> .ok []
def ap_3(js:List Nat)(f:FE)(ga:SE->R (List D)):SE->R (List D):=λ Δ=>if k_3 js Δ=true then(match f (Dp js Δ) with
 | .ok w=>if t_1 w=true then(match ga Δ with
  | .ok ds=> .ok (w.d::ds)
  | .ex x=> .ex x
  | .no=> .no) else .no
 | .ex x=>if Ew x.vs=true then .ex x else .no
 | .no=> .no) else .no
section
variable{X:Cx}{EX:Az}{e:Expr}{es:List Expr}{f:FE}{ga:SE->R (List D)}{x:Str}{pp pos:Pos}{c:Bool}{k k' n:Nat}{ps:List Str}
def af_9:AM X EX [] Ex:=PA.imp q_2 λ σ H Q ⟨H0,G0,G,Δ,O,E,q⟩=>q [] G H E (Same.refl _) .nil
def dd_4(js:List Nat)(ha:ED X (bj_6 EX) e f)(hr:AM X EX es ga)(hs:starEach (e::es) X.env=(false,eval e X.env)::starEach es X.env:=by rfl):AM X EX (e::es) (ap_3 js f ga):=
 PA.imp (j_2 ha hr hs) λ σ H Q ⟨H0,G0,G,Δ,O,E,q⟩=>by
  unfold ap_3 at q
  by_cases hl:k_3 js Δ=true
  ·rw[if_pos hl]at q;cases e1:f (Dp js Δ) with
   |ok w=>
    simp only[e1]at q
    by_cases pw:t_1 w=true
    ·rw[if_pos pw]at q;refine cc_0 E hl e1 pw (WP.intro λv G1 H1 st r=>⟨H0,G0,G1,Δ,O,E.grow st, ?_⟩);cases e2:ga Δ with
     |ok ds=>simp only[e2]at q;exact λvs G2 H2 E2 s2 r2=>q (v::vs) G2 H2 E2 (st.gg.trans s2) (.cons (r.mono s2) r2)
     |ex x=>simp only[e2]at q;exact λG2 H2 E2 s2=>q G2 H2 E2 (st.gg.trans s2)
     |no=>simp only[e2]at q
    ·rw[if_neg pw]at q;exact q.elim
   |ex x=>
    simp only[e1]at q
    by_cases pl:Ew x.vs=true
    ·rw[if_pos pl]at q;exact cc_1 E hl e1 pl (q G H E (Same.refl _))
    ·rw[if_neg pl]at q;exact q.elim
   |no=>simp only[e1]at q
  ·rw[if_neg hl]at q;exact q.elim
def goR(i:Nat)(lk:Bool)(Δ:SE):RR->FM
 | .ok d t'=> .ok d (Δ.set i (Sl.mk lk t'))
 | .ex x t'=> .ex x (Δ.set i (Sl.mk lk t'))
 | .no=> .no
def an_3(i n:Nat)(F:Tn->List D->RR)(ga:SE->R (List D)):SE->FM:=λ Δ=>match(Δ[i]?).bind Sl.tree with
 |some (.obj c ns ts,lk)=>(match ga Δ with
  | .ok ds=>if ds.length=n then goR i lk Δ (F (.obj c ns ts) ds) else .no
  | .ex x=> .ex x Δ
  | .no=> .no)
 |_=> .no
def r_0(i n:Nat)(m c:Str)(F:Tn->List D->RR)(ga:SE->R (List D)):SE->FM:=λ Δ=>match(Δ[i]?).bind Sl.tree with
 |some (.obj c' ns ts,lk)=>if c'=c/\ns.contains m=false then(match ga Δ with
  | .ok ds=>if ds.length=n then goR i lk Δ (F (.obj c' ns ts) ds) else .no
  | .ex x=> .ex x Δ
  | .no=> .no) else .no
 |_=> .no
def cr_8{H0:HB}{G0 G G1 H1:Hp}{σ:Sg}{Δ:SE}{O:OS}{i:Nat}{s:Sl}{c:Str}{ns:List Str}{ts:List Tn}{lk:Bool}{F:Tn->List D->RR}{a0:Addr}{vs:List V}{ds:List D}{Q:VK}
  (e1:Δ[i]? =some s) (etr:s.tree=some (.obj c ns ts,lk)) (s1:σ[i]? =some (some (.ref a0))) (E1:Ev K H0 G0 G1 H1 σ Δ O) (sg:Same G G1) (r:HasL K G1 vs ds) (hl:ds.length=n) (q:OutM K EX H0 G0 G σ (goR i lk Δ (F (.obj c ns ts) ds)) Q):spR K n F (.ref a0::vs) H1 Q (EXE K (EX σ)):=by
 obtain⟨v0,s1',t0⟩:=E1.ow i _ _ e1 (Sl.tree_own etr);rw[s1]at s1';cases s1';refine⟨a0,vs,rfl,by rw[r.length];exact hl,G1,ds,.obj c ns ts,O i,E1.st.gh,r,t0,λa ha=>⟨(E1.out i a ha).1,(E1.out i a ha).2.2⟩, ?_⟩;cases ef:F (.obj c ns ts) ds with
 |ok d t'=>
  rw[ef]at q;exact λv G' H' S' ms fr t1 rv=>q v G' H' _ (E1.step2 (Sl.mk_own lk t') (Sl.mk_lk lk t') (E1.mk_lt e1 etr t') ms s1 fr t1) (sg.trans ms.gg) rv
 |ex x t'=>
  rw[ef]at q;exact λcls dx G' H' S' ms fr t1 ea=>⟨x,G',ms.gh,ea,q G' H' _ (E1.step2 (Sl.mk_own lk t') (Sl.mk_lk lk t') (E1.mk_lt e1 etr t') ms s1 fr t1) (sg.trans ms.gg)⟩
 |no=>rw[ef]at q;exact q
theorem bq_3{m:Str}:∀{ns:List Str} {us:List V},ns.contains m=false->(ns.zip us).lookup m=none
 | [],_,_=>rfl
 |_::_,[],_=>rfl
 |n::ns,u::us,h=>by
  rw[M4,W0]at h;rw[M5,F5,h.1];exact bq_3 h.2
def cr_9{i:Nat}{y:Str}{F:Tn->List D->RR}{p3:Pos}(hr:RoomC c k' X.A)(lk:Lk X EX)(h:FnRd X.prog X.w X.K X.mg X.base c x k n ps F)(ha:AM X EX es ga)(hk:k<=k':=by decide)
  (hN:X.N[i]? =some y:=by rfl) (hv:Fd X.env.scope y:=by trivial) (hd:AG y:=by decide) (hcd:(y ==("__classdict__" :Str))=false:=by decide)
  (hg:Gl X x:=by rfl) (hdb:AG x:=by decide) (hs1:starEach (.Name y p3::es) X.env=(false,eval (.Name y p3) X.env)::starEach es X.env:=by rfl) (hpl:(backTo pos (starEach es X.env)).any (·.1)=false:=by rfl):
  EM X EX (.Call (.Name x pp) (.Name y p3::es) [] pos) (an_3 i n F ga):=by
 obtain⟨f,fd,ok,hm,kp,hb⟩:=h;refine PE.imp (bo_4 hr lk ok hm kp hb (j_2 (Ff hN hv hd hcd) ha hs1) hk hg hdb hs1 hpl) λ σ H Q ⟨H0,G0,G,Δ,O,E,q⟩=> ?_;unfold an_3 at q
 split at q
 ·rename_i c0 ns ts lk0 e0;obtain⟨s,e1,etr⟩:=K0.mp e0;obtain⟨v0,s1,t0⟩:=E.ow i _ _ e1 (Sl.tree_own etr);cases t0 with
  |obj hc hh hl hA sub rl=>
   refine⟨_,s1,H0,G0,G,Δ,O,E, ?_⟩;cases ea:ga Δ with
   |ok ds=>
    simp only[ea]at q
    split at q
    ·rename_i zk;exact λvs G1 H1 E1 sg r=>cr_8 e1 etr s1 E1 sg r zk q
    ·exact q.elim
   |ex x=>simp only[ea]at q;exact λG1 H1 E1 sg=>q G1 H1 O E1 sg
   |no=>simp only[ea]at q;exact q.elim
 ·exact q.elim
def aj_1{i:Nat}{y m cn:Str}{F:Tn->List D->RR}{p3 zg:Pos}{pl:Sem Bool}(h:MethR X.prog X.w X.K X.mg X.base c k n m cn F)(hr:RoomC c k' X.A)(lk:Lk X EX)(ha:AM X EX (e::es) ga)(hk:k<=k':=by decide)
  (hN:X.N[i]? =some y:=by rfl) (hv:Fd X.env.scope y:=by trivial) (hd:AG y:=by decide) (hcd:(y ==("__classdict__" :Str))=false:=by decide)
  (hst:starEach (e::es) X.env=(false,eval e X.env)::starEach es X.env:=by rfl) (hpl:(backTo pos (starEach es X.env)).any (·.1)=false:=by rfl)
  (ht:eval (.Call (.Attribute (.Name y p3) m zg) (e::es) [] pos) X.env=(do
   let ov<-eval (.Name y p3) X.env
   standAt zg.atName
   let(f,first)<-holding [ov] (getMethod ov m pl)
   callWith pos f first (backTo pos (starEach (e::es) X.env)) (backToKw pos (keywordEach [] X.env))):=by rfl):EM X EX (.Call (.Attribute (.Name y p3) m zg) (e::es) [] pos) (r_0 i n m cn F ga):=by
 obtain⟨C,f,fd,ps,a1,a2,a3,a4,a5⟩:=h.ex;refine PE.imp (cb_2 (Ff hN hv hd hcd) (hr.mono hk) lk ha hst hpl ht) λ σ H Q ⟨H0,G0,G,Δ,O,E,q⟩=> ?_;unfold r_0 at q
 split at q
 ·rename_i c0 ns ts lk0 e0;obtain⟨s,e1,etr⟩:=K0.mp e0;obtain⟨v0,s1,t0⟩:=E.ow i _ _ e1 (Sl.tree_own etr)
  split at q
  ·rename_i hcn;cases t0 with
   |obj hc hh hl hA sub rl=>
    obtain⟨rfl,hnm⟩:=hcn;have:=a1.same hc;subst this;refine⟨_,s1,_,_,_,_,f,fd,ps,_,rfl,hh,bq_3 hnm,a2,a3,a4,a5,H0,G0,G,Δ,O,E, ?_⟩;cases ea:ga Δ with
    |ok ds=>
     simp only[ea]at q
     split at q
     ·rename_i zk;exact λvs G1 H1 E1 sg r=>cr_8 e1 etr s1 E1 sg r zk q
     ·exact q.elim
    |ex x=>simp only[ea]at q;exact λG1 H1 E1 sg=>q G1 H1 O E1 sg
    |no=>simp only[ea]at q;exact q.elim
  ·exact q.elim
 ·exact q.elim
end
def repF:List Str->List Tn->Str->Tn->List Tn
 |n::ns,t::ts,f,t'=>if n=f then t'::ts else t::repF ns ts f t'
 |_,ts,_,_=>ts
def repV:List Str->List V->Str->V->List V
 |n::ns,t::ts,f,t'=>if n=f then t'::ts else t::repV ns ts f t'
 |_,ts,_,_=>ts
section
variable{K:Frag}{G H:Hp}
theorem OwL.focusF(f:Str):∀{ns:List Str} {us:List V} {ts:List Tn} {S:AS} {t:Tn},OwL K G H us ts S->(ns.zip ts).lookup f=some t->
  ∃v S1,(ns.zip us).lookup f=some v/\Ow K G H v t S1/\(∀b,S1 b->S b)/\
   ∀{H':Hp} {t':Tn},(∀b o,S b->¬S1 b->H b=some o->H' b=some o)->Ow K G H' v t' S1->OwL K G H' us (repF ns ts f t') S
 | [],_,_,_,_,_,e=>by cases e
 |_::_,[],_,_,_,.nil,e=>by cases e
 |n::ns,u::us,_,S,t,.cons (S1:=S1) (S2:=S2) (t:=t0) (ts:=ts) hh r dj s1 s2,e=>by
  rw[M5,F5]at e
  by_cases q:n=f
  ·subst q;simp only[M8]at e;cases e;refine⟨u,S1,by rw[M5,F5,M8],hh,s1,λ{H' t'} g h'=> ?_⟩;unfold repF;rw[if_pos rfl];exact .cons h' (r.mono (Same.refl _) (λb o hb z=>g b o (s2 b hb) (λw=>dj b w hb) z) λ_ z=>z) dj s1 s2
  ·have hb:(f ==n)=false:=O4.mpr (Ne.symm q);simp only[hb]at e;obtain⟨v',S',e1,h',i',f'⟩:=OwL.focusF f r e;refine⟨v',S',by rw[M5,F5,hb];exact e1,h',λb z=>s2 b (i' b z),λ{H' t'} g h2=> ?_⟩;unfold repF;rw[if_neg q];exact .cons (hh.mono (Same.refl _) (λb o hb z=>g b o (s1 b hb) (λw=>dj b hb (i' b w)) z) λ_ z=>z) (f' (λb o hb nb z=>g b o (s2 b hb) nb z) h2) dj s1 s2
theorem OwL.repF{d:D}(hv:Has K G v d)(f:Str):∀{ns:List Str} {us:List V} {ts:List Tn} {S:AS},OwL K G H us ts S->OwL K G H (repV ns us f v) (L3.repF ns ts f (.sh d)) S
 | [],us,ts,S,r=>by
  have h1:repV [] us f v=us:=by cases us <;> rfl
  have h2:L3.repF [] ts f (.sh d)=ts:=by cases ts <;> rfl
  rw[h1,h2];exact r
 |_::_,_,_,_,.nil=> .nil
 |n::ns,u::us,_,S,.cons (S1:=S1) (S2:=S2) hh r dj s1 s2=>by
  unfold repV L3.repF
  by_cases q:n=f
  ·rw[if_pos q,if_pos q];exact .cons (S1:=λ_=>False) (.sh hv) r (λ_ z _=>z) (λ_ z=>z.elim) s2
  ·rw[if_neg q,if_neg q];exact .cons hh (OwL.repF hv f r) dj s1 s2
theorem bq_5(f:Str)(v:V):∀(ns:List Str) (us:List V),(repV ns us f v).length=us.length
 | [],us=>by cases us <;> rfl
 |_::_,[]=>rfl
 |n::ns,u::us=>by
  unfold repV
  split
  ·rfl
  ·rw[A9,A9,bq_5 f v ns us]
theorem bq_6{f:Str}{y:V}:∀{ns:List Str} {us:List V},ns.length=us.length->ns.contains f=true->Fs f y (ns.zip us)=ns.zip (repV ns us f y)
 | [],[],_,h=>by cases h
 | [],_::_,e,_=>by simp at e
 |_::_,[],e,_=>by simp at e
 |n::ns,u::us,e,h=>by
  show Fs f y ((n,u)::ns.zip us)=_;unfold Fs repV
  by_cases q:n=f
  ·rw[if_pos q,if_pos q];simp only[q,M5]
  ·rw[if_neg q,if_neg q,M5,bq_6 (by simpa using e)];rw[M4,T4]at h;rcases h with h|h
   ·exact absurd (N1.mp h).symm q
   ·exact h
def Ow.obj_of{c:Str}{ns:List Str}{ts:List Tn}{S:AS}(t:Ow K G H v (.obj c ns ts) S):∃a C dx us S1,v=.ref a/\ClsAt K c C/\H a=some (.ins C dx (ns.zip us))/\ns.length=us.length/\S a/\(∀b,S1 b->S b/\b≠a)/\OwL K G H us ts S1:=by
 cases t with
 |obj hc h hl ha sub r=>exact⟨_,_,_,_,_,rfl,hc,h,hl,ha,sub,r⟩
end
def bd_5(i:Nat)(cs:List Str)(f:Str)(fk fe:FE):FS:=λ Δ=>match(Δ[i]?).bind Sl.tree with
 |some (.obj c ns ts,lk)=>if cs.contains c=true then(match(ns.zip ts).lookup f with
  |some (.dic kt2)=>(match unS kt2 with
   |some kds=>(match fe (Aw Δ) with
    | .ok w=>(match fk (Aw Δ) with
     | .ok z=>(match Dv z.d with
      |some k=>if kds.length < 16777216 then .nx (Δ.set i (Sl.mk lk (.obj c ns (repF ns ts f (Tn.of (.dic (Di kds k w.d))))))) else .no
      |none=> .no)
     |_=> .no)
    |_=> .no)
   |none=> .no)
  |_=> .no) else .no
 |_=> .no
def bq_7(i:Nat)(cs:List Str)(f:Str)(fk:FE):FS:=λ Δ=>match(Δ[i]?).bind Sl.tree with
 |some (.obj c ns ts,lk)=>if cs.contains c=true then(match(ns.zip ts).lookup f with
  |some (.dic kt2)=>(match unS kt2 with
   |some kds=>(match fk (Aw Δ) with
    | .ok z=>(match Dv z.d with
     |some k=>if(Bh kds k).isSome=true then .nx (Δ.set i (Sl.mk lk (.obj c ns (repF ns ts f (Tn.of (.dic (Eo kds k))))))) else .no
     |none=> .no)
    |_=> .no)
   |none=> .no)
  |_=> .no) else .no
 |_=> .no
def bq_8(i:Nat)(cs:List Str)(f:Str)(js:List Nat)(fe:FE):FS:=λ Δ=>match((gsome js Δ)[i]?).bind Sl.tree with
 |some (.obj c ns ts,lk)=>if cs.contains c=true/\ns.contains f=true/\ns.length < 1000 then(match fe (Aw (gsome js Δ)) with
  | .ok w=> .nx ((gsome js Δ).set i (Sl.mk lk (.obj c ns (repF ns ts f (.sh w.d)))))
  |_=> .no) else .no
 |_=> .no
section
variable{X:Cx}{EX:Az}{pos:Pos}{i:Nat}{cs:List Str}{f x:Str}
def dd_5{e e2:Expr}{fe fk:FE}{p1 p2 zh:Pos}(hu:X.A.units + 64 < cLine)(k:OFld X.K cs f)(he:ED X EX e fe)(h2:ED X EX e2 fk)(hN:X.N[i]? =some x:=by rfl)(hv:Fd X.env.scope x:=by trivial)(hd:AG x:=by decide)
  (hcd:(x ==("__classdict__" :Str))=false:=by decide) (hb:attributeBase (.Name x p1) f X.env (eval (.Name x p1) X.env)=eval (.Name x p1) X.env:=by rfl) (hs:swapsWith e (some (.Subscript (.Attribute (.Name x p1) f p2) e2 zh)) pos.line X.env=pure false:=by rfl):
  SD X EX (.Assign [.Subscript (.Attribute (.Name x p1) f p2) e2 zh] e pos) (bd_5 i cs f fk fe):=
 PS.imp (bh_1 () (bu_2 (Ff hN hv hd hcd) hb) h2 he hs) λD σ H ⟨H0,G0,G,Δ,O,E,q⟩=>by
  unfold bd_5 at q
  split at q
  ·rename_i c ns ts lk e0;obtain⟨s,e1,etr⟩:=K0.mp e0
   split at q
   ·rename_i hcs
    split at q
    ·rename_i kt2 ef
     split at q
     ·rename_i kds eu;refine⟨G,Aw Δ,E.st.gh,E.gsh, ?_⟩;cases e2:fe (Aw Δ) with
      |ex x=>simp only[e2]at q;exact q.elim
      |no=>simp only[e2]at q;exact q.elim
      |ok w=>
       simp only[e2]at q;refine WP.intro λv G1 H1 st r=> ?_;have E1:=E.grow st;obtain⟨v0,s1,t⟩:=E1.ow i _ _ e1 (Sl.tree_own etr);obtain⟨a,C,dx,us,S1,rfl,hC,hH,hl,ha,sub,rl⟩:=t.obj_of;obtain⟨kc,kn⟩:=k _ hcs _ hC;obtain⟨vd,Sd,ed,td,idd,fc⟩:=OwL.focusF f (ns:=ns) rl ef;refine⟨_,s1,a,C,dx,_,vd,rfl,hH,kc,kn,ed, ?_⟩;refine⟨G1,Aw Δ,E1.st.gh,E1.gsh, ?_⟩;cases e3:fk (Aw Δ) with
       |ex x=>simp only[e3]at q;exact q.elim
       |no=>simp only[e3]at q;exact q.elim
       |ok z=>
        simp only[e3]at q;refine WP.intro λv2 G2 H2 st2 r2=> ?_
        split at q
        ·rename_i k0 ek
         split at q
         ·rename_i zk;have hv2:=s_9 r2 ek;subst hv2;rw[ab_1 eu]at td;obtain⟨c1,kvc,rfl,mc,hHc,hkc,rlc⟩:=Ow.dict_of (kds:=kds) td;have E2:=E1.grow st2;have hle:kvc.length=kds.length:=by
           have:=K5 List.length hkc
           rwa[A3,A3]at this
          obtain⟨p1,p2⟩:=bi_0 k0 hkc rlc r;have hca:c1≠a:=(sub c1 (idd c1 mc)).2;refine⟨c1,_,rfl,DPut.k (st2.hh _ _ hHc) (by rw[hle,F1];exact zk),q σ G2 _ _ (E2.writeIn e1 etr s1 (sub c1 (idd c1 mc)).1 ?_) (st.gg.trans st2.gg)⟩;refine Ow.obj (S1:=S1) hC (by rw[Ao (Ne.symm hca)];exact st2.hh _ _ hH) hl ha sub ?_;refine OwL.mono st2.gg (fc (λb o hb nb z=> ?_) (Ow.dict Bk p1 mc p2)) (λ_ _ _ z=>z) λ_ z=>z;rw[Ao (show b≠c1 from λw=>nb (by rw[w];exact mc))];exact st2.hh _ _ z
         ·exact q.elim
        ·exact q.elim
     ·exact q.elim
    ·exact q.elim
   ·exact q.elim
  ·exact q.elim
def dd_6{e2:Expr}{fk:FE}{p1 p2 zg zf:Pos}(k:OFld X.K cs f)(h2:ED X EX e2 fk)(hN:X.N[i]? =some x:=by rfl)(hv:Fd X.env.scope x:=by trivial)(hd:AG x:=by decide)
  (hcd:(x ==("__classdict__" :Str))=false:=by decide) (hb:attributeBase (.Name x p1) f X.env (eval (.Name x p1) X.env)=eval (.Name x p1) X.env:=by rfl) (hm:M1 X (.Attribute (.Name x p1) f p2) "pop" zg e2 zf:=by exact⟨rfl,rfl,rfl,rfl⟩)
  (hs:swapsWith (.Call (.Attribute (.Attribute (.Name x p1) f p2) "pop" zg) [e2] [] zf) none pos.line X.env=pure false:=by rfl):
  SD X EX (.Expr (.Call (.Attribute (.Attribute (.Name x p1) f p2) "pop" zg) [e2] [] zf) pos) (bq_7 i cs f fk):=
 PS.imp (x_2 (bm_9 (bu_2 (Ff hN hv hd hcd) hb) h2 hm) hs) λD σ H ⟨H0,G0,G,Δ,O,E,q⟩=>by
  unfold bq_7 at q
  split at q
  ·rename_i c ns ts lk e0;obtain⟨s,e1,etr⟩:=K0.mp e0
   split at q
   ·rename_i hcs
    split at q
    ·rename_i kt2 ef
     split at q
     ·rename_i kds eu;obtain⟨v0,s1,t⟩:=E.ow i _ _ e1 (Sl.tree_own etr);obtain⟨a,C,dx,us,S1,rfl,hC,hH,hl,ha,sub,rl⟩:=t.obj_of;obtain⟨kc,kn⟩:=k _ hcs _ hC;obtain⟨vd,Sd,ed,td,idd,fc⟩:=OwL.focusF f (ns:=ns) rl ef;rw[ab_1 eu]at td;obtain⟨c1,kvc,rfl,mc,hHc,hkc,rlc⟩:=Ow.dict_of (kds:=kds) td;refine⟨_,s1,a,C,dx,_,_,rfl,hH,kc,kn,ed,c1,rfl,.inl ⟨kvc,.inl hHc⟩, ?_⟩;refine⟨G,Aw Δ,E.st.gh,E.gsh, ?_⟩;cases e3:fk (Aw Δ) with
      |ex x=>simp only[e3]at q;exact q.elim
      |no=>simp only[e3]at q;exact q.elim
      |ok z=>
       simp only[e3]at q;refine WP.intro λv2 G2 H2 st2 r2=> ?_
       split at q
       ·rename_i k0 ek
        split at q
        ·rename_i hin;have hv2:=s_9 r2 ek;subst hv2;have E2:=E.grow st2;obtain⟨d0,ed0⟩:=L6.mp hin;obtain⟨vv,ev,_⟩:=(y_3 k0 hkc rlc).2 d0 ed0;obtain⟨p1,p2⟩:=av_3 k0 hkc rlc;have hca:c1≠a:=(sub c1 (idd c1 mc)).2;refine⟨kvc,k0,vv,st2.hh _ _ hHc,rfl,ev,q σ G2 _ _ (E2.writeIn e1 etr s1 (sub c1 (idd c1 mc)).1 ?_) st2.gg⟩;refine Ow.obj (S1:=S1) hC (by rw[Ao (Ne.symm hca)];exact st2.hh _ _ hH) hl ha sub ?_;refine OwL.mono st2.gg (fc (λb o hb nb z=> ?_) (Ow.dict Bk p1 mc p2)) (λ_ _ _ z=>z) λ_ z=>z;rw[Ao (show b≠c1 from λw=>nb (by rw[w];exact mc))];exact st2.hh _ _ z
        ·exact q.elim
       ·exact q.elim
     ·exact q.elim
    ·exact q.elim
   ·exact q.elim
  ·exact q.elim
def dd_7(js:List Nat){e:Expr}{fe:FE}{p1 p2:Pos}(k:OFld X.K cs f)(he:ED X EX e fe)(hN:X.N[i]? =some x:=by rfl)(hv:Fd X.env.scope x:=by trivial)(hd:AG x:=by decide)
  (hcd:(x ==("__classdict__" :Str))=false:=by decide) (hs:swapsWith e (some (.Attribute (.Name x p1) f p2)) pos.line X.env=pure false:=by rfl):SD X EX (.Assign [.Attribute (.Name x p1) f p2] e pos) (bq_8 i cs f js fe):=
 PS.imp (bu_3 (Ff hN hv hd hcd) he hs) λD σ H ⟨H0,G0,G,Δ,O,E,q⟩=>by
  obtain⟨G1,O1,sg,E1⟩:=E.gsome js;unfold bq_8 at q;generalize gsome js Δ=Δ1 at q E1
  split at q
  ·rename_i c ns ts lk e0;obtain⟨s,e1,etr⟩:=K0.mp e0
   split at q
   ·rename_i hc;obtain⟨hc1,hc2,hc3⟩:=hc;refine⟨G1,Aw Δ1,E1.st.gh,E1.gsh, ?_⟩;cases e2:fe (Aw Δ1) with
    |ex y=>simp only[e2]at q;exact q.elim
    |no=>simp only[e2]at q;exact q.elim
    |ok w=>
     simp only[e2]at q;refine WP.intro λv G2 H2 st r=> ?_;have E2:=E1.grow st;obtain⟨v0,s1,t⟩:=E2.ow i _ _ e1 (Sl.tree_own etr);obtain⟨a,C,dx,us,S1,rfl,hC,hH,hl,ha,sub,rl⟩:=t.obj_of;obtain⟨kc,kn⟩:=k _ hc1 _ hC;refine⟨_,s1,a,C,dx,_,rfl,hH,kc,kn,by rw[W3,<-hl,ZA2];exact hc3, ?_⟩;rw[bq_6 hl hc2];refine q σ G2 _ _ (E2.writeIn e1 etr s1 ha ?_) (sg.trans st.gg);refine .obj (S1:=S1) hC Bk (by rw[bq_5];exact hl) ha sub ?_;refine OwL.mono (Same.refl _) (OwL.repF r f rl) (λb o hb z=> ?_) λ_ z=>z;rw[Ao (sub b hb).2];exact z
   ·exact q.elim
  ·exact q.elim
end
def Fc(n:Nat)(c:Str)(g:FS)(ds:List D):R (List Str×List Tn):=match g (av_4 n c ds) with
 | .nx (.lt (.obj c' ns ts)::_)=>if c'=c then .ok (ns,ts) else .no
 | .ex x _=> .ex x
 |_=> .no
def spJ(K:Frag)(C:Addr)(cn:Str)(n:Nat)(F:List D->R (List Str×List Tn)):Sp:=λvs H Q E=>∃x dx vs0 Hq G ds,vs=.ref x::vs0/\vs0.length=n/\Hq x=none/\Same Hq H/\H x=some (.ins C dx [])/\Same G Hq/\HasL K G vs0 ds/\
 (match F ds with
 | .ok p=>∀G' H' S,Step G Hq G' H'->(∀a,S a->Hq a=none/\G' a=none/\H' a≠none)->Ow K G' H' (.ref x) (.obj cn p.1 p.2) S->Q .non H'
 | .ex e=>(EXof K E).p e G Hq
 | .no=>False)
def fn_J{c:Bool}{P:Program}{w:World}{x qual cn:Str}{st:Stmt}{f C:Addr}{N ps:List Str}{k n:Nat}{g:FS}(F:Fun K x qual st f fd)(S:FnScope N ps (Ch st))(hC:ClsAt K cn C)(hn:ps.length=n + 1)(hle:ps.length<=N.length)
  (zj:∀(zp:Value) (A:Around) (outer:List Env) (s:Shared) (H:Hp) (E:XK),RoomC c k (A.deeper (envOfC qual (Ch st) s.heap.objs.size f zp))->
   BD (Gc c P w K mg base N qual (Ch st) f zp A outer s H E) (λ_=>EXof K E) (Ft st) g):FnX P w K mg base c (k + 1) f fd ps (spJ K C cn n (Fc N.length cn g)):=by
 refine Fun.okX F S (λvs H Q E h=> ?_) λzp A outer s H vs Q E hr h=>⟨_,zj zp A outer s H E hr, ?_⟩
 ·obtain⟨x,dx,vs0,Hq,G,ds,rfl,hl,_⟩:=h;rw[A9,hl,hn]
 obtain⟨x,dx,vs0,Hq,G,ds,rfl,hl,n1,i0,hx,g0,r,q⟩:=h;have E0:=am_9 (N:=N) (b:=λ_=>x) (v0:=.ref x) (g0.trans i0) i0 r (by rw[hl];omega);have hs:(L2.start N (.ref x::vs0))[0]? =some (some (.ref x)):=rfl;have E1:=E0.putO (i:=0) (z:=.lt (.obj cn [] [])) (v:=.ref x) (S:=λb=>b=x) (λa ha=>by subst ha;exact⟨n1,g0.free n1,by rw[hx];simp⟩) rfl (λ_ z=>by cases z) (.obj (S1:=λ_=>False) hC (us:=[]) hx rfl rfl (λ_ z=>z.elim) .nil) (λj a ha=>ha.elim) (λ_ _=>rfl);rw[s_6 hs]at E1;refine⟨⟨Hq,λ_=>x⟩,G,G,_,_,E1, ?_⟩;have e2:(Sl.no::(ds.map Sl.sh ++ List.replicate (N.length - (ds.length + 1)) .no)).set 0 (.lt (.obj cn [] []))=av_4 N.length cn ds:=rfl;rw[e2];have nxt:∀{Δ:SE},g (av_4 N.length cn ds)=.nx Δ->Fin K (λ_=>EXof K E) ⟨Hq,λ_=>x⟩ G G {nx:=λ_ H'=>Q .non H',rt:=Q} (.nx Δ):=λ{Δ} e=>by
  unfold Fc at q;rw[e]at q;cases Δ with
  |nil=>exact q.elim
  |cons s Δ=>
   cases s with
   |lt t=>
    cases t with
    |obj c' ns ts=>
     simp only at q
     by_cases hcc:c'=cn
     ·subst hcc;rw[if_pos rfl]at q;intro σ G' H' O E' _;obtain⟨v,s1,t3⟩:=E'.ow 0 _ _ rfl rfl;have s2:=E'.lt 0 _ rfl;rw[s1]at s2;cases s2;exact q G' H' (O 0) E'.st (λa ha=>⟨(E'.out 0 a ha).2.1,(E'.out 0 a ha).1,(E'.out 0 a ha).2.2⟩) t3
     ·rw[if_neg hcc]at q;exact q.elim
    |_=>exact q.elim
   |_=>exact q.elim
 cases e:g (av_4 N.length cn ds) with
 |nx Δ=>exact nxt e
 |ex x Δ=>unfold Fc at q;rw[e]at q;exact λ σ G' H' O E' _=>(EXof K E).mono _ _ _ _ _ E'.st q
 |rt w=>unfold Fc at q;rw[e]at q;exact q.elim
 |rv d Δ=>unfold Fc at q;rw[e]at q;exact q.elim
 |bk Δ=>unfold Fc at q;rw[e]at q;exact q.elim
 |ct Δ=>unfold Fc at q;rw[e]at q;exact q.elim
 |no=>unfold Fc at q;rw[e]at q;exact q.elim
def bq_9(i:Nat)(cs:List Str)(f:Str)(fe:FE):FS:=λ Δ=>match Δ[i]? with
 |some (.lt (.obj c ns ts))=>if cs.contains c=true/\ns.contains f=false/\ns.length < 1000 then(match fe (Aw Δ) with
  | .ok (.ow d)=> .nx (Δ.set i (.lt (.obj c (ns ++ [f]) (ts ++ [Tn.of d]))))
  |_=> .no) else .no
 |_=> .no
def MakJ(P:Program)(w:World)(K:Frag)(mg:AB)(base:Heap)(cc:Bool)(c:Str)(k n:Nat)(F:List D->R (List Str×List Tn)):Prop:=
 ∃C f fd ps,ClsAt K c C/\mg c=some (.ref C)/\Mk K C f/\FnX P w K mg base cc k f fd ps (spJ K C c n F)/\Binds K fd ps []
def cs_0(c:Str)(n:Nat)(F:List D->R (List Str×List Tn))(fa:FA):FE:=λ δ=>(fa δ).bind λds=>if ds.length=n then(F ds).bind λp=> .ok (.tr (.obj c p.1 p.2)) else .no
section
variable{X:Cx}{EX:Az}{e:Expr}{es:List Expr}{x:Str}{pp pos:Pos}{cc:Bool}{k k' n:Nat}
def dd_9{i:Nat}{cs:List Str}{f x:Str}{e:Expr}{fe:FE}{p1 p2:Pos}(k:OFld X.K cs f)(he:ED X EX e fe)(hN:X.N[i]? =some x:=by rfl)(hv:Fd X.env.scope x:=by trivial)(hd:AG x:=by decide)
  (hcd:(x ==("__classdict__" :Str))=false:=by decide) (hs:swapsWith e (some (.Attribute (.Name x p1) f p2)) pos.line X.env=pure false:=by rfl):SD X EX (.Assign [.Attribute (.Name x p1) f p2] e pos) (bq_9 i cs f fe):=
 PS.imp (bu_3 (Ff hN hv hd hcd) he hs) λD σ H ⟨H0,G0,G,Δ,O,E,q⟩=>by
  unfold bq_9 at q
  split at q
  ·rename_i c ns ts e1
   split at q
   ·rename_i hc;obtain⟨hc1,hc2,hc3⟩:=hc;refine⟨G,Aw Δ,E.st.gh,E.gsh, ?_⟩;cases e2:fe (Aw Δ) with
    |ex y=>simp only[e2]at q;exact q.elim
    |no=>simp only[e2]at q;exact q.elim
    |ok w=>
     simp only[e2]at q;cases w with
     |sh d=>exact q.elim
     |tr t=>exact q.elim
     |ow d=>
      intro v S2 G2 H2 st fr tw;have E2:=E.grow st;obtain⟨v0,s1,t⟩:=E2.ow i _ _ e1 rfl;obtain⟨a,C,dx,us,S1,rfl,hC,hH,hl,ha,sub,rl⟩:=t.obj_of;have s2:=E2.lt i _ e1;obtain⟨kc,kn⟩:=k _ hc1 _ hC;refine⟨_,s1,a,C,dx,_,rfl,hH,kc,kn,by rw[W3,<-hl,ZA2];exact hc3, ?_⟩;rw[av_5 hl hc2];have hna:∀b,S2 b->b≠a:=λb hb z=>(E.out i a ha).2.2 (by rw[<-z];exact(fr b hb).1);have nO:∀b,S2 b->∀j,¬O j b:=λb hb j hj=>(E.out j b hj).2.2 (fr b hb).1;have np:∀b,b≠a->upd H2 a (.ins C dx ((ns ++ [f]).zip (us ++ [v]))) b=H2 b:=λb hb=>Ao hb;have al:∀b,H2 b≠none->upd H2 a (.ins C dx ((ns ++ [f]).zip (us ++ [v]))) b≠none:=λb hb=>by
       by_cases z:b=a
       ·subst z;rw[Bk];simp
       ·rw[np b z];exact hb
      have gh:Same G2 (upd H2 a (.ins C dx ((ns ++ [f]).zip (us ++ [v])))):=λb o z=>by
       have nb:b≠a:=λw=>by rw[w,(E2.out i a ha).1]at z;cases z
       rw[np b nb];exact st.gh b o z
      have s0:σ[i]? =some (some (.ref a)):=s1;refine q σ G2 _ _ (E.step2 (S:=λb=>O i b\/S2 b) (z:=.lt _) rfl (λ_ z=>by cases z) (λ_ _=>by rw[s1]at s2⊢;exact s2) ⟨λb o nb z=>by rw[np b λw=>nb (by rw[w];exact ha)];exact st.hh b o z,gh,st.gg,λb _ z1 z2=>st.nw b z1 z2⟩ s0 (λb hb=> ?_) ?_) st.gg
      ·rcases hb with hb|hb
       ·exact⟨.inl hb,(E2.out i b hb).1,al b (E2.out i b hb).2.2⟩
       ·exact⟨.inr (fr b hb).1,(fr b hb).2.1,al b (fr b hb).2.2⟩
      ·refine .obj (S1:=λb=>S1 b\/S2 b) hC Bk (by rw[B7,B7,hl];rfl) (.inl ha) (λb hb=> ?_) ?_
       ·rcases hb with hb|hb
        ·exact⟨.inl (sub b hb).1,(sub b hb).2⟩
        ·exact⟨.inr hb,hna b hb⟩
       ·refine OwL.append (S1:=S1) (S2:=S2) (rl.mono (Same.refl _) (λb o hb z=>by rw[np b (sub b hb).2];exact z) λ_ z=>z) (.cons (S1:=S2) (S2:=λ_=>False) (tw.mono (Same.refl _) (λb o hb z=>by rw[np b (hna b hb)];exact z) λ_ z=>z) .nil (λ_ _ z=>z) (λ_ z=>z) λ_ z=>z.elim) (λb z1 z2=>nO b z2 i (sub b z1).1) (λ_ z=> .inl z) λ_ z=> .inr z
   ·exact q.elim
  ·exact q.elim
def de_0{F:List D->R (List Str×List Tn)}{fa:FA}(hr:RoomC cc k' X.A)(lk:Lk X EX)(h:MakJ X.prog X.w X.K X.mg X.base cc x k n F)(ha:AD X EX (e::es) fa)(hk:k + 1<=k':=by decide)(hg:Gl X x:=by rfl)(hdb:AG x:=by decide)
  (he:starEach (e::es) X.env=(false,eval e X.env)::starEach es X.env:=by rfl) (hpl:(backTo pos (starEach es X.env)).any (·.1)=false:=by rfl):ED X EX (.Call (.Name x pp) (e::es) [] pos) (cs_0 x n F fa):=by
 obtain⟨C,f,fd,ps,hC,hm,M,ok,hb⟩:=h;intro zd s σ H Q I q;obtain⟨G,δ,g0,s0,o⟩:=q;refine M3 (r_1 I hg hm ?_ hdb);have ta:tDa X.K EX fa σ H λvs H1=>∃G1 ds,Same G1 H1/\HasL X.K G1 vs ds/\ds.length=n/\Out X.K (EX σ) G1 H1 ((F ds).bind λp=> .ok (.tr (.obj x p.1 p.2))) Q:=by
  refine tDa.seq g0 s0 o λds vs G' H' _ st r o'=> ?_
  split at o'
  ·rename_i hl;exact⟨G',ds,st.gh,r,hl,o'⟩
  ·exact o'.elim
 refine X2 (h₀:=X.base) I.ok.mod.kin M.kp (Bc (ha pos zd s σ H _ I ta) λus s1 ⟨vs,H1,I1,r,G1,ds,sg,rl,hl,o'⟩=>⟨I1.kIn, ?_⟩) he hpl;refine ci_0 M ok (hr.mono hk) hb lk I1 r λy dy ny ndy ne=> ?_;refine⟨y,dy,vs,H1,G1,ds,rfl,by rw[rl.length];exact hl,ny,(λb o e=>by rw[Ao (Et e ny),Ao (Et e ndy)];exact e),Bk,sg,rl, ?_⟩;cases ef:F ds with
 |ok p=>
  rw[ef]at o';intro G' H' S st fr tw;exact⟨rfl,o' (.ref y) S G' H' st fr tw⟩
 |ex z=>rw[ef]at o';exact EXof.in o'
 |no=>rw[ef]at o';exact o'
end
def w_4(js:List Nat)(f:FE):SE->FM:=λ Δ=>match f (Aw (gsome js Δ)) with
 | .ok w=> .ok w.d (gsome js Δ)
 | .ex x=> .ex x (gsome js Δ)
 | .no=> .no
def Ge(js:List Nat)(g:SE->FM):SE->FM:=λ Δ=>g (gsome js Δ)
def Ce(f:FE)(ga:SE->R (List D)):SE->R (List D):=λ Δ=>match f (Aw Δ) with
 | .ok w=>(match ga Δ with
  | .ok ds=> .ok (w.d::ds)
  | .ex x=> .ex x
  | .no=> .no)
 | .ex x=> .ex x
 | .no=> .no
def br_0(fg:FG)(g:SE->FM):FS:=λ Δ=>match g Δ with
 | .ok d Δ1=>(match fg d Δ1 with
  | .ok Δ2=> .nx Δ2
  |_=> .no)
 | .ex x Δ1=> .ex x Δ1
 | .no=> .no
def br_1(g:SE->FM)(fg:FG)(gb:FS):FS:=λ Δ=>match g Δ with
 | .ok d Δ1=>(match cp_2 d with
  | .ok ds=>Cu fg gb ds Δ1
  |_=> .no)
 | .ex x Δ1=> .ex x Δ1
 | .no=> .no
def cc_3(i:Nat)(fk:FE):FS:=λ Δ=>match Δ[i]? with
 |some (.ow (.dic kds))=>(match fk (Aw Δ) with
  | .ok z=>(match Dv z.d with
   |some k=>if(Bh kds k).isSome=true then .nx (Δ.set i (.ow (.dic (Eo kds k)))) else .no
   |none=> .no)
  |_=> .no)
 |_=> .no
section
variable{X:Cx}{EX:Az}{e:Expr}{es:List Expr}{f:FE}{g:SE->FM}{ga:SE->R (List D)}{pos:Pos}
def aj_2(js:List Nat)(he:ED X EX e f):EM X EX e (w_4 js f):=PE.imp he λ σ H Q ⟨H0,G0,G,Δ,O,E,q⟩=>by
 obtain⟨G1,O1,sg,E1⟩:=E.gsome js;unfold w_4 at q;refine⟨G1,Aw (gsome js Δ),E1.st.gh,E1.gsh, ?_⟩;cases e1:f (Aw (gsome js Δ)) with
 |ok w=>simp only[e1]at q;exact WP.intro λv G' H' st r=>q v G' H' O1 (E1.grow st) (sg.trans st.gg) r
 |ex x=>simp only[e1]at q;exact q G1 H O1 E1 sg
 |no=>simp only[e1]at q;exact q.elim
def t_4(js:List Nat)(he:EM X EX e g):EM X EX e (Ge js g):=PE.imp he λ σ H Q ⟨H0,G0,G,Δ,O,E,q⟩=>by
 obtain⟨G1,O1,sg,E1⟩:=E.gsome js;exact⟨H0,G0,G1,gsome js Δ,O1,E1,OutM.mono sg q⟩
def h_3(ha:ED X EX e f)(hr:AM X EX es ga)(hs:starEach (e::es) X.env=(false,eval e X.env)::starEach es X.env:=by rfl):AM X EX (e::es) (Ce f ga):=
 PA.imp (j_2 ha hr hs) λ σ H Q ⟨H0,G0,G,Δ,O,E,q⟩=>by
  unfold Ce at q;refine⟨G,Aw Δ,E.st.gh,E.gsh, ?_⟩;cases e1:f (Aw Δ) with
  |ok w=>
   simp only[e1]at q;refine WP.intro λv G1 H1 st r=>⟨H0,G0,G1,Δ,O,E.grow st, ?_⟩;cases e2:ga Δ with
   |ok ds=>simp only[e2]at q;exact λvs G2 H2 E2 s2 r2=>q (v::vs) G2 H2 E2 (st.gg.trans s2) (.cons (r.mono s2) r2)
   |ex x=>simp only[e2]at q;exact λG2 H2 E2 s2=>q G2 H2 E2 (st.gg.trans s2)
   |no=>simp only[e2]at q
  |ex x=>simp only[e1]at q;exact q G H E (Same.refl _)
  |no=>simp only[e1]at q
def de_1{fg:FG}{tg:Expr}(he:EM X EX e g)(hg:GD X EX tg fg)(hs:swapsWithSole [tg] e pos.line X.env=pure false:=by rfl)(hw:swappedStores [tg] e X.env=pure none:=by rfl)
  (h1:(assignEach [tg] X.env).map (·.2)= [assign tg X.env]:=by rfl):SD X EX (.Assign [tg] e pos) (br_0 fg g):=
 PS.imp (cl_5 he hg hs hw h1) λD σ H ⟨H0,G0,G,Δ,O,E,q⟩=>by
  refine⟨H0,G0,G,Δ,O,E, ?_⟩;unfold br_0 at q;cases e1:g Δ with
  |ok d Δ1=>
   simp only[e1]at q;intro v G1 H1 O1 E1 s1 r1;refine⟨H0,G0,G1,Δ1,O1,d,E1,r1, ?_⟩;cases e2:fg d Δ1 with
   |ok Δ2=>simp only[e2]at q;exact λ σ' G2 H2 O2 E2 s2=>q σ' G2 H2 O2 E2 (s1.trans s2)
   |ex x=>simp only[e2]at q;exact q.elim
   |no=>simp only[e2]at q;exact q.elim
  |ex x Δ1=>simp only[e1]at q;exact λG1 H1 O1 E1 s1=>q σ G1 H1 O1 E1 s1
  |no=>simp only[e1]at q;exact q.elim
def de_2{elts:List Expr}{x1:Nat}{tp p p2:Pos}{a:Expr}{body:List Stmt}{fg:FG}{gb:FS}(hp:PassesOwn (model X.prog X.w) X.A X.env X.xe)(hc:X.calm=true)(hm:X.mg "enumerate" =none)(he:EM X EX a g)(hg:GD X EX (.Tuple elts x1 tp) fg)(hb:BD X EX body gb)
  (hgl:Gl X "enumerate" :=by rfl) (hst:starEach [a] X.env= [(false,eval a X.env)]:=by rfl) (hs1:starEach [a] X.env=(false,eval a X.env)::starEach [] X.env:=by rfl) (hs:∀x,foldedSetIterable (.Call (.Name "enumerate" p) [a] [] p2) X.env x=pure x:=by intro _;rfl):
  SD X EX (.For (.Tuple elts x1 tp) (.Call (.Name "enumerate" p) [a] [] p2) body [] pos) (br_1 g fg gb):=
 PS.imp (bt_7 hp hc (ca_3 hgl hm (j_2 he q_2 hs1) hst) hg hb hs) λD σ H ⟨H0,G0,G,Δ,O,E,q⟩=>by
  refine⟨H0,G0,G,Δ,O,E, ?_⟩;unfold br_1 at q;cases e1:g Δ with
  |ok d Δ1=>
   simp only[e1]at q;intro v G1 H1 O1 E1 s1 r1;cases d with
   |lst ds=>
    cases r1 with
    |lst h r=>exact .inl ⟨_,rfl,⟨_,E1.st.gh.seq h⟩,r_9 E1 (ca_4 h r) (Fin.mono s1 q)⟩
   |str z=>
    cases r1;exact .inr ⟨z,rfl,r_9 E1 (ca_5 z) (Fin.mono s1 q)⟩
   |_=>exact q.elim
  |ex x Δ1=>simp only[e1]at q;exact λG1 H1 O1 E1 s1=>q σ G1 H1 O1 E1 s1
  |no=>simp only[e1]at q;exact q.elim
def de_3{i:Nat}{x:Str}{e2:Expr}{fk:FE}{p1 zg zf:Pos}(h2:ED X EX e2 fk)(hN:X.N[i]? =some x:=by rfl)(hv:Fd X.env.scope x:=by trivial)(hd:AG x:=by decide)
  (hcd:(x ==("__classdict__" :Str))=false:=by decide) (hm:M1 X (.Name x p1) "pop" zg e2 zf:=by exact⟨rfl,rfl,rfl,rfl⟩)
  (hs:swapsWith (.Call (.Attribute (.Name x p1) "pop" zg) [e2] [] zf) none pos.line X.env=pure false:=by rfl):
  SD X EX (.Expr (.Call (.Attribute (.Name x p1) "pop" zg) [e2] [] zf) pos) (cc_3 i fk):=
 PS.imp (x_2 (bm_9 (Ff hN hv hd hcd) h2 hm) hs) λD σ H ⟨H0,G0,G,Δ,O,E,q⟩=>by
  unfold cc_3 at q
  split at q
  ·rename_i kds e1;obtain⟨v0,s1,t⟩:=E.ow i _ _ e1 rfl;obtain⟨c1,kvc,rfl,mc,hHc,hkc,rlc⟩:=Ow.dict_of t;refine⟨_,s1,c1,rfl,.inl ⟨kvc,.inl hHc⟩, ?_⟩;refine⟨G,Aw Δ,E.st.gh,E.gsh, ?_⟩;cases e3:fk (Aw Δ) with
   |ex x=>simp only[e3]at q;exact q.elim
   |no=>simp only[e3]at q;exact q.elim
   |ok z=>
    simp only[e3]at q;refine WP.intro λv2 G2 H2 st2 r2=> ?_
    split at q
    ·rename_i k0 ek
     split at q
     ·rename_i hin;have hv2:=s_9 r2 ek;subst hv2;have E2:=E.grow st2;obtain⟨d0,ed0⟩:=L6.mp hin;obtain⟨vv,ev,_⟩:=(y_3 k0 hkc rlc).2 d0 ed0;obtain⟨p1,p2⟩:=av_3 k0 hkc rlc;exact⟨kvc,k0,vv,st2.hh _ _ hHc,rfl,ev,q σ G2 _ _ (E2.writeD s1 mc p1 (p2.mono st2.gg)) st2.gg⟩
     ·exact q.elim
    ·exact q.elim
  ·exact q.elim
end
def br_2{c:Bool}{P:Program}{w:World}{x qual:Str}{st:Stmt}{f:Addr}{N ps:List Str}{k n:Nat}{g:FS}(F:Fun K x qual st f fd)(hn:ps.length=n + 1)(hle:ps.length<=N.length)
  (zj:HBd c P w K mg base N qual st f k g) (S:FnScope N ps (Ch st):=by exact⟨rfl,rfl,rfl,by decide +kernel,rfl,by decide +kernel,by decide +kernel⟩):FnX P w K mg base c (k + 1) f fd ps (spR K n (w_3 N.length g)):=
 fn_R F S hn hle λzp A outer s H E hr=>zj rfl hr (RoomC.units hr) S.nd bh_4
def du_5{c:Bool}{P:Program}{w:World}{x qual cn:Str}{st:Stmt}{f C:Addr}{N ps:List Str}{k n:Nat}{g:FS}(F:Fun K x qual st f fd)(hC:ClsAt K cn C)(hn:ps.length=n + 1)(hle:ps.length<=N.length)
  (zj:HBd c P w K mg base N qual st f k g) (S:FnScope N ps (Ch st):=by exact⟨rfl,rfl,rfl,by decide +kernel,rfl,by decide +kernel,by decide +kernel⟩):FnX P w K mg base c (k + 1) f fd ps (spJ K C cn n (Fc N.length cn g)):=
 fn_J F S hC hn hle λzp A outer s H E hr=>zj rfl hr (RoomC.units hr) S.nd bh_4
section
variable{P:Program}{w:World}{K:Frag}{mg:AB}{base:Heap}{cc:Bool}{k n:Nat}{ps:List Str}{st:Stmt}{Fn:Tn->List D->RR}{m q c:Str}{C:Addr}
def cc_4(xa:ClsAt K c C)(cl:Cls K C)(W:FnMet K C m q st)(ok:∀{f:Addr} {fd:FuncData},Fun K m q st f fd->FnX P w K mg base cc k f fd ps (spR K n Fn)/\Binds K fd ps []):MethR P w K mg base cc k n m c Fn:=by
 obtain⟨f,a,⟨fd,F⟩,kp,i⟩:=W;exact⟨⟨C,f,fd,ps,xa,cl,⟨a,i,kp⟩,(ok F).1,(ok F).2⟩⟩
def de_4{x:Str}{h:Heap}(X:K.In h)(G:h.Ns mainGlobals mg)(W:FnTop K x st)(ok:∀{f:Addr} {fd:FuncData},Fun K x x st f fd->FnX P w K mg base cc k f fd ps (spR K n Fn)/\Binds K fd ps []):FnRd P w K mg base cc x k n ps Fn:=by
 obtain⟨f,a,fd,F⟩:=W;exact dp_2 F (mg_of X G a) (ok F).2 (ok F).1
def dp_3{Fi:List D->R (List Str×List Tn)}(xa:ClsAt K c C)(gx:mg c=some (.ref C))(ms:makesIn K C=true)(kc:keepIn K (.ref C)=true)(W:FnMet K C "__init__" q st)(ok:∀{f:Addr} {fd:FuncData},Fun K "__init__" q st f fd->FnX P w K mg base cc k f fd ps (spJ K C c n Fi)/\Binds K fd ps []):MakJ P w K mg base cc c k n Fi:=by
 obtain⟨f,a,⟨fd,F⟩,kp,i⟩:=W;exact⟨C,f,fd,ps,xa,gx,⟨ms,a,i,kc⟩,(ok F).1,(ok F).2⟩
end
def de_5{Δ:SE}{i:Nat}{s:Sl}{t t':Tn}{lk:Bool}(e:Δ[i]? =some s)(q:s.tree=some (t,lk)):Aw (Δ.set i (Sl.mk lk t'))=Aw Δ:=by
 unfold Aw;rw[List.map_set];apply U1;intro j
 by_cases h:i=j
 ·subst h;have hlt:i < Δ.length:=(B4.mp e).1;rw[J7 (by rw[A3];exact hlt),A8,e];cases lk <;> cases s <;> first|rfl|cases q
 ·rw[C7 h]
def sSdb(i:Nat)(f1 f2:FE):FS:=λ Δ=>match(Δ[i]?).bind Sl.tree with
 |some (.dic zm,lk)=>(match f1 (Bj Δ) with
   | .ok z1=>(match Dv z1.d with
    |some k1=>if zm.length < 16777216 then(match Bh (sdK zm k1) k1 with
     |some (.lst ts)=>if ts.length < 16777216 then(match f2 (Aw Δ) with
      | .ok z2=> .nx (Δ.set i (Sl.mk lk (.dic (Dn (sdK zm k1) k1 (.lst (ts ++ [.sh z2.d]))))))
      |_=> .no) else .no
     |_=> .no) else .no
    |none=> .no)
   |_=> .no)
 |_=> .no
section
variable{X:Cx}{EX:Az}{pos:Pos}
def cc_5{H0:HB}{G0 G H:Hp}{σ:Sg}{Δ:SE}{O:OS}{D:Ends}{i:Nat}{s:Sl}{zm:List (Af×Tn)}{lk:Bool}{k:Af}{ts:List Tn}{f2:FE}{z2:W}(E:Ev K H0 G0 G H σ Δ O)(e1:Δ[i]? =some s)(etr:s.tree=some (.dic zm,lk))(ev:Bh zm k=some (.lst ts))(hz:ts.length < 16777216)(ef:f2 (Aw Δ)=.ok z2)
  (q:∀σ' G' H' O',Ev K H0 G0 G' H' σ' (Δ.set i (Sl.mk lk (.dic (Dn zm k (.lst (ts ++ [.sh z2.d])))))) O'->Same G G'->D.nx σ' H'):
  ∃c a kvs,σ[i]? =some (some (.ref a))/\H a=some (.dK kvs)/\Co kvs k=some (.ref c)/\tyV K "list" (.ref c) H/\tD K EX f2 σ H λy H2=>bg_4 (.ref c) [y] H2 λ_ H3=>D.nx σ H3:=by
 obtain⟨v0,s1,t⟩:=E.ow i _ _ e1 (Sl.tree_own etr);obtain⟨a,kvs,S1,rfl,m,hH,hk,sub,rl⟩:=t.dic_of;obtain⟨vc,Sc,ec,tc,ic,fc⟩:=OwL.focusK k hk rl ev;cases tc with
 |lst hc mc subc rc=>
  rename_i c vs S2;have hca:c≠a:=(sub c (ic c mc)).2;refine⟨c,a,kvs,s1,hH,ec,.inl ⟨rfl,_,SqL.of hc⟩,G,Aw Δ,E.st.gh,E.gsh, ?_⟩;rw[ef];refine WP.intro λy G2 H2 st2 r2=> ?_;have E2:=E.grow st2;have zk:vs.length < sizeLine:=by rw[rc.length,F1];exact hz
  refine⟨c,vs,y,rfl,rfl,st2.hh _ _ hc,zk, ?_⟩;refine q σ G2 _ _ (E2.writeIn e1 etr s1 (sub c (ic c mc)).1 ?_) st2.gg;obtain⟨vc',Sc',ec',tc',ic',fc'⟩:=OwL.focusK k hk (OwL.mono st2.gg rl (λ_ _ _ z=>z) λ_ z=>z) ev;rw[ec]at ec';cases ec';cases tc' with
  |lst hc' mc' subc' rc'=>
   rename_i vs' S2';rw[hc]at hc';cases hc';refine Ow.dic (S1:=S1) (by rw[Ao (Ne.symm hca)];exact st2.hh _ _ hH) (by rw[am_6];exact hk) m sub ?_;refine fc' (λb o hb nb z=> ?_) ?_
   ·rw[Ao (show b≠c from λw=>nb (by rw[w];exact mc'))];exact st2.hh _ _ z
   ·refine Ow.lst (S1:=S2') Bk mc' subc' (OwL.append (S2:=λ_=>False) (rc'.mono (Same.refl _) (λb o hb z=> ?_) λ_ z=>z) (.cons (S1:=λ_=>False) (S2:=λ_=>False) (.sh r2) .nil (λ_ z=>z.elim) (λ_ z=>z) λ_ z=>z) (λ_ _ z=>z) (λ_ z=>z) λ_ z=>z.elim);rw[Ao (subc' b hb).2];exact st2.hh _ _ z
def cs_1{i:Nat}{x:Str}{e1 e2:Expr}{f1 f2:FE}{p1 lp a1 c1 zg zf:Pos}(h1:ED X EX e1 f1)(h2:ED X EX e2 f2)(hN:X.N[i]? =some x:=by rfl)(hv:Fd X.env.scope x:=by trivial)(hd:AG x:=by decide)
  (hcd:(x ==("__classdict__" :Str))=false:=by decide) (hm:M2 X (.Name x p1) "setdefault" a1 e1 (.List [] lp) c1:=by exact⟨rfl,rfl,rfl,rfl⟩)
  (hsw:swapsWith (.Call (.Attribute (.Call (.Attribute (.Name x p1) "setdefault" a1) [e1,.List [] lp] [] c1) "append" zg) [e2] [] zf) none pos.line X.env=pure false:=by rfl)
  (ae:attributeBase (.Call (.Attribute (.Name x p1) "setdefault" a1) [e1,.List [] lp] [] c1) "append" X.env (eval (.Call (.Attribute (.Name x p1) "setdefault" a1) [e1,.List [] lp] [] c1) X.env)=eval (.Call (.Attribute (.Name x p1) "setdefault" a1) [e1,.List [] lp] [] c1) X.env:=by rfl)
  (bb:((backTo zf (starEach [e2] X.env)).all (λx=> !x.1) && (backToKw zf (keywordEach [] X.env)).all (λx=>x.1.isSome)
   && decide ([e2].length + ([]:List Keyword).length + (if([]:List Keyword).isEmpty then 0 else 1) < 30))=true:=by rfl)
  (af:(zg.endLine ==zf.line)=true:=by rfl) (hs:starEach [e2] X.env=(false,eval e2 X.env)::starEach [] X.env:=by rfl) (ag:(backTo zf (starEach [] X.env)).any (·.1)=false:=by rfl):
  SD X EX (.Expr (.Call (.Attribute (.Call (.Attribute (.Name x p1) "setdefault" a1) [e1,.List [] lp] [] c1) "append" zg) [e2] [] zf) pos) (sSdb i f1 f2):=
 PS.imp (x_2 (by_9 Q1 Y4 Y5 al_4 (dd_1 (Ff hN hv hd hcd) h1 (bu_6 q_2) hm) (j_2 h2 q_2 hs) ae bb af hs ag) hsw) λD σ H ⟨H0,G0,G,Δ,O,E,q⟩=>by
  unfold sSdb at q
  split at q
  ·rename_i zm lk e0;obtain⟨s,e1,etr⟩:=K0.mp e0;obtain⟨v0,s1,t⟩:=E.ow i _ _ e1 (Sl.tree_own etr);obtain⟨a,kvs,S1,rfl,m,hH,hk,sub,rl⟩:=t.dic_of;refine⟨.ref a,s1,a,rfl,.inl ⟨kvs,.inl hH⟩,Dd G H O,Bj Δ,E.aH,E.gall, ?_⟩;cases e3:f1 (Bj Δ) with
   |ex x=>simp only[e3]at q;exact q.elim
   |no=>simp only[e3]at q;exact q.elim
   |ok z1=>
    simp only[e3]at q;refine WP.intro λv1 G1 H1 st1 r1=> ?_
    split at q
    ·rename_i k1 ek1
     split at q
     ·rename_i hl
      split at q
      ·rename_i ts ev
       split at q
       ·rename_i hz;cases e4:f2 (Aw Δ) with
        |ex x=>simp only[e4]at q;exact q.elim
        |no=>simp only[e4]at q;exact q.elim
        |ok z2=>
         simp only[e4]at q
         ·have hv1:=s_9 r1 ek1;subst hv1;refine⟨K6 _,λp hp=> ?_⟩;have E3:=E.keep st1.hh;have E5:=E3.keep (j_4 hp (.lst []));have hle:kvs.length=zm.length:=by
           have:=K5 List.length hk
           rwa[A3,A3]at this
          have hH5:upd H1 p (.lst []) a=some (.dK kvs):=j_4 hp _ _ _ (st1.hh _ _ hH);refine⟨kvs,k1,hH5,rfl,by rw[hle,F1];exact hl,λv hv=> ?_,λhn=> ?_⟩
          ·have hA:sdK zm k1=zm:=by
            unfold sdK;cases hA:Bh zm k1 with
            |some t=>rfl
            |none=>rw[bq_1 hk hA]at hv;cases hv
           rw[hA]at ev q;obtain⟨c,a',bj,s1',hH',ec,ty,td⟩:=cc_5 (D:=D) (EX:=EX) E5 e1 etr ev hz e4 q;rw[s1]at s1';cases s1';rw[hH5]at hH';cases hH';rw[hv]at ec;cases ec;exact⟨ty,td⟩
          ·have hA:Bh zm k1=none:=by
            cases hA:Bh zm k1 with
            |none=>rfl
            |some t=>
             obtain⟨v',_,ev',_⟩:=OwL.focusK k1 hk rl hA;rw[hn]at ev';cases ev'
           have hK:sdK zm k1=zm ++ [(k1,.lst [])]:=by unfold sdK;rw[hA]
           rw[hK]at ev q;have npO:∀j b,O j b->b≠p:=λj b hb z=>by
            have h0:=(E.out j b hb).2.2;cases e:H b with
            |none=>exact h0 e
            |some o=>rw[z]at e;rw[st1.hh _ _ e]at hp;cases hp
           have hap:a≠p:=npO i a m;have de:(kvs.any λkv=>decide (kv.1=k1))=false:=by
            rw[aa_6,hn];rfl
           have cw:Em kvs k1 (.ref p)=kvs ++ [(k1,.ref p)]:=by
            rw[ca_9];unfold Di;rw[de];rfl
           rw[cw];have Gp:G p=none:=E3.st.gh.free hp;have old:∀b o,H1 b=some o->upd H1 p (.lst []) b=some o:=λb o z=>j_4 hp _ b o z;have hp1:upd H1 p (.lst []) p=some (.lst []):=Bk;have ms:MStep2 (O i) G H1 G (upd (upd H1 p (.lst [])) a (.dK (kvs ++ [(k1,.ref p)]))):=⟨λb o nb z=>by rw[Ao (λw=>nb (by rw[w];exact m))];exact old b o z,λb o z=>by
            have:b≠a:=λw=>by rw[w,(E.out i a m).1]at z;cases z
            rw[Ao this];exact old b o (E3.st.gh b o z),Same.refl _,λb _ z _=>z⟩
           have E6:Ev X.K H0 G0 G (upd (upd H1 p (.lst [])) a (.dK (kvs ++ [(k1,.ref p)]))) σ (Δ.set i (Sl.mk lk (.dic (zm ++ [(k1,.lst [])])))) (x_9 O i λb=>O i b\/b=p):=by
            refine E3.step2 (S:=λb=>O i b\/b=p) (Sl.mk_own lk _) (Sl.mk_lk lk _) (E3.mk_lt e1 etr _) ms s1 (λb hb=> ?_) ?_
            ·rcases hb with hb|hb
             ·refine⟨.inl hb,(E3.out i b hb).1, ?_⟩
              by_cases w:b=a
              ·rw[w,Bk];simp
              ·rw[Ao w];cases e:H1 b with
               |none=>exact absurd e (E3.out i b hb).2.2
               |some o=>rw[old b o e];simp
             ·subst hb;exact⟨.inr hp,Gp,by rw[Ao (Ne.symm hap),hp1];simp⟩
            ·refine Ow.dic (S1:=λb=>S1 b\/b=p) Bk (by rw[E9,E9,hk];rfl) (.inl m) (λb hb=> ?_) ?_
             ·rcases hb with hb|hb
              ·exact⟨.inl (sub b hb).1,(sub b hb).2⟩
              ·subst hb;exact⟨.inr rfl,Ne.symm hap⟩
             ·rw[E9,E9];refine OwL.append (S2:=λb=>b=p) (rl.mono (Same.refl _) (λb o hb z=> ?_) λ_ z=>z) (.cons (S1:=λb=>b=p) (S2:=λ_=>False) (.lst (S1:=λ_=>False) (by rw[Ao (Ne.symm hap)];exact hp1) rfl (λ_ z=>z.elim) .nil) .nil (λ_ _ z=>z) (λ_ z=>z) λ_ z=>z.elim) (λb z1 z2=>npO i b (sub b z1).1 z2) (λb z=> .inl z) λb z=> .inr z;rw[Ao (sub b hb).2];exact old _ _ (st1.hh _ _ z)
           have hlt:i < Δ.length:=(B4.mp e1).1;obtain⟨c,a',bj,s1',hH',ec,ty,td⟩:=cc_5 (D:=D) (EX:=EX) (lk:=lk) E6 (s:=Sl.mk lk (.dic (zm ++ [(k1,.lst [])]))) (by rw[J7 hlt]) (by cases lk <;> rfl) ev hz (by rw[de_5 e1 etr];exact e4) (λ σ' G' H' O' E' sg=>q σ' G' H' O' (by rw[List.set_set]at E';exact E') sg);rw[s1]at s1';cases s1';rw[Bk]at hH';cases hH';rw[<-cw,cn_4,if_pos rfl]at ec;cases ec;exact⟨ty,td⟩
       ·exact q.elim
      ·exact q.elim
     ·exact q.elim
    ·exact q.elim
  ·exact q.elim
end
def br_3(a b:D):R W:=match a,b with
 | .dic ka,.dic []=> .ok (.sh (.bl (!ka.isEmpty)))
 |_,_=> .no
def cs_2(fk fv:FE):FE:=λ δ=>(fk δ).bind λk=>match Dv k.d with
 |some kk=>(fv δ).bind λv=> .ok (.ow (.dic [(kk,v.d)]))
 |none=> .no
def br_4(i j:Nat)(f:FE):FS:=λ Δ=>match Δ[j]? with
 |some (.ow (.lst es))=>(match f (Bj Δ) with
  | .ok z=>(match z.d with
   | .int k=>if 0<=k/\k < (es.length:Int)/\es.length<=16777216 then(match es[k.toNat]? with
    |some d=> .nx ((Δ.set j (.ow (.lst (es.eraseIdx k.toNat)))).set i (.sh d))
    |none=> .no) else .no
   |_=> .no)
  |_=> .no)
 |_=> .no
def eKL(f:FE):FE:=λ δ=>(f δ).bind λw=>match w.d with
 | .dic kds=> .ok (.ow (.lst (kds.map λp=>kD p.1)))
 |_=> .no
section
variable{X:Cx}{EX:Az}{pos:Pos}
def cs_3(hu:X.A.units + 64 < cLine):Eu X (compareOp .NotEq) br_3:=by
 intro zd s σ H x y v u Q I rx ry h;obtain⟨EX,G,a,b,g,ha,hb,o⟩:=h;cases ha with
 |dic h1 hk1 r1=>
  rename_i a1 kvs1 kds1;cases hb with
  |dic h2 hk2 r2=>
   rename_i a2 kvs2 kds2;cases kds2 with
   |cons _ _=>exact False.elim o
   |nil=>
    cases rx;cases ry;obtain⟨z1,lo1,ws1,kv1,dd1⟩:=q_8 I.hok (Same.rdD g h1);obtain⟨z2,lo2,ws2,kv2,dd2⟩:=q_8 I.hok (Same.rdD g h2);have e2:kvs2= []:=List.map_eq_nil_iff.mp hk2;subst e2;cases kv2;have hl:ws1.length=kds1.length:=by
     rw[<-kv1.length];have:=K5 List.length hk1
     rwa[A3,A3]at this
    refine keq_ne (r:=true) lo1 lo2 dd1 dd2 () (λe=> ?_) ?_
    ·have:ws1= []:=V9 e;subst this;exact .nil
    ·have e3:(!(ws1.length ==([]:List (Af×Value)).length && true))= !kds1.isEmpty:=by
      cases kds1 with
      |nil=>rw[F9]at hl;rw[hl];rfl
      |cons p r=>rw[A9]at hl;rw[hl];simp
     rw[e3];exact⟨.bl _,H,I,rfl,(show WP X.K G H (.sh (.bl (!kds1.isEmpty))) Q from o).use g (.bl _)⟩
  |_=>exact False.elim o
 |_=>exact False.elim o
def de_6{e1 e2:Expr}{fk fv:FE}(hk:ED X EX e1 fk)(hv:ED X EX e2 fv):ED X EX (.Dict [some e1] [e2] pos) (cs_2 fk fv):=
 PE.imp (da_0 (cn_7 hk hv cz_9) rfl rfl (by simp) (Nat.le_of_ble_eq_true rfl)) λ σ H Q ⟨G,δ,g0,s0,o⟩ p hp=>by
  have so:=Step.own g0 hp (.dK []);unfold cs_2 at o;refine⟨G,δ,so.gh,s0, ?_⟩;cases ek:fk δ with
  |ex x=>rw[ek]at o;exact(EX σ).mono _ _ _ _ _ so o
  |no=>rw[ek]at o;exact o
  |ok wk=>
   rw[ek]at o;simp only[R.bind_ok]at o;refine WP.intro λv1 G1 H1 st1 r1=>⟨G1,δ,st1.gh,s0.mono st1.gg, ?_⟩;cases ekk:Dv wk.d with
   |none=>rw[ekk]at o;exact False.elim o
   |some kk=>
    rw[ekk]at o;simp only at o;have hv1:=s_9 r1 ekk;subst hv1;cases ev:fv δ with
    |ex x=>rw[ev]at o;exact(EX σ).mono _ _ _ _ _ (so.trans st1) o
    |no=>rw[ev]at o;exact o
    |ok wv=>
     rw[ev]at o;simp only[R.bind_ok]at o;refine WP.intro λv2 G2 H2 st2 r2=> ?_;have st:=(so.trans st1).trans st2;have hp2:H2 p=some (.dK []):=st2.hh _ _ (st1.hh _ _ Bk);have gp:G p=none:=g0.free hp;have gp2:G2 p=none:=st2.nw p (st1.nw p gp (by rw[Bk];simp)) (by rw[st1.hh _ _ Bk];simp);refine⟨hp2,[(kk,v2)],rfl,Nat.le_of_ble_eq_true rfl, ?_⟩;refine(show WP X.K G H (.ow (.dic [(kk,wv.d)])) Q from o) (.ref p) (λb=>b=p) G2 _ ⟨λb o' z=> ?_,λb o' z=> ?_,st.gg,st.nw⟩ (λa ha=> ?_) ?_
     ·rw[Ao (Et z hp)];exact st.hh b o' z
     ·rw[Ao (Et z gp2)];exact st.gh b o' z
     ·subst ha;exact⟨hp,gp2,by rw[Bk];simp⟩
     ·exact Ow.dict Bk rfl rfl (.cons r2 .nil)
def de_7{i j:Nat}{x y:Str}{e:Expr}{f:FE}{p1 p2 zg zf:Pos}(he:ED X EX e f)(hN:X.N.Nodup)(hi:X.N[i]? =some x:=by rfl)(hx:Loc X.env.scope x:=by trivial)(hj:X.N[j]? =some y:=by rfl)(hv:Fd X.env.scope y:=by trivial)(hd:AG y:=by decide)
  (hcd:(y ==("__classdict__" :Str))=false:=by decide) (hs:swapsWith (.Call (.Attribute (.Name y p1) "pop" zg) [e] [] zf) (some (.Name x p2)) pos.line X.env=pure false:=by rfl)
  (hf:X.fn x=true\/X.env.scope.names.lookup x=some .local:=by trivial)
  (hb2:attributeBase (.Name y p1) "pop" X.env (eval (.Name y p1) X.env)=eval (.Name y p1) X.env:=by rfl)
  (hw2:((backTo zf (starEach [e] X.env)).all (λx=> !x.1) && (backToKw zf (keywordEach [] X.env)).all (λx=>x.1.isSome)
   && decide ([e].length + ([]:List Keyword).length + (if([]:List Keyword).isEmpty then 0 else 1) < 30))=true:=by rfl)
  (hl2:(zg.endLine ==zf.line)=true:=by rfl) (hs2:starEach [e] X.env=(false,eval e X.env)::starEach [] X.env:=by rfl) (hp2:(backTo zf (starEach [] X.env)).any (·.1)=false:=by rfl):
  SD X EX (.Assign [.Name x p2] (.Call (.Attribute (.Name y p1) "pop" zg) [e] [] zf) pos) (br_4 i j f):=
 PS.imp (bt_4 hN hi hx (by_9 Q1 PySem.F.slot_list_pop PySem.F.type_list_pop cm_7 (Ff hj hv hd hcd) (j_2 he q_2 hs2) hb2 hw2 hl2 hs2 hp2) hs hf) λD σ H ⟨H0,G0,G,Δ,O,E,q⟩=>by
  unfold br_4 at q
  split at q
  ·rename_i es e2;obtain⟨v1,s2,t2⟩:=E.ow j _ _ e2 rfl;obtain⟨b,us,rfl,m2,hB,rb⟩:=t2.list_of;refine⟨.ref b,s2,.inl ⟨rfl,_,SqL.of hB⟩,Dd G H O,Bj Δ,E.aH,E.gall, ?_⟩;cases e3:f (Bj Δ) with
   |ex x=>simp only[e3]at q;exact q.elim
   |no=>simp only[e3]at q;exact q.elim
   |ok z=>
    simp only[e3]at q;refine WP.intro λv2 G2 H2 st2 r2=> ?_;revert q r2;cases z.d with
    |int k=>
     intro q r2;cases r2;simp only at q
     split at q
     ·rename_i hk;cases e4:es[k.toNat]? with
      |none=>simp only[e4]at q;exact q.elim
      |some d=>
       simp only[e4]at q;obtain⟨v,e5,hv5⟩:=rb.get e4;have sz:seqIndex? k us.length=some k.toNat:=by
        rw[rb.length];unfold seqIndex?;simp only;have hn:¬k < 0:=by omega
        rw[if_neg hn,if_pos (by simp[hk.1,hk.2.1])]
       refine⟨b,us,k,k.toNat,v,rfl,rfl,st2.hh _ _ hB,by omega,by omega,sz,e5, ?_⟩;exact q _ G _ _ (((E.keep st2.hh).writeL s2 m2 (rb.eraseIdx k.toNat)).put hv5) (Same.refl _)
     ·exact q.elim
    |_=>intro q _;exact False.elim q
  ·exact q.elim
def di_4(to:TE):TE:=λ σ H Q=>to σ H λx H1=>∃a kvs,x=.ref a/\Rd H1 a (.dK kvs)/\∀p,H1 p=none->Q (.ref p) (upd H1 p (.ext λh=>KdlKeysView h p a))
def de_8{o:Expr}{to:TE}{zg zf:Pos}(ho:PE X o to)(ae:attributeBase o "keys" X.env (eval o X.env)=eval o X.env:=by rfl)(af:(zg.endLine ==zf.line)=true:=by rfl):PE X (.Call (.Attribute o "keys" zg) [] [] zf) (di_4 to):=by
 intro zd s σ H Q I h;refine T7 ae af (Bc (ho zd s σ H _ I h) λv s1 ⟨x,H1,I1,r1,a,kvs,ex,rd,q⟩=> ?_);subst ex;obtain rfl:v=Value.ref a:=r1;obtain⟨z,lo,ws,kv,dd⟩:=q_8 I1.hok rd;refine⟨"dict","dict.keys",N9,ZA4,PySem.F.type_dict_keys,dd.typeIs,dd.mapOf.noDict,L0 rfl (W6 ?_)⟩;refine T9 ZA4 dd.typeIs PySem.F.entry_dict_keys (PySem.F.args_dict_keys_1 _) (kdl_meets_keys (Dx X.prog X.w) a lo) ⟨⟨ws,dd⟩, ?_⟩;have hf:H1 s1.heap.objs.size=none:=I1.hok.fresh (B5 _);refine⟨.ref s1.heap.objs.size,_,I1.laid (t':=s1.toks) (λb u e=>A4 _ e) (B5 _) ?_,rfl,q _ hf⟩;have hv:KdlKeysView (s1.heap.push {cls:=.type "dict_keys",data:=.fields #[.ref a]}) s1.heap.objs.size a:=⟨_,B8 _ rfl,rfl,rfl⟩;exact⟨hv,⟨_,B8 _ rfl⟩,λh1 h2 ⟨o,e1,e2⟩ k=>⟨o,k o e1,e2⟩⟩
def cs_4{o:Expr}{f:FE}{p zg zf:Pos}(hc:X.calm=true)(hm:X.mg "list" =none)(he:ED X EX o f)(hg:Gl X "list" :=by rfl)(ae:attributeBase o "keys" X.env (eval o X.env)=eval o X.env:=by rfl)(af:(zg.endLine ==zf.line)=true:=by rfl)
  (hs:starEach [.Call (.Attribute o "keys" zg) [] [] zf] X.env= [(false,eval (.Call (.Attribute o "keys" zg) [] [] zf) X.env)]:=by rfl) (hs1:starEach [.Call (.Attribute o "keys" zg) [] [] zf] X.env=(false,eval (.Call (.Attribute o "keys" zg) [] [] zf) X.env)::starEach [] X.env:=by rfl):
  ED X EX (.Call (.Name "list" p) [.Call (.Attribute o "keys" zg) [] [] zf] [] pos) (eKL f):=by
 intro zd s σ H Q I h;obtain⟨G,δ,g0,s0,h⟩:=h;have ta:cm_3 (di_4 (tD X.K EX f)) tNil σ H λvs H2=>∃(G1 H1:Hp) (a:Addr) (kvs:List (Af×V)) (kds:List (Af×D)) (pv:Addr),vs= [.ref pv]/\H1 pv=none/\H2=upd H1 pv (.ext λh=>KdlKeysView h pv a)/\Same G1 H1/\Rd G1 a (.dK kvs)/\kvs.map (·.1)=kds.map (·.1)/\WP X.K G1 H1 (.ow (.lst (kds.map λp:Af×D=>kD p.1))) Q:=by
  refine tD.seq g0 s0 h λw v G1 H1 _ st r o'=> ?_;revert o' r;cases w.d with
  |dic kds=>
   intro r o';cases r with
   |dic hr hk rr=>exact⟨_,_,rfl,Same.rdD st.gh hr,λpv hp=>⟨G1,H1,_,_,kds,pv,rfl,hp,rfl,st.gh,hr,hk,o'⟩⟩
  |_=>intro _ o';exact False.elim o'
 refine Call_ (x_1 I hg hm U6 (N0 (Bc ((j_2 (de_8 he ae af) q_2 hs1) pos zd s σ H _ I ta) λus s1 ⟨vs,H2,I2,r1,G1,H1,a,kvs,kds,pv,ev,hp,eH,g1,rd,hk,q⟩=> ?_) hs rfl));subst ev;obtain⟨u,rfl,ru⟩:=r1.one;cases ru;have hv:H2 pv=some (.ext λh=>KdlKeysView h pv a):=by rw[eH,Bk]
 have g2:Same H1 H2:=by rw[eH];exact j_4 hp _
 obtain⟨vw,_,_⟩:=I2.hok pv _ hv;obtain⟨z,lo,ws,kv,dd⟩:=q_8 I2.hok (Same.rdD (g1.trans g2) rd);obtain⟨ep,da⟩:=dd.dictAt;refine kdl_call (kdl_keys (r:=pv) (d:=a)) (I2.ok.hd hc) ⟨vw,da⟩ (by rw[<-kv.length];exact z) λh' tk zn c kk hat it=> ?_;have rv':Vals ((kvs.map (·.1)).map kV) zn.toList:=am_8 kv (by rw[P8];exact it.1) λj v e=>it.2 j v (by rw[<-U9];exact e);have fr:H2 s1.heap.objs.size=none:=I2.hok.fresh (B5 _);refine⟨.ref _,upd H2 _ (.lst _),I2.laid (t':=tk) kk (B5 _) ⟨?_,zn.toList,c,rv',by simpa using hat⟩,rfl, ?_⟩
 ·rw[A3,A3];exact z
 ·have e:(kds.map λp=>kD p.1)=(kvs.map (·.1)).map kD:=by rw[hk,L8];rfl
  rw[e]at q;have st:Step G1 H1 G1 H2:=⟨g2,g1.trans g2,Same.refl _,λ_ n _=>n⟩;exact ac_5 (EX:=EX0) (show Out X.K EX0 G1 H2 (.ok (.ow (.lst ((kvs.map (·.1)).map kD)))) Q from WP.mono st q) (g1.trans g2) (cb_0 _) _ fr
end
end L3
namespace PySem.W
open PySem PySem.Calls PyProof.Rows PySem.Spec
section
variable{prog:Program}{w:World}{A:Around}{E:AA}{s:Shared}{T:String}{r d:Addr}{n:Nat}{P:Nat->Value->Prop}{OK:Heap->Prop}
def collect_kdl{Q:List Value->Shared->Prop}(K:KdlSrc prog w T r d n P OK)(hh:A.handled=none)(hok:OK s.heap)(hn:n<=sizeLine)
  (hQ:∀h' tk zn,(∀b o,s.heap.get? b=some o->h'.get? b=some o)->s.heap.objs.size<=h'.objs.size->ItemsOf P zn n->Q zn.toList {s with heap:=h',toks:=tk}):wpAny (model prog w) A (collect (.ref r)) Q E s:=by
 have hlt:=K.there _ hok;unfold collect;refine A7 (wpAny_runValue (codeAny_builtin PySem.F.entry_proto_collect ?_));rw[Around.under_plainId PySem.F.plain_proto_collect _];show wpAny _ A.in1 (newList [] >>=λl=>again (.builtin "list.__iadd__" ⟨[l,.ref r],[]⟩)) _ _ s;refine A7 (Y0 ?_);refine F0 ⟨plainId_quiet Z3 _,codeAny_builtin PySem.F.entry_list_iadd ?_⟩;rw[Around.under_plainId Z3 _];have hS₁:(s.heap.push {cls:=.type "list",data:=.seq ([]:List Value).toArray}).get? s.heap.objs.size=some {cls:=.type "list",data:=.seq #[] 0}:=B8 _ rfl;show wpAny _ A.in1 (Builtin.List.listExtendWith (.ref s.heap.objs.size) (.ref r) (.ref s.heap.objs.size)) _ _ _;have fin:∀{rr:Result} {s':Shared},(∃h' tk aw c',rr=.ok (.ret (.ref s.heap.objs.size))/\s'={s with heap:=h',toks:=tk}/\(∀b o,b≠s.heap.objs.size->(s.heap.push {cls:=.type "list",data:=.seq ([]:List Value).toArray}).get? b=some o->h'.get? b=some o)/\h'.get? s.heap.objs.size=some {cls:=.type "list",dict:=none,data:=.seq aw c',slots:= #[]}/\ItemsOf P aw n)->
   rr=.ok (.ret (.ref s.heap.objs.size))/\wpAny (model prog w) A (load s.heap.objs.size >>=λo=>match o.data with| .seq xs _=>pure xs.toList|_=>unsupported "internal:collect") Q E s':=by
  rintro rr s' ⟨h',tk,aw,c',rfl,rfl,hk,hS',cu⟩
  refine⟨rfl,A7 (wpAny_load hS' ?_)⟩;exact F0 (hQ h' tk aw (λb o e=>hk b o (D7 (A5 e)) (A4 _ e)) (P0 (A5 hS')) cu)
 refine F3 (kdl_extend (R:=λrr s'=>∃h' tk aw c',rr=.ok (.ret (.ref s.heap.objs.size))/\s'={s with heap:=h',toks:=tk}/\(∀b o,b≠s.heap.objs.size->(s.heap.push {cls:=.type "list",data:=.seq ([]:List Value).toArray}).get? b=some o->h'.get? b=some o)/\h'.get? s.heap.objs.size=some {cls:=.type "list",dict:=none,data:=.seq aw c',slots:= #[]}/\ItemsOf P aw n)
  (s:={s with heap:=s.heap.push {cls:=.type "list",data:=.seq ([]:List Value).toArray}}) K hh (K.keep _ _ hok λb _ o e=>A4 _ e) s.heap.objs.size (X0 hlt.1) (X0 hlt.2) (.ref s.heap.objs.size) 0 hS₁ (λh' tk aw c' hk hS' cu=>⟨h',tk,aw,c',rfl,rfl,hk,hS',cu⟩) hn) (λf s' hf=> ?_) λe s' hf=> ?_
 ·cases f with
  |done f=>
   obtain⟨e,q⟩:=fin hf;cases e;exact q
  |again c'=>
   refine⟨hf.1,Q4 hf.2 λrr s'' h=> ?_⟩;obtain⟨e,q⟩:=fin h;cases e;exact q
 ·obtain⟨e,_⟩:=fin hf;cases e
end
section
variable{prog:Program}{w:World}{A:Around}{E:AA}{s:Shared}{a kS:Addr}{vs:List Value}{kz:List Int}{e1:Nat}{P:PySem.Fin->Shared->Prop}
def ksk_restJ{f:Value}(J:Nat->Array Value->Shared->Prop)(j0:J 0 #[] s)(zk:kz.length=vs.length)(h64:vs.length < 64)
  (turn:∀(i:Nat) (v:Value) (k:Int) (kA:Array Value) (s':Shared),vs[i]? =some v->kz[i]? =some k->J i kA s'->
   wpAny (model prog w) A (call f [v]) (λu s''=>∃t e,u=.int k t/\s''.heap.get? kS=some (seqObj "list" kA e)/\J (i + 1) (kA.push u) {s'' with heap:=s''.heap.update kS (Obj.mapSeq (·.push u))}) (λ_ _=>False) s')
  (at_:∀i kA s',J i kA s'->∃e,s'.heap.get? kS=some (seqObj "list" kA e))
  (h:∀kA s',J vs.length kA s'->IntsAre kA.toList kz->wpAny (model prog w) A (ksk_end a false vs.toArray e1 (.ref kS) kA) P E s'):
  wpAny (model prog w) A (ksk_rest a f false vs.toArray e1 (.ref kS)) P E s:=by
 unfold ksk_rest;refine A7 (wpAny_rule ?_)
 first
  |rw[List.forIn_toArray]
  |(rw[<-Array.forIn_toList];simp only[List.toList_toArray])
  |rw[<-Array.forIn_toList]
 refine A7 (ksk_fold (λi s'=>∃kA,J i kA s'/\IntsAre kA.toList (kz.take i)) vs 0 s ⟨#[],j0,by simpa using IntsAre.nil⟩ ?step ?done)
 case step=>
  rintro j x s' hx ⟨kA,hJ,hk⟩
  simp only[S5]at hk hJ⊢;have hj:j < vs.length:=(B4.mp hx).1;obtain⟨k,hkj⟩:∃k,kz[j]? =some k:=⟨_,B9 ()⟩;have hz:kA.size<=vs.length:=by
   have h1:=hk.length;rw[P8,V3]at h1;omega
  refine A7 (wpAny_attempt (F3 (turn j x k kA s' hx hkj hJ) (λv s'' he=> ?_) λ_ _ hF=>hF.elim));obtain⟨t2,e2,rfl,hat,hJ2⟩:=he
  try dsimp only
  have ek:kz.take (j + 1)=kz.take j ++ [k]:=by rw[U7,hkj];simp
  have ea:(kA.push (Value.int k t2)).toList=kA.toList ++ [Value.int k t2]:=by simp
  refine A7 (listUpdate_at hat rfl ?_ (by rw[F1];omega) (D4 (S3 (Array.size_push ..)) (by rw[F1];omega)));exact F0 ⟨rfl,kA.push (.int k t2),hJ2,by rw[ea,ek];exact ksk_snoc hk⟩
 case done=>
  rintro s' ⟨kA,hJ,hk⟩
  rw[S5]at hJ;have hk':IntsAre kA.toList kz:=by
   have e3:kz.take (0 + vs.length)=kz:=List.take_of_length_le ();rw[e3]at hk;exact hk
  obtain⟨e,hat⟩:=at_ _ _ _ hJ
  try dsimp only
  refine A7 (listItems_at hat rfl ?_);exact h kA s' hJ hk'
end
end PySem.W
namespace L3
open PySem PySem.Spec PyProof.Rows L2
variable{K:Frag}{fd:FuncData}{mg:AB}{us:List Value}{base:Heap}{H:Hp}{X:Cx}{pos:Pos}{v:V}
def y_7(F:AF):List D->R (List (Int×D))
 | []=> .ok []
 |d::ds=>(F [d]).bind λw=>match w.d with
  | .int n=>(y_7 F ds).bind λr=> .ok ((n,d)::r)
  |_=> .no
def insK(p:Int×D):List (Int×D)->List (Int×D)
 | []=> [p]
 |q::r=>if p.1<=q.1 then p::q::r else q::insK p r
def aw_1:List (Int×D)->List (Int×D)
 | []=> []
 |p::r=>insK p (aw_1 r)
def aw_2(F:AF)(ds:List D):R W:=match y_7 F ds with
 | .ok ps=>if ps.length < 64/\(ps.map (·.1)).Nodup then .ok (.ow (.lst ((aw_1 ps).map (·.2)))) else .no
 |_=> .no
def aw_3(F:AF)(f:FE):FE:=λ δ=>(f δ).bind λw=>match w.d with
 | .dic kds=>aw_2 F (kds.map λp=>kD p.1)
 |_=> .no
section
variable{X:Cx}{zd:AE}{σ:Sg}{H:Hp}{s:Shared}
def de_9{A:Around}{F:AF}{k:Nat}{f:Addr}{ps:List Str}{u:Value}{d:D}{n:Int}{w:W}(ok:FnX X.prog X.w X.K X.mg X.base true k f fd ps (Bx X.K 1 F))(hb:Binds X.K fd ps [])(I:Inv X zd σ H s)(hA:A.frames=X.A.frames)(hr:RoomC true k A)
  (rv:RelV v u) (hv:∀G,Has X.K G v d) (e:F [d]=.ok w) (ew:w.d=.int n):wpAny (model X.prog X.w) A (call (.ref f) [u]) (λz s'=>∃t H',z=.int n t/\Same H H'/\Inv X zd σ H' s') (λ_ _=>False) s:=by
 have e0:Env0 X.prog X.w X.K X.mg X.base A X.stack s H:=⟨hA.trans I.ok.frames,I.ok.mod,I.bs,D4 I.ok.bsz I.sz,I.stack,I.stkFree,I.hok,I.bare⟩;have sp:Bx X.K 1 F [v] H (λv' H'=>v'=.int n/\Same H H') λ_ _ _=>False:=⟨rfl,λ_=>none,[d],(λ_ _ z=>nomatch z),.cons (hv _) .nil,by
  rw[e];refine WP.intro λv' G' H' st r=> ?_;rw[ew]at r;cases r;exact⟨rfl,st.hh⟩⟩
 have hl:([u]:List Value).length=ps.length:=by
  have:=ok.len _ _ _ _ sp;simpa using this
 have hb':=hb s [u] I.kIn (by rw[D8];exact hl);rw[D8]at hb';refine V5 (Q4 (ok.run A X.stack s H ⟨[u],[]⟩ [u] [v] _ _ hr e0 hb' (.cons rv .nil) sp) λr s' hq=> ?_);cases r with
 |error e=>
  obtain⟨_,_,_,_,_,_,_,_,_,_,_,_,_,_,_,z⟩:=hq;exact z
 |ok fl=>
  cases fl with
  |ret z=>
   obtain⟨v',H',I',rv',rfl,sm⟩:=I.after hq;obtain⟨t,rfl⟩:=rv';exact⟨t,H',rfl,sm,I'⟩
  |next=>exact False.elim hq
  |brk=>exact False.elim hq
  |cont=>exact False.elim hq
end
def dp_4{h:Heap}{a:Addr}{m m':AB}(x:h.Ns a m)(y:h.Ns a m'):m=m':=by
 obtain⟨o,es,ep,ho,hd,_,e⟩:=x;obtain⟨o',es',ep',ho',hd',_,e'⟩:=y;rw[ho]at ho';cases ho';rw[hd]at hd';cases hd'
 funext z
 rw[<-e z,<-e' z]
section
variable{X:Cx}{zd:AE}{σ:Sg}{H:Hp}{s:Shared}
def aw_4(h:Heap)(L b c:Addr):AE:=(List.range h.objs.size).filterMap λi=>if i=L\/i=b\/i=c then none else(h.get? i).map λo=>(i,o)
def cj_0{h:Heap}{L b c i:Addr}{o:Obj}(e:h.get? i=some o)(n:¬(i=L\/i=b\/i=c)):(i,o)∈aw_4 h L b c:=by
 unfold aw_4;refine T5.mpr ⟨i,R6.mpr (A5 e), ?_⟩;rw[if_neg n,e];rfl
def ad_4{h:Heap}{L b c:Addr}{p:Addr×Obj}(e:p∈aw_4 h L b c):h.get? p.1=some p.2/\p.1≠L/\p.1≠b/\p.1≠c:=by
 unfold aw_4 at e;obtain⟨i,_,q⟩:=T5.mp e
 split at q
 ·cases q
 ·rename_i n;obtain⟨o,eo,rfl⟩:=E7.mp q;exact⟨eo,λz=>n (.inl z),λz=>n (.inr (.inl z)),λz=>n (.inr (.inr z))⟩
def cs_5{A:Around}{E:AA}{P:PySem.Fin->Shared->Prop}{a kS:Addr}{keys:Array Value}{e e1:Nat}{vs:List Value}{xs:List V}{kz:List Int}(I:Inv X ((kS,seqObj "list" keys e)::(a,seqObj "list" #[] e1)::zd) σ H s)(hka:kS≠a)(z1:X.s₀.heap.objs.size<=kS)(z2:X.s₀.heap.objs.size<=a)(np:∀p∈X.pn ++ zd,p.1≠kS/\p.1≠a)
  (hk:IntsAre keys.toList kz) (zk:kz.length=vs.length) (h64:vs.length < 64) (hv:Vals xs vs)
  (h:∀(s':Shared) (ps:List (Int×Value)) (us:List V),ps.Perm (kz.zip vs)->ps.Pairwise (λp q=>p.1<=q.1)->Vals us (ps.map Prod.snd)->us.length=vs.length->(∀H',H'=upd H a (.lst us)->Inv X zd σ H' s')->P (.done (.ret .none)) s'):
  wpAny (model X.prog X.w) A (PyProof.Rows.ksk_end a false vs.toArray e1 (.ref kS) keys) P E s:=by
 have pk:=I.pin (kS,seqObj "list" keys e) (B6 _ (.head _));have pa:=I.pin (a,seqObj "list" #[] e1) (B6 _ (.tail _ (.head _)));obtain⟨m,hm,_⟩:=id I.loc;have I0:Inv X zd σ H s:=I.pins_of λp hp=>I.pin p (B6 _ (.tail _ (.tail _ hp)));refine PyProof.Rows.ksk_end_ (e:=e) (h₀:={objs:= #[]}) (L:=X.env.locals) (m:=m) (news:=aw_4 s.heap X.env.locals kS a) ⟨hm,λb o z=>by simp[Heap.get?]at z,K6 _⟩ (λp hp=> ?_) hka (λp hp=>(ad_4 hp).2.2.1) (λp hp=>(ad_4 hp).2.2.2) hk zk h64 λh' tk out c F' N' ko=> ?_
 ·rcases F2.mp hp with hp|hp
  ·exact⟨(ad_4 hp).1,(ad_4 hp).2.1,by simp[Heap.get?]⟩
  ·rcases C6.mp hp with rfl|hp
   ·exact⟨pk.1,pk.2.2.1,by simp[Heap.get?]⟩
   ·rw[C9.mp hp];exact⟨pa.1,pa.2.2.1,by simp[Heap.get?]⟩
 ·obtain⟨ps,pm,eo,srt⟩:=ko;have hat:h'.get? a=some (seqObj "list" out c):=(N' _ (.head _)).1;have kp:∀b o,b≠X.env.locals->b≠kS->b≠a->s.heap.get? b=some o->h'.get? b=some o:=λb o n1 n2 n3 e=>(N' (b,o) (.tail _ (cj_0 e (by rintro (z|z|z) <;> contradiction)))).1;have hlz:ps.length=vs.length:=by rw[pm.length_eq,W3,zk,ZA2]
  obtain⟨us,hu⟩:∃us,Vals us (ps.map Prod.snd):=by
   have all:∀(l:List (Int×Value)),(∀p∈l,∃x,RelV x p.2)->∃us,Vals us (l.map Prod.snd):=by
    intro l
    induction l with
    |nil=>intro _;exact⟨[],.nil⟩
    |cons p l ih=>
     intro hl;obtain⟨x,hx⟩:=hl p (.head _);obtain⟨us,hus⟩:=ih λq hq=>hl q (.tail _ hq);exact⟨x::us,.cons hx hus⟩
   refine all ps λp hp=> ?_;have hz:=W2 (pm.mem_iff.mp hp);obtain⟨i,hi,ei⟩:=List.getElem_of_mem hz.2;obtain⟨x,_,r⟩:∃x,xs[i]? =some x/\RelV x p.2:=by
    have hix:i < xs.length:=by rw[hv.length];exact hi
    obtain⟨u,e1,e2⟩:=hv.get (B9 hix);rw[B9 hi,ei]at e1;cases e1;exact⟨_,B9 hix,e2⟩
   exact⟨x,r⟩
  have hul:us.length=vs.length:=by rw[hu.length,A3];exact hlz
  refine h _ ps us pm (srt.imp λ{p q} z=>by simpa using z) hu hul λH' eH=> ?_;subst eH;have nH:∀b u,H b=some u->b≠kS/\b≠a/\b≠X.env.locals:=λb u e=>⟨(λz=>by rw[z,pk.2.1]at e;cases e),(λz=>by rw[z,pa.2.1]at e;cases e),(λz=>by rw[z,I.free]at e;cases e)⟩;have upH:∀b u,H b=some u->upd H a (.lst us) b=some u:=λb u e=>by rw[Ao (nH b u e).2.1];exact e
  refine I0.step (g':=s.gens) (d':=s.drawn) (ch:=[kS,a]) (λb hb=> ?_) (λb o n1 _ n3 e _=>kp b o n1 (λz=>n3 (by simp[z])) (λz=>n3 (by simp[z])) e) (λb o n1 _ n3 e _=>⟨o.slots,kp b o n1 (λz=>n3 (by simp[z])) (λz=>n3 (by simp[z])) e⟩) (λb o n3 _ n=>by rw[Ao λz=>n3 (by simp[z])];exact n)
   (λb o n3 e=> ?_) (λb xs e=>upH b _ e) (λb o u e=>upH b _ e) (λb ps e=>⟨#[],by rw[upH b _ e];simp⟩) (λm' hm'=>by rw[<-dp_4 hm hm'];exact F'.ns) (λb u e=> ?_) I.bare
  ·have hb':b=kS\/b=a:=by simpa using hb
   have cl:∀{q:Addr×Obj},q∈((kS,seqObj "list" keys e)::(a,seqObj "list" #[] e1)::zd)->∀x c,X.env.cells.lookup x=some c->c≠q.1:=λ{q} hq x c hc z=>by
    obtain⟨v,o,ho,hd⟩:=I.cell x c hc;have:=I.pin q (B6 _ hq);rw[z,this.1]at ho;cases ho;exact this.2.2.2.2 v hd
   rcases hb' with rfl|rfl
   ·exact⟨.inr z1,pk.2.2.1,cl (.head _),λp hp=>(np p hp).1⟩
   ·exact⟨.inr z2,pa.2.2.1,cl (.tail _ (.head _)),λp hp=>(np p hp).2⟩
  ·by_cases z:b=X.env.locals
   ·subst z;obtain⟨o',_,_,ho',_⟩:=F'.ns;exact⟨o',ho'⟩
   ·exact⟨o,kp b o z (λz=>n3 (by simp[z])) (λz=>n3 (by simp[z])) e⟩
  ·by_cases z:b=a
   ·subst z;rw[Bk]at e;cases e;exact⟨by rw[hul,F1];omega,ps.map Prod.snd,c,hu,by rw[<-eo];simpa using hat⟩
   ·rw[Ao z]at e;obtain⟨n1,n2,n3⟩:=nH b u e;refine(I.hok b u e).stay (λb' o' hc q=> ?_) (λb' q=>upH b' _ q) λb' xs q=>upH b' _ q;rcases hc with rfl|hc
    ·exact kp _ _ n3 n1 n2 q
    ·obtain⟨k1,k2,k3⟩:=nH b' _ hc;exact kp _ _ k3 k1 k2 q
end
section
variable{X:Cx}{zd:AE}{σ:Sg}{H:Hp}{s:Shared}
def cj_1{A:Around}{E:AA}{P:PySem.Fin->Shared->Prop}{a:Addr}{n k:Nat}{vs:List Value}{xs:List V}{ds:List D}{kz:List Int}{F:AF}{f:Addr}{ps:List Str}(I:Inv X zd σ H s)(ho:s.heap.get? a=some (seqObj "list" vs.toArray n))(ha0:H a=none)(haz:X.s₀.heap.objs.size<=a)(haL:a≠X.env.locals)
  (hac:∀x c,X.env.cells.lookup x=some c->c≠a) (hap:∀p∈X.pn ++ zd,p.1≠a) (haf:a∉X.fs) (hv:Vals xs vs) (hx:∀(i:Nat) v d,xs[i]? =some v->ds[i]? =some d->∀G,Has X.K G v d) (hdl:ds.length=vs.length)
  (hkz:∀(i:Nat) d k,ds[i]? =some d->kz[i]? =some k->∃w,F [d]=.ok w/\w.d=.int k) (zk:kz.length=vs.length) (h64:vs.length < 64)
  (ok:FnX X.prog X.w X.K X.mg X.base true k f fd ps (Bx X.K 1 F)) (hb:Binds X.K fd ps []) (hA:A.frames=X.A.frames) (hr:RoomC true k A)
  (h:∀(s':Shared) (H':Hp) (ps:List (Int×Value)) (us:List V),Same H H'->H' a=none->ps.Perm (kz.zip vs)->ps.Pairwise (λp q=>p.1<=q.1)->Vals us (ps.map Prod.snd)->us.length=vs.length->Inv X zd σ (upd H' a (.lst us)) s'->P (.done (.ret .none)) s'):
  wpAny (model X.prog X.w) A (PyProof.Rows.ksk_tree a (.ref f) false) P E s:=by
 have ha:a < s.heap.objs.size:=A5 ho;have s1:=Heap.SameBut.update s.heap a (Obj.mapSeq λ_=>(#[]:Array Value));obtain⟨e1,ho1⟩:∃e1,(s.heap.update a (Obj.mapSeq λ_=>(#[]:Array Value))).get? a=some (seqObj "list" #[] e1):=⟨_,get?_update_seq ho λ_=> #[]⟩;have hkS:((s.heap.update a (Obj.mapSeq λ_=>(#[]:Array Value))).push (seqObj "tuple" vs.toArray 0)).objs.size=s.heap.objs.size + 1:=by rw[size_push',Heap.size_update]
 generalize hq:((s.heap.update a (Obj.mapSeq λ_=>(#[]:Array Value))).push (seqObj "tuple" vs.toArray 0)).objs.size=kS at hkS;have hka:kS≠a:=by rw[hkS];exact X0 (U5 ha)
 have z1:X.s₀.heap.objs.size<=kS:=by rw[hkS];exact Nat.le_succ_of_le I.sz
 have npk:∀p∈X.pn ++ zd,p.1≠kS:=λp hp z=>by
  have:=A5 (I.pin p hp).1;rw[z,hkS]at this;exact absurd this (ZA3.mpr (M7 _))
 have I1:Inv X zd σ H {s with heap:=s.heap.update a (Obj.mapSeq λ_=>(#[]:Array Value))}:=I.turned (t':=s.toks) (λb o hb e=>(s1.2 b hb).trans e) ha0 haL (.inr haz) hac hap;have I2:Inv X zd σ H {s with heap:=((s.heap.update a (Obj.mapSeq λ_=>(#[]:Array Value))).push (seqObj "tuple" vs.toArray 0)).push (seqObj "list" #[] 0)}:=I1.kept (t':=s.toks) λb o e=>A4 _ (A4 _ e);have hk0:H kS=none:=I.hok.fresh (by rw[hkS];exact M7 _);have hkL:kS≠X.env.locals:=λz=>by have:=I.lt;rw[<-z,hkS]at this;exact absurd this (ZA3.mpr (M7 _))
 have hkf:kS∉X.fs:=I.nofs (by rw[hkS];exact M7 _);have nc:∀(l:Array Value) (e:Nat) v,(seqObj "list" l e).data≠ .cell v:=λl e v z=>by cases z
 let J:Nat->Array Value->Shared->Prop:=λ_ kA s'=>∃H' e,Same H H'/\Inv X ((kS,seqObj "list" kA e)::(a,seqObj "list" #[] e1)::zd) σ H' s'
 have az:∀{kA:Array Value} {e:Nat} {H':Hp} {s':Shared},Inv X zd σ H' s'->s'.heap.get? kS=some (seqObj "list" kA e)->s'.heap.get? a=some (seqObj "list" #[] e1)->H' kS=none->H' a=none->Inv X ((kS,seqObj "list" kA e)::(a,seqObj "list" #[] e1)::zd) σ H' s':=λ{kA e H' s'} J0 g1 g2 n1 n2=>by
  refine J0.pins_of λp hp=> ?_;rcases C6.mp hp with rfl|hp
  ·exact⟨g1,n1,hkL,hkf,nc _ _⟩
  ·rcases C6.mp hp with rfl|hp
   ·exact⟨g2,n2,haL,haf,nc _ _⟩
   ·exact J0.pin p (B6 _ hp)
 unfold PyProof.Rows.ksk_tree;refine A7 (listItems_at ho rfl ?_);refine A7 (listUpdate_at ho rfl ?_ (by rw[D5,F1];omega) (K6 _));refine A7 (seqEpoch_at ho1 rfl ?_);refine A7 (wpAny_newTuple ?_ (by show vs.length<=_;rw[F1];omega));refine A7 (wpAny_newList ?_ (K6 _));refine V8 ?_;show wpAny _ A (PyProof.Rows.ksk_rest a (.ref f) false vs.toArray e1 (.ref ((s.heap.update a (Obj.mapSeq λ_=>(#[]:Array Value))).push (seqObj "tuple" vs.toArray 0)).objs.size)) P E _;rw[hq];refine PySem.W.ksk_restJ (kz:=kz) J ?_ zk h64 (λi v kk kA s' ev ek hJ=> ?_) (λi kA s' hJ=> ?_) λkA s' hJ hk=> ?_
 ·refine⟨H,0,Same.refl _,az I2 ?_ (A4 _ (A4 _ ho1)) hk0 ha0⟩;rw[<-hq];exact B8 _ rfl
 ·obtain⟨H1,e,sm,J1⟩:=hJ;have hi:i < vs.length:=(B4.mp ev).1;have hix:i < xs.length:=by rw[hv.length];exact hi
  obtain⟨u,eu,ru⟩:=hv.get (B9 hix);rw[ev]at eu;cases eu;have hid:i < ds.length:=by rw[hdl];exact hi
  obtain⟨w,ew,en⟩:=hkz i _ kk (B9 hid) ek;refine F3 (de_9 ok hb J1 hA hr ru (hx i _ _ (B9 hix) (B9 hid)) ew en) (λz s2 hz=> ?_) λ_ _ z=>z;obtain⟨t,H2,rfl,sm2,J2⟩:=hz;have pk:=J2.pin (kS,seqObj "list" kA e) (B6 _ (.head _));have pa:=J2.pin (a,seqObj "list" #[] e1) (B6 _ (.tail _ (.head _)));refine⟨t,e,rfl,pk.1, ?_⟩;have J3:Inv X zd σ H2 s2:=J2.pins_of λp hp=>J2.pin p (B6 _ (.tail _ (.tail _ hp)));have sb:=Heap.SameBut.update s2.heap kS (Obj.mapSeq (·.push (.int kk t)));have cl:∀x c,X.env.cells.lookup x=some c->c≠kS:=λx c hc z=>by
   obtain⟨v,o,ho,hd⟩:=J2.cell x c hc;rw[z,pk.1]at ho;cases ho;exact pk.2.2.2.2 v hd
  have J4:Inv X zd σ H2 {s2 with heap:=s2.heap.update kS (Obj.mapSeq (·.push (.int kk t)))}:=J3.turned (t':=s2.toks) (λb o hb e=>(sb.2 b hb).trans e) pk.2.1 hkL (.inr z1) cl npk;exact⟨H2,_,sm.trans sm2,az J4 (get?_update_seq pk.1 (·.push (.int kk t))) ((sb.2 a hka.symm).trans pa.1) pk.2.1 pa.2.1⟩
 ·obtain⟨H1,e,sm,J1⟩:=hJ;exact⟨e,(J1.pin (kS,seqObj "list" kA e) (B6 _ (.head _))).1⟩
 ·obtain⟨H1,e,sm,J1⟩:=hJ;have pa:=J1.pin (a,seqObj "list" #[] e1) (B6 _ (.tail _ (.head _)));exact cs_5 J1 hka z1 haz (λp hp=>⟨npk p hp,hap p hp⟩) hk zk h64 hv λs3 ps us pm srt hu hul J=>h s3 H1 ps us sm pa.2.1 pm srt hu hul (J _ rfl)
end
theorem an_4(p:Int×D):∀l:List (Int×D),(insK p l).Perm (p::l)
 | []=> .refl _
 |q::r=>by
  unfold insK
  split
  ·exact .refl _
  ·exact(List.Perm.cons q (an_4 p r)).trans (List.Perm.swap p q r)
theorem ag_0:∀l:List (Int×D),(aw_1 l).Perm l
 | []=> .refl _
 |p::r=>(an_4 p (aw_1 r)).trans (.cons p (ag_0 r))
theorem ap_4(p:Int×D):∀{l:List (Int×D)},l.Pairwise (λa b=>a.1<=b.1)->(insK p l).Pairwise (λa b=>a.1<=b.1)
 | [],_=>by unfold insK;simp
 |q::r,h=>by
  rw[O6]at h;unfold insK
  split
  ·rename_i hl;refine O6.mpr ⟨λz hz=> ?_,O6.mpr h⟩;rcases C6.mp hz with rfl|hz
   ·exact hl
   ·exact Int.le_trans hl (h.1 z hz)
  ·rename_i hl;refine O6.mpr ⟨λz hz=> ?_,ap_4 p h.2⟩;rcases C6.mp ((an_4 p r).mem_iff.mp hz) with rfl|hz
   ·omega
   ·exact h.1 z hz
theorem aj_3:∀l:List (Int×D),(aw_1 l).Pairwise (λa b=>a.1<=b.1)
 | []=> .nil
 |p::r=>ap_4 p (aj_3 r)
theorem aw_5{α β:Type}{R:α->β->Prop}{a:α}:∀{A:List α} {B:List β},Paired R A B->a∈A->∃l1 l2 m1 m2 b,A=l1 ++ a::l2/\B=m1 ++ b::m2/\R a b/\Paired R (l1 ++ l2) (m1 ++ m2)
 |_,_,.cons (a:=x) (b:=y) (l₁:=A) (l₂:=B) r t,h=>by
  by_cases e:a=x
  ·subst e;exact⟨[],A,[],B,y,rfl,rfl,r,t⟩
  ·rcases C6.mp h with z|h
   ·exact absurd z e
   ·obtain⟨l1,l2,m1,m2,b,rfl,rfl,rb,pr⟩:=aw_5 t h;exact⟨x::l1,l2,y::m1,m2,b,rfl,rfl,rb,.cons r pr⟩
theorem ap_5{α β:Type}{R:Int×α->Int×β->Prop}(hR:∀p q,R p q->p.1=q.1):∀{A:List (Int×α)} {A0:List (Int×α)} {B0 B:List (Int×β)},Paired R A0 B0->A.Perm A0->B.Perm B0->(B0.map (·.1)).Nodup->A.Pairwise (λp q=>p.1<=q.1)->B.Pairwise (λp q=>p.1<=q.1)->Paired R A B
 | [],A0,B0,B,r,pa,pb,_,_,_=>by
  have:A0= []:=pa.symm.eq_nil;subst this;cases r;have:B= []:=pb.eq_nil;subst this;exact .nil
 |a::A,A0,B0,B,r,pa,pb,nd,sa,sb=>by
  obtain⟨l1,l2,m1,m2,b,rfl,rfl,rb,pr⟩:=aw_5 r (pa.mem_iff.mp (.head _));have pa':A.Perm (l1 ++ l2):=(List.perm_cons a).mp (pa.trans V6);have bB:b∈B:=pb.mem_iff.mpr (by simp);rw[O6]at sa;cases B with
  |nil=>cases bB
  |cons c B=>
   rw[O6]at sb;have dk:∀z∈m1 ++ m2,a.1<=z.1:=λz hz=>by
    have:∀{A:List (Int×α)} {B:List (Int×β)},Paired R A B->∀z∈B,∃y∈A,y.1=z.1:=λ{A B} p=>by
     induction p with
     |nil=>intro z hz;cases hz
     |cons rr _ ih=>
      intro z hz;rcases C6.mp hz with rfl|hz
      ·exact⟨_,.head _,hR _ _ rr⟩
      ·obtain⟨y,hy,e⟩:=ih z hz;exact⟨y,.tail _ hy,e⟩
    obtain⟨y,hy,e⟩:=this pr z hz;rw[<-e];exact sa.1 y (pa'.mem_iff.mpr hy)
   have eb:a.1=b.1:=hR _ _ rb;have cb:c=b:=by
    have hc:c∈m1 ++ b::m2:=pb.mem_iff.mp (.head _);have hc':c=b\/c∈m1 ++ m2:=by
     rcases F2.mp hc with h|h
     ·exact .inr (E8 _ h)
     ·rcases C6.mp h with h|h
      ·exact .inl h
      ·exact .inr (B6 _ h)
    rcases hc' with h|h
    ·exact h
    ·exfalso;have h1:=dk c h;have h2:c.1<=b.1:=by
      rcases C6.mp bB with z|z
      ·rw[z];exact Int.le_refl _
      ·exact sb.1 b z
     have h3:c.1=b.1:=by omega
     have nd':((b::(m1 ++ m2)).map (·.1)).Nodup:=(List.Perm.map _ (V6 (a:=b) (l₁:=m1) (l₂:=m2))).nodup_iff.mp nd;rw[B3,K1]at nd';exact nd'.1 (by rw[<-h3];exact W9 h)
   subst cb;have pb':B.Perm (m1 ++ m2):=(List.perm_cons c).mp (pb.trans V6);have nd':((m1 ++ m2).map (·.1)).Nodup:=by
    have nd':((c::(m1 ++ m2)).map (·.1)).Nodup:=(List.Perm.map _ (V6 (a:=c) (l₁:=m1) (l₂:=m2))).nodup_iff.mp nd;rw[B3,K1]at nd';exact nd'.2
   exact .cons rb (ap_5 hR pr pa' pb' nd' sa.2 sb.2)
theorem bd_6{F:AF}:∀{ds:List D} {ps:List (Int×D)},y_7 F ds=.ok ps->Paired (λd (p:Int×D)=>p.2=d/\∃w,F [d]=.ok w/\w.d=.int p.1) ds ps
 | [],_,e=>by cases e;exact .nil
 |d::ds,ps,e=>by
  unfold y_7 at e;cases ef:F [d] with
  |ok w=>
   rw[ef]at e;simp only[R.bind_ok]at e;cases ew:w.d with
   |int n=>
    rw[ew]at e;simp only at e;cases er:y_7 F ds with
    |ok r=>rw[er]at e;cases e;exact .cons ⟨rfl,w,ef,ew⟩ (bd_6 er)
    |ex x=>rw[er]at e;cases e
    |no=>rw[er]at e;cases e
   |_=>rw[ew]at e;cases e
  |ex x=>rw[ef]at e;cases e
  |no=>rw[ef]at e;cases e
def cs_6{k:Af}{u:Value}(r:RelV v u)(q:RelV (kV k) u):v=kV k:=by
 cases k with
 |inl i=>
  obtain⟨t,rfl⟩:=q;cases v with
  |int j=>obtain⟨t',e⟩:=r;cases e;rfl
  |str x=>obtain⟨t',e⟩:=r;cases e
  |byt x=>obtain⟨t',e⟩:=r;cases e
  |flt x=>obtain⟨t',e⟩:=r;cases e
  |_=>cases r
 |inr x=>
  obtain⟨t,rfl⟩:=q;cases v with
  |str y=>obtain⟨t',e⟩:=r;cases e;rfl
  |int j=>obtain⟨t',e⟩:=r;cases e
  |byt x=>obtain⟨t',e⟩:=r;cases e
  |flt x=>obtain⟨t',e⟩:=r;cases e
  |_=>cases r
abbrev RelK(p:Int×Value)(q:Int×D):Prop:=p.1=q.1/\∃k0,q.2=kD k0/\RelV (kV k0) p.2
theorem zipR{F:AF}:∀{ks:List Af} {vs:List Value} {ps:List (Int×D)},Vals (ks.map kV) vs->Paired (λd (p:Int×D)=>p.2=d/\∃w,F [d]=.ok w/\w.d=.int p.1) (ks.map kD) ps->Paired RelK ((ps.map (·.1)).zip vs) ps
 | [],_,_,r,q=>by cases r;cases q;exact .nil
 |k::ks,_,_,r,q=>by
  rw[B3]at r q;cases r with
  |cons h t=>
   cases q with
   |cons h2 t2=>exact .cons ⟨rfl,k,h2.1,h⟩ (zipR t t2)
theorem outR{G:Hp}:∀{ps:List (Int×Value)} {qs:List (Int×D)} {us:List V},Paired RelK ps qs->Vals us (ps.map Prod.snd)->HasL K G us (qs.map (·.2))
 | [],_,_,r,h=>by cases r;cases h;exact .nil
 |p::ps,_,_,r,h=>by
  rw[B3]at h;cases r with
  |cons r t=>
   cases h with
   |cons hv ht=>
    obtain⟨_,k0,e,rk⟩:=r;rw[B3,e];exact .cons (by rw[cs_6 hv rk];exact am_7 k0) (outR t ht)
theorem Paired.getL{α β:Type}{R:α->β->Prop}:∀{A:List α} {B:List β} {i:Nat} {a:α} {b:β},Paired R A B->A[i]? =some a->B[i]? =some b->R a b
 |_,_,_,_,_,.nil,e,_=>by simp at e
 |_,_,0,_,_,.cons r _,e,e'=>by
  simp at e e';subst e e';exact r
 |_,_,i + 1,_,_,.cons _ t,e,e'=>Paired.getL (i:=i) t (by simpa using e) (by simpa using e')
section
variable{X:Cx}{EX:Az}{pos:Pos}
def cj_2{zd:AE}{σ:Sg}{G H:Hp}{s:Shared}{Q:VK}{a f:Addr}{k k':Nat}{ps:List Str}{F:AF}{kvs:List (Af×V)}{kds:List (Af×D)}(hc:X.calm=true)(I:Inv X zd σ H s)(g:Same G H)(rd:Rd G a (.dK kvs))(hk:kvs.map (·.1)=kds.map (·.1))
  (ok:FnX X.prog X.w X.K X.mg X.base true k f fd ps (Bx X.K 1 F)) (hb:Binds X.K fd ps []) (hr:RoomC true k' X.A) (hkk:k + 1<=k') (o:Out X.K EX0 G H (aw_2 F (kds.map λp=>kD p.1)) Q):
  wpAny (model X.prog X.w) X.A (call (.builtin "sorted") [.ref a] [(Str.ofString "key",.ref f)]) (EP X zd σ Q) X.xe s:=by
 unfold aw_2 at o;cases eK:y_7 F (kds.map λp=>kD p.1) with
 |ex x=>rw[eK]at o;exact False.elim o
 |no=>rw[eK]at o;exact False.elim o
 |ok psD=>
  rw[eK]at o;simp only at o
  split at o
  ·rename_i hcond;obtain⟨h64,nd⟩:=hcond;have pK:=bd_6 eK;have hkl:kds.length=kvs.length:=by
    have:=K5 List.length hk;rw[A3,A3]at this;exact this.symm
   have hpl:psD.length=kvs.length:=by
    rw[<-V7 pK,A3];exact hkl
   have ekd:(kds.map λp=>kD p.1)=(kvs.map (·.1)).map kD:=by rw[hk,L8];rfl
   obtain⟨z,lo,ws,kv,dd⟩:=q_8 I.hok (Same.rdD g rd);obtain⟨ep,da⟩:=dd.dictAt;refine call_function_entry_kw kind_sorted plain_sorted entry_sorted (ksk_s1 _ _) ?_;unfold Builtin.«sorted»;refine A7 (m:=checkCount "sorted" 1 1 _) (F0 ?_);refine A7 (PySem.W.collect_kdl (A:=X.A.in1) (kdl_dict lo) (I.ok.hd hc) da (by rw[<-kv.length];exact z) λh1 tk1 zn kk le it=> ?_);have rv':Vals ((kvs.map (·.1)).map kV) zn.toList:=am_8 kv (by rw[P8];exact it.1) λj v e=>it.2 j v (by rw[<-U9];exact e);have hal:zn.toList.length=kvs.length:=by rw[<-rv'.length,A3,A3]
   refine A7 (wpAny_newList ?_ (by rw[hal];exact z));have new:(h1.push (seqObj "list" zn.toList.toArray 0)).get? h1.objs.size=some (seqObj "list" zn.toList.toArray 0):=B8 _ rfl;have I0:Inv X zd σ H {s with heap:=h1,toks:=tk1}:=I.kept (t':=tk1) kk;have I1:Inv X zd σ H {s with heap:=h1.push (seqObj "list" zn.toList.toArray 0),toks:=tk1}:=I0.kept (t':=tk1) λb u e=>A4 _ e;have fr:H h1.objs.size=none:=I.hok.fresh le;refine A7 (V8 (wpAny_call_entry_kw slot_list_sort ⟨_,new,rfl⟩ entry_list_sort ?body (ksk_l1 _ _)))
   case body=>
    show wpAny (model X.prog X.w) X.A.in1.in1 (Builtin.«list.sort» ⟨[.ref h1.objs.size],[(Str.ofString "key",.ref f)]⟩) _ _ _;rw[ksk_t1];have hr':RoomC true k X.A.in1.in1:=⟨hr.hd,by have:=hr.dp;show X.A.depth + 3 * k + 5 < _;omega,by have:=hr.un;show X.A.units + 1 + 1 + 16 * k + 200 < _;omega⟩;refine cj_1 (kz:=psD.map (·.1)) (ds:=kds.map λp=>kD p.1) (F:=F) I1 new fr (D4 I.sz le) (λz=> ?_) (λx c e z=> ?_) (λp hp z=> ?_) (I0.nofs (B5 _)) rv' (λi v d e1 e2 G'=> ?_) (by rw[A3,hal];exact hkl) (λi d kx e1 e2=> ?_) (by rw[A3,hal];exact hpl) (by rw[hal,<-hpl];exact h64) ok hb rfl hr' λs' H' ps us sm na pm srt hu hul J=> ?_
    ·have:=I0.lt;rw[<-z]at this;exact absurd this (F4 _)
    ·obtain⟨v,hv⟩:=I0.cell x c e;have:=hv.lt;rw[z]at this;exact absurd this (F4 _)
    ·have:=A5 (I0.pin p hp).1;rw[z]at this;exact absurd this (F4 _)
    ·rw[ekd,A8]at e2;rw[A8]at e1;cases ek:(kvs.map (·.1))[i]? with
     |none=>rw[ek]at e1;cases e1
     |some k0=>rw[ek]at e1 e2;cases e1;cases e2;exact am_7 k0
    ·rw[A8]at e2;cases ep2:psD[i]? with
     |none=>rw[ep2]at e2;cases e2
     |some p=>
      rw[ep2]at e2;cases e2;exact(Paired.getL pK e1 ep2).2
    ·refine⟨_,rfl,F0 ⟨_,rfl,.ref h1.objs.size,_,J,rfl, ?_⟩⟩;rw[ekd]at pK;have pr:=ap_5 (R:=RelK) (λp q r=>r.1) (zipR rv' pK) pm (ag_0 psD) nd srt (aj_3 psD);refine(show WP X.K G H (.ow (.lst ((aw_1 psD).map (·.2)))) Q from o) (.ref h1.objs.size) (λb=>b=h1.objs.size) G _ ⟨λb u e=> ?_,λb u e=> ?_,Same.refl _,λ_ n _=>n⟩ (λb e=> ?_) (Ow.list Bk rfl (outR pr hu))
     ·rw[Ao (Et e fr)];exact sm b u e
     ·rw[Ao (Et (g b u e) fr)];exact sm b u (g b u e)
     ·subst e;exact⟨fr,g.free fr,by rw[Bk];simp⟩
  ·exact False.elim o
def cs_7{o:Expr}{f:FE}{x:Str}{k k':Nat}{y:Str}{F:AF}{p p2 p3:Pos}(hc:X.calm=true)(hr:RoomC true k' X.A)(hm:X.mg "sorted" =none)(h:FnD X.prog X.w X.K X.mg X.base true x k [y] F)(he:ED X EX o f)(hk:k + 1<=k':=by decide)(hg:Gl X "sorted" :=by rfl)(hgx:Gl X x:=by rfl)(hdb:AG x:=by decide)
  (hs1:starEach [o] X.env=(false,eval o X.env)::starEach [] X.env:=by rfl) (hb1:backTo pos (starEach [o] X.env)=(false,eval o X.env)::backTo pos (starEach [] X.env):=by rfl) (hpl:(backTo pos (starEach [o] X.env)).any (·.1)=false:=by rfl)
  (bg:(backToKw pos (keywordEach [⟨some "key",.Name x p2,p3⟩] X.env)).all (·.1.isSome)=true:=by rfl) (hkw:(backToKw pos (keywordEach [⟨some "key",.Name x p2,p3⟩] X.env)).any (·.1.isNone)=false:=by rfl)
  (hnm:(backToKw pos (keywordEach [⟨some "key",.Name x p2,p3⟩] X.env)).filterMap (·.1)= [Str.ofString "key"]:=by rfl):
  ED X EX (.Call (.Name "sorted" p) [o] [⟨some "key",.Name x p2,p3⟩] pos) (aw_3 F f):=by
 obtain⟨fa,fd,ok,hmx,kp,hb⟩:=h;intro zd s σ H Q I q;obtain⟨G,δ,g0,s0,q⟩:=q;have ta:cm_3 (tD X.K EX f) tNil σ H λvs H1=>∃(G1:Hp) (a:Addr) (kvs:List (Af×V)) (kds:List (Af×D)),vs= [.ref a]/\Same G1 H1/\Rd G1 a (.dK kvs)/\kvs.map (·.1)=kds.map (·.1)/\Out X.K (EX σ) G1 H1 (aw_2 F (kds.map λp=>kD p.1)) Q:=by
  refine tD.seq g0 s0 q λw v G1 H1 _ st r o'=> ?_;revert o' r;cases w.d with
  |dic kds=>
   intro r o';cases r with
   |dic hr hk rr=>exact⟨G1,_,_,kds,rfl,st.gh,hr,hk,o'⟩
  |_=>intro _ o';exact False.elim o'
 refine M3 (x_1 I hg hm PyProof.Rows.boot_sorted (callWith_kw (Bc ((j_2 he q_2 hs1) pos zd s σ H _ I ta) λus s1 ⟨vs,H1,I1,r1,G1,a,kvs,kds,ev,g1,rd,hkk,o'⟩=> ?_) hb1 hpl bg hkw));subst ev;obtain⟨u,rfl,ru⟩:=r1.one;cases ru;refine kws_cons (r_1 I1 hgx hmx (kws_nil ?_) hdb);rw[hnm];refine cj_2 hc I1 g1 rd hkk ok hb hr hk ?_;unfold aw_2 at o'⊢;cases eK:y_7 F (kds.map λp=>kD p.1) with
 |ok psD=>
  rw[eK]at o';simp only at o'⊢
  split at o'
  ·rename_i hcond;rw[if_pos hcond];exact o'
  ·exact False.elim o'
 |ex x=>rw[eK]at o';exact False.elim o'
 |no=>rw[eK]at o';exact False.elim o'
end
section
variable{X:Cx}{EX:Az}{e:Expr}{g:SE->FM}
end
def Iti(a:Addr)(ob:Obj)(kvs:List (Af×V)):It:=⟨λi H=>H a=some (.frz ob (.dK kvs))/\i < kvs.length,λi H x H'=>∃p q,H p=none/\x=.ref p/\kvs[i]? =some q/\H'=upd H p (.tup [kV q.1,q.2]),λi H=>H a=some (.frz ob (.dK kvs))/\i=kvs.length⟩
theorem cc_6{α β:Type}{R:α->β->Prop}:∀{A:List α} {B:List β} {i:Nat} {a:α},Paired R A B->A[i]? =some a->∃b,B[i]? =some b/\R a b
 |_,_,0,_,.cons h _,e=>by cases e;exact⟨_,rfl,h⟩
 |_,_,i + 1,_,.cons _ r,e=>cc_6 (i:=i) r e
 |_,_,i,_,.nil,e=>by cases i <;> cases e
def aw_6{P:Program}{w:World}{elts:List Expr}{x1:Nat}(a it:Addr)(ob:Obj)(kvs:List (Af×V)){es:Array DictEntry}{ep:Nat}(hd:ob.data=.dict es ep):Turn P w K (.Tuple elts x1 pos) (Iti a ob kvs) [it] it (λi h=>∃ok ov,IsItemIter h it a i kvs.length ep ok ov) where
 mem:=by simp
 obj:=λi h st b hb=>by
  have e:b=it:=by simpa using hb
  subst e;obtain⟨_,_,q⟩:=st;exact⟨_,q,λv z=>by cases z⟩
 keep:=λi h h' st k=>by
  obtain⟨ok,ov,q⟩:=st;exact⟨ok,ov,k it (by simp) _ q⟩
 item:=by
  intro X hP hw hK hc i zd s σ H E I hf st hg;subst hP hw hK;obtain⟨hq,hlt⟩:=hg;obtain⟨ws,kv,da⟩:=ai_9 I.hok hq hd;have f:=hf it (by simp);obtain⟨p,hp⟩:∃p,kvs[i]? =some p:=⟨_,B9 hlt⟩;obtain⟨⟨k',x⟩,hx,e1,rx⟩:=cc_6 kv hp;simp only at e1 rx;subst e1;obtain⟨ok,ov,st⟩:=st;rw[kv.length]at st;refine wpAny_pyNext_items_item st da hx λkey h' hk ho ht hsz kk=> ?_;refine⟨_,rfl,wpAny_letOwnedTupleGo_items ho λh'' au sb=> ?_⟩;have ne:s.heap.objs.size≠it:=λz=>absurd (A5 st) (by rw[<-z];exact F4 _);refine⟨.ref s.heap.objs.size,upd H s.heap.objs.size (.tup [kV p.1,p.2]), ?_,rfl,⟨_,p,I.hok.fresh (B5 _),rfl,hp,rfl⟩,⟨key,x,by rw[kv.length];exact au⟩,λb hb=> ?_⟩
  ·exact Inv.pair (e:=it) (it:=it) (tk:=s.toks) (its:=[key,x]) I f f (λb o h1 _ q=>(sb.2 b h1).trans (kk b o h1 q)) ⟨_,au⟩ ⟨_,au⟩ ((sb.2 _ ne).trans ht) (.cons (cp_8 hk) (.cons rx .nil)) (by show 2<=sizeLine;decide)
  ·have e:b=it:=by simpa using hb
   subst e;rw[Ao (D7 (A5 st))];exact f.1
 done:=by
  intro X hP hw hK hc i zd s σ H E I hf st hg;subst hP hw hK;obtain⟨hq,hg⟩:=hg;subst hg;obtain⟨ws,kv,da⟩:=ai_9 I.hok hq hd;have f:=hf it (by simp);obtain⟨ok,ov,st⟩:=st;rw[kv.length]at st;exact wpAny_pyNext_items_end (I.ok.hd hc) st da (by simp) λh' eb=>⟨rfl,Inv.turned2 (tk:=s.toks) I f f λb o h1 _ q=>eb b o h1 q⟩
 self:=λA i s Q E st h=>by
  obtain⟨ok,ov,st⟩:=st;exact kcp_self st h
def iIm(H₀:Hp)(to:TE):TI:=λ σ H R=>to σ H λx H1=>∃a kvs,x=.ref a/\((H1 a=some (.dK kvs)/\∀ob,(∀o v,H₀ a≠some (.frz o v))->R (Iti a ob kvs) (upd H1 a (.frz ob (.dK kvs))))\/(∃ob,H1 a=some (.frz ob (.dK kvs))/\R (Iti a ob kvs) H1))
def cs_8{o:Expr}{to:TE}{elts:List Expr}{x1:Nat}{tp zg zf:Pos}(ho:PE X o to)(ae:attributeBase o "items" X.env (eval o X.env)=eval o X.env:=by rfl)(af:(zg.endLine ==zf.line)=true:=by rfl):PI X (.Tuple elts x1 tp) (.Call (.Attribute o "items" zg) [] [] zf) (iIm X.H₀ to):=by
 intro zd s σ H R I h;refine T7 ae af (Bc (ho zd s σ H _ I h) λv s1 ⟨x,H1,I1,r1,a,kvs,ex,q⟩=> ?_);subst ex;obtain rfl:v=Value.ref a:=r1;have rd:Rd H1 a (.dK kvs):=q.elim (λz=> .inl z.1) λ⟨ob,z,_⟩=> .inr ⟨ob,z⟩;obtain⟨z,lo,ws,kv,od,es,ep,g1,c1,c2,c3⟩:=q_8 I1.hok rd;have da:s1.heap.DictAt (Dx X.prog X.w) a ws ep:=⟨od,es,g1,c1,c2,c3⟩;have dd:s1.heap.DictOf (Dx X.prog X.w) a ws:=⟨od,es,ep,g1,c1,c2,c3⟩;refine⟨"dict","dict.items",N9,Z4,PySem.F.type_dict_items,dd.typeIs,dd.mapOf.noDict,L0 rfl (W6 ?_)⟩;refine T9 Z4 dd.typeIs PySem.F.entry_dict_items (PySem.F.args_dict_items_1 _) (meets_dict_items (Dx X.prog X.w) a lo) ⟨⟨ws,dd⟩, ?_⟩;refine wpAny_pyIter_items ⟨_,B8 _ rfl,rfl,rfl⟩ (da.push _) ?_;have gp:∀b o,s1.heap.get? b=some o->((s1.heap.push {cls:=.type "dict_items",data:=.fields #[.ref a]}).push {cls:=.type "dict_itemiterator",data:=.fields #[.none,.bool false,.ref a,.int 0 0,.int ws.length 0,.int ep 0,.none,.none]}).get? b=some o:=λb o e=>A4 _ (A4 _ e);have I2:=I1.kept (t':=s1.toks) gp;have tn0:IsItemIter ((s1.heap.push {cls:=.type "dict_items",data:=.fields #[.ref a]}).push {cls:=.type "dict_itemiterator",data:=.fields #[.none,.bool false,.ref a,.int 0 0,.int ws.length 0,.int ep 0,.none,.none]}) (s1.heap.push {cls:=.type "dict_items",data:=.fields #[.ref a]}).objs.size a 0 kvs.length ep .none .none:=by
  rw[kv.length];exact B8 _ rfl
 have le:s1.heap.objs.size<=(s1.heap.push {cls:=.type "dict_items",data:=.fields #[.ref a]}).objs.size:=by
  have:=A5 (B8 s1.heap (o:={cls:=.type "dict_items",data:=.fields #[.ref a]}) rfl);exact P0 this
 have free:=I1.hok.fresh le;have fr:∀H2:Hp,H2 (s1.heap.push {cls:=.type "dict_items",data:=.fields #[.ref a]}).objs.size=none->∀b∈ [(s1.heap.push {cls:=.type "dict_items",data:=.fields #[.ref a]}).objs.size],Gb X zd H2 b:=λH2 hn b hb=>by
  have e:b=(s1.heap.push {cls:=.type "dict_items",data:=.fields #[.ref a]}).objs.size:=by simpa using hb
  subst e;exact I1.fpOk le hn
 rcases q with⟨hH,q⟩|⟨ob,hH,q⟩
 ·have nf:∀o v,X.H₀ a≠some (.frz o v):=λo v e=>by
   have:=I1.base.frzs a o v e;rw[hH]at this;cases this
  have ok:ObjOk X.prog X.w (upd H1 a (.frz od (.dK kvs))) ((s1.heap.push {cls:=.type "dict_items",data:=.fields #[.ref a]}).push {cls:=.type "dict_itemiterator",data:=.fields #[.none,.bool false,.ref a,.int 0 0,.int ws.length 0,.int ep 0,.none,.none]}) a (.frz od (.dK kvs)):=⟨gp _ _ g1,z,lo,ws,kv,od,es,ep,gp _ _ g1,c1,c2,c3⟩;have I3:=Inv.retag I2 hH (λ_ z=>by cases z) (λ_ z=>by cases z) (λ_ z=>by cases z) nf ok;refine⟨_,_,_,Iti a od kvs,_,rfl,I3,aw_6 a _ od kvs c2,⟨_,_,tn0⟩,fr _ ?_,q od nf⟩;rw[Ao (λz=>by rw[z,hH]at free;cases free)];exact free
 ·obtain⟨g2,_⟩:=(show ObjOk X.prog X.w H1 s1.heap a (.frz ob (.dK kvs)) from I1.hok a _ hH);rw[g1]at g2;cases g2;exact⟨_,_,_,Iti a od kvs,H1,rfl,I2,aw_6 a _ od kvs c2,⟨_,_,tn0⟩,fr _ free,q⟩
open Classical in
def En(a:Addr)(u:HO)(F:Hp):Hp:=λb=>if b=a/\F b≠none then some u else F b
section
variable{K:Frag}{EX:Az}{a:Addr}{u u0:HO}{F F' G H:Hp}
def q_6{b:Addr}(h:b≠a):En a u F b=F b:=by unfold En;rw[if_neg λz=>h z.1]
def ag_1(h:F a≠none):En a u F a=some u:=by unfold En;rw[if_pos ⟨rfl,h⟩]
def tag_none{b:Addr}:En a u F b=none↔F b=none:=by
 unfold En
 by_cases h:b=a/\F b≠none
 ·rw[if_pos h];exact⟨λz=>(nomatch z),λz=>absurd z h.2⟩
 ·rw[if_neg h]
def bj_7(h:F a≠none):En a u F=upd F a u:=by
 funext b
 by_cases e:b=a
 ·subst e;rw[ag_1 h,Bk]
 ·rw[q_6 e,Ao e]
def aw_7(s:Same F F'):Same (En a u F) (En a u F'):=λb o q=>by
 by_cases e:b=a
 ·subst e;cases h:F b with
  |none=>rw[tag_none.mpr h]at q;cases q
  |some x=>
   rw[ag_1 (by rw[h];exact λz=>by cases z)]at q;cases q;exact ag_1 (by rw[s _ _ h];exact λz=>by cases z)
 ·rw[q_6 e]at q⊢;exact s _ _ q
def cs_9{G' H':Hp}(s:Step G H G' H'):Step (En a u G) (En a u H) (En a u G') (En a u H'):=
 ⟨aw_7 s.hh,aw_7 s.gh,aw_7 s.gg,λb n z=>tag_none.mpr (s.nw b (tag_none.mp n) λq=>z (tag_none.mpr q))⟩
mutual
theorem Ow.tagged{G' H':Hp}(hg:∀v d,Has K G v d->Has K G' v d):∀{v:V} {t:Tn} {S:AS},Ow K G H v t S->(∀b o,S b->H b=some o->H' b=some o)->Ow K G' H' v t S
 |_,_,_,.sh h,_=> .sh (hg _ _ h)
 |_,_,_,.lst h ha sub r,k=> .lst (k _ _ ha h) ha sub (OwL.tagged hg r λb o hb=>k b o (sub b hb).1)
 |_,_,_,.tup h ha sub r,k=> .tup (k _ _ ha h) ha sub (OwL.tagged hg r λb o hb=>k b o (sub b hb).1)
 |_,_,_,.dic h hk ha sub r,k=> .dic (k _ _ ha h) hk ha sub (OwL.tagged hg r λb o hb=>k b o (sub b hb).1)
 |_,_,_,.obj hc h hl ha sub r,k=> .obj hc (k _ _ ha h) hl ha sub (OwL.tagged hg r λb o hb=>k b o (sub b hb).1)
theorem OwL.tagged{G' H':Hp}(hg:∀v d,Has K G v d->Has K G' v d):∀{vs:List V} {ts:List Tn} {S:AS},OwL K G H vs ts S->(∀b o,S b->H b=some o->H' b=some o)->OwL K G' H' vs ts S
 |_,_,_,.nil,_=> .nil
 |_,_,_,.cons h r dj s1 s2,k=> .cons (Ow.tagged hg h λb o hb=>k b o (s1 b hb)) (OwL.tagged hg r λb o hb=>k b o (s2 b hb)) dj s1 s2
end
variable{H0:HB}{G0:Hp}{σ:Sg}{Δ:SE}{O:OS}{kvs:List (Af×V)}{ob:Obj}
theorem Ev.tag(E:Ev K H0 G0 G H σ Δ O)(hG:G a=some (.dK kvs)):Ev K ⟨En a (.frz ob (.dK kvs)) H0.h,H0.b⟩ (En a (.frz ob (.dK kvs)) G0) (En a (.frz ob (.dK kvs)) G) (En a (.frz ob (.dK kvs)) H) σ Δ O:=by
 have nn:G a≠none:=by rw[hG];exact λz=>by cases z
 have hg:∀v d,Has K G v d->Has K (En a (.frz ob (.dK kvs)) G) v d:=λv d r=>by
  rw[bj_7 nn];exact Has.tag hG (.inl rfl) (.inr ⟨ob,rfl⟩) r
 refine⟨cs_9 E.st,E.len,λi d q=> ?_,λi s t q o=> ?_,λi b h=> ?_,E.dj,E.lk,E.lt⟩
 ·obtain⟨v,e,r⟩:=E.sh i d q;exact⟨v,e,hg v d r⟩
 ·obtain⟨v,e,r⟩:=E.ow i s t q o;refine⟨v,e,Ow.tagged hg r λb o hb q=> ?_⟩;have:b≠a:=λz=>by subst z;exact nn (E.out i b hb).1
  rw[q_6 this];exact q
 ·obtain⟨h1,h2,h3⟩:=E.out i b h;exact⟨tag_none.mpr h1,tag_none.mpr h2,λz=>h3 (tag_none.mp z)⟩
def Ev.untag(E:Ev K ⟨En a (.frz ob (.dK kvs)) H0.h,H0.b⟩ (En a (.frz ob (.dK kvs)) G0) G H σ Δ O)(hG:G a=some (.frz ob (.dK kvs)))(h0:∀o,H0.h a=some o->o=.dK kvs)(g0:∀o,G0 a=some o->o=.dK kvs):Ev K H0 G0 (upd G a (.dK kvs)) (upd H a (.dK kvs)) σ Δ O:=by
 have hg:∀v d,Has K G v d->Has K (upd G a (.dK kvs)) v d:=λv d r=>Has.tag hG (.inr ⟨ob,rfl⟩) (.inl rfl) r;have ne:∀b,G b=none->b≠a:=λb n z=>by subst z;rw[hG]at n;cases n
 refine⟨⟨λb o q=> ?_,s_5 E.st.gh _ _,λb o q=> ?_,λb n z=> ?_⟩,E.len,λi d q=> ?_,λi s t q o=> ?_,λi b h=> ?_,E.dj,E.lk,E.lt⟩
 ·by_cases e:b=a
  ·subst e;rw[Bk,h0 o q]
  ·rw[Ao e];exact E.st.hh b o ((q_6 e).trans q)
 ·by_cases e:b=a
  ·subst e;rw[Bk,g0 o q]
  ·rw[Ao e];exact E.st.gg b o ((q_6 e).trans q)
 ·have n1:=E.st.nw b (tag_none.mpr n) λq=>z (tag_none.mp q);rw[Ao (ne b n1)];exact n1
 ·obtain⟨v,e,r⟩:=E.sh i d q;exact⟨v,e,hg v d r⟩
 ·obtain⟨v,e,r⟩:=E.ow i s t q o;refine⟨v,e,Ow.tagged hg r λb o hb q=> ?_⟩;rw[Ao (ne b (E.out i b hb).1)];exact q
 ·obtain⟨h1,h2,h3⟩:=E.out i b h;have n:=ne b h1;exact⟨by rw[Ao n];exact h1,tag_none.mp h2,by rw[Ao n];exact h3⟩
def unE(H₀:Hp)(D:Ends):Ends:=
 ⟨λ σ H=>D.nx σ H\/∃a ob kvs,H a=some (.frz ob (.dK kvs))/\(∀o v,H₀ a≠some (.frz o v))/\D.nx σ (upd H a (.dK kvs)),
  λv H=>D.rt v H\/∃a ob kvs,H a=some (.frz ob (.dK kvs))/\(∀o v,H₀ a≠some (.frz o v))/\D.rt v (upd H a (.dK kvs)),D.bk,D.ct⟩
def du_8{st:Stmt}{t:TS}(h:PS X st t):PS X st λD σ H=>t (unE X.H₀ D) σ H:=λzd s σ H D I q=>Bc (h zd s σ H _ I q) λf s' hq=>by
 have un:∀{σ':Sg} {H':Hp} {a:Addr} {ob:Obj} {kvs:List (Af×V)},Inv X zd σ' H' s'->H' a=some (.frz ob (.dK kvs))->(∀o v,X.H₀ a≠some (.frz o v))->Inv X zd σ' (upd H' a (.dK kvs)) s':=λI' e nf=>by
  obtain⟨_,okd⟩:=(show ObjOk X.prog X.w _ s'.heap _ (.frz _ (.dK _)) from I'.hok _ _ e);exact Inv.retag I' e (λ_ z=>by cases z) (λ_ z=>by cases z) (λ_ z=>by cases z) nf okd
 cases f with
 |next=>
  obtain⟨σ',H',I',d|⟨a,ob,kvs,e,nf,d⟩⟩:=hq
  ·exact⟨σ',H',I',d⟩
  ·exact⟨σ',_,un I' e nf,d⟩
 |ret u=>
  obtain⟨v,σ',H',I',r,d|⟨a,ob,kvs,e,nf,d⟩⟩:=hq
  ·exact⟨v,σ',H',I',r,d⟩
  ·exact⟨v,σ',_,un I' e nf,r,d⟩
 |brk=>exact hq
 |cont=>exact hq
def bd_7:Fl->Fl
 | .nx Δ=> .nx Δ
 | .rt (.sh d)=> .rt (.sh d)
 | .rv d Δ=> .rv d Δ
 |_=> .no
theorem Fin.tag{D:Ends}{H₀ G1:Hp}{r:Fl}(nf:∀o v,H₀ a≠some (.frz o v))(hG:G1 a=some (.dK kvs))(h0:∀o,H0.h a=some o->o=.dK kvs)(g0:∀o,G0 a=some o->o=.dK kvs)(q:Fin K EX H0 G0 G1 D (bd_7 r)):Fin K EX ⟨En a (.frz ob (.dK kvs)) H0.h,H0.b⟩ (En a (.frz ob (.dK kvs)) G0) (En a (.frz ob (.dK kvs)) G1) (unE H₀ D) r:=by
 have nn:G1 a≠none:=by rw[hG];exact λz=>by cases z
 have at':∀{G:Hp},Same (En a (.frz ob (.dK kvs)) G1) G->G a=some (.frz ob (.dK kvs))/\Same G1 (upd G a (.dK kvs)):=λ{G} s=>by
  refine⟨s _ _ (ag_1 nn),λb o q=> ?_⟩
  by_cases e:b=a
  ·subst e;rw[Bk,<-hG,q]
  ·rw[Ao e];exact s _ _ ((q_6 e).trans q)
 cases r with
 |nx Δ=>exact λ σ G H O E s=> .inr ⟨a,ob,kvs,E.st.gh _ _ (at' s).1,nf,q σ _ _ O (E.untag (at' s).1 h0 g0) (at' s).2⟩
 |rv d Δ=>exact λv σ G H O E s r=> .inr ⟨a,ob,kvs,E.st.gh _ _ (at' s).1,nf,q v σ _ _ O (E.untag (at' s).1 h0 g0) (at' s).2 (Has.tag (at' s).1 (.inr ⟨ob,rfl⟩) (.inl rfl) r)⟩
 |bk Δ=>exact q.elim
 |ct Δ=>exact q.elim
 |ex x Δ=>exact q.elim
 |no=>exact q.elim
 |rt w=>
  cases w with
  |ow d=>exact q.elim
  |tr t=>exact q.elim
  |sh d=>
   intro v G2 H2 st r;have q:∀v G' H',Step G0 H0.h G' H'->Has K G' v d->D.rt v H':=q;cases hg:G0 a with
   |some o=>
    have e0:=g0 o hg;subst e0;have gt:G2 a=some (.frz ob (.dK kvs)):=st.gg _ _ (ag_1 (by rw[hg];exact λz=>by cases z));refine .inr ⟨a,ob,kvs,st.gh _ _ gt,nf,q v (upd G2 a (.dK kvs)) _ ⟨λb o q=> ?_,s_5 st.gh _ _,λb o q=> ?_,λb n z=> ?_⟩ (Has.tag gt (.inr ⟨ob,rfl⟩) (.inl rfl) r)⟩
    ·by_cases e:b=a
     ·subst e;rw[Bk,h0 o q]
     ·rw[Ao e];exact st.hh b o ((q_6 e).trans q)
    ·by_cases e:b=a
     ·subst e;rw[Bk,g0 o q]
     ·rw[Ao e];exact st.gg b o ((q_6 e).trans q)
    ·have n1:=st.nw b (tag_none.mpr n) λq=>z (tag_none.mp q);rw[Ao (λz=>by subst z;rw[gt]at n1;cases n1)];exact n1
   |none=>
    cases hh:H0.h a with
    |some o=>
     have e0:=h0 o hh;subst e0;have ht:H2 a=some (.frz ob (.dK kvs)):=st.hh _ _ (ag_1 (by show H0.h a≠none;rw[hh];exact λz=>by cases z));have gn:G2 a=none:=st.nw a (tag_none.mpr hg) λz=>by have:=tag_none.mp z;rw[hh]at this;cases this
     refine .inr ⟨a,ob,kvs,ht,nf,q v G2 _ ⟨λb o q=> ?_,λb o q=> ?_,λb o q=> ?_,λb n z=>st.nw b (tag_none.mpr n) λq=>z (tag_none.mp q)⟩ r⟩
     ·by_cases e:b=a
      ·subst e;rw[Bk,h0 o q]
      ·rw[Ao e];exact st.hh b o ((q_6 e).trans q)
     ·rw[Ao (λe=>by subst e;rw[gn]at q;cases q)];exact st.gh b o q
     ·exact st.gg b o ((q_6 (λe=>by subst e;rw[hg]at q;cases q)).trans q)
    |none=>
     refine .inl (q v G2 H2 ⟨λb o q=> ?_,st.gh,λb o q=> ?_,λb n z=>st.nw b (tag_none.mpr n) λq=>z (tag_none.mp q)⟩ r)
     ·exact st.hh b o ((q_6 (λe=>by subst e;rw[hh]at q;cases q)).trans q)
     ·exact st.gg b o ((q_6 (λe=>by subst e;rw[hg]at q;cases q)).trans q)
end
def dp_6:D->R (List D)
 | .dic kds=> .ok (kds.map λp=> .tup [kD p.1,p.2])
 |_=> .no
def ab_5(f:FE):FI:=λ δ=>(f δ).bind λw=>dp_6 w.d
def bd_8{G:Hp}{a:Addr}{ob:Obj}{kvs:List (Af×V)}{kds:List (Af×D)}(ga:G a=some (.frz ob (.dK kvs)))(hk:kvs.map (·.1)=kds.map (·.1))(r:HasL K G (kvs.map (·.2)) (kds.map (·.2))):ItD K G (Iti a ob kvs) (kds.map λp=> .tup [kD p.1,p.2]):=λG' H' s1 s2 i=>by
 have gH:H' a=some (.frz ob (.dK kvs)):=s2 _ _ (s1 _ _ ga);have zk:kds.length=kvs.length:=by
  have:=K5 List.length hk;rw[A3,A3]at this;exact this.symm
 refine⟨λd e=>⟨⟨gH, ?_⟩,λx H'' y=> ?_⟩,λe=>⟨gH,by rw[A3]at e;omega⟩⟩
 ·have:=(B4.mp e).1;rw[A3]at this;omega
 ·obtain⟨p,q,hp,rfl,hq,rfl⟩:=y;rw[A8]at e;obtain⟨q',hq',rfl⟩:=E7.mp e;have e1:(kvs.map (·.1))[i]? =some q.1:=by rw[A8,hq];rfl
  have e2:(kds.map (·.1))[i]? =some q'.1:=by rw[A8,hq'];rfl
  rw[hk,e2]at e1;have e3:q'.1=q.1:=F6 e1;obtain⟨v,e4,hv⟩:=r.get (show(kds.map (·.2))[i]? =some q'.2 by rw[A8,hq'];rfl);rw[A8,hq]at e4;have e5:q.2=v:=F6 e4;subst e5;rw[e3];exact⟨_,Step.new s2 hp _,.tup (SqT.of Bk) (.cons (am_7 _) (.cons (hv.mono (s1.trans (j_4 (s2.free hp) _))) .nil))⟩
def ct_0(js:List Nat)(f:FE)(fg:FG)(g:FS):FS:=λ Δ=>match ab_5 f (Aw Δ) with
 | .ok ds=>bd_7 (Cu fg g ds Δ)
 |_=>match ab_5 f (Aw (gsome js Δ)) with
  | .ok ds=>bd_7 (Cu fg g ds (gsome js Δ))
  |_=> .no
def ct_1{f:FE}{δ:DE}{ds:List D}(h:ab_5 f δ=.ok ds):∃w kds,f δ=.ok w/\w.d=.dic kds/\ds=kds.map λp=> .tup [kD p.1,p.2]:=by
 unfold ab_5 at h;cases e:f δ with
 |ok w=>
  rw[e]at h;simp only[R.bind_ok]at h;cases e2:w.d with
  |dic kds=>rw[e2]at h;cases h;exact⟨w,kds,rfl,e2,rfl⟩
  |_=>rw[e2]at h;cases h
 |ex x=>rw[e]at h;cases h
 |no=>rw[e]at h;cases h
def Fin.unI{EX:Az}{H0:HB}{G0 G1 H₀:Hp}{D:Ends}{r:Fl}(q:Fin K EX H0 G0 G1 D (bd_7 r)):Fin K EX H0 G0 G1 (unE H₀ D) r:=by
 cases r with
 |nx Δ=>exact λ σ G H O E s=> .inl (q σ G H O E s)
 |rv d Δ=>exact λv σ G H O E s r=> .inl (q v σ G H O E s r)
 |rt w=>
  cases w with
  |sh d=>exact λv G' H' st r=> .inl (q v G' H' st r)
  |ow d=>exact q.elim
  |tr t=>exact q.elim
 |bk Δ=>exact q.elim
 |ct Δ=>exact q.elim
 |ex x Δ=>exact q.elim
 |no=>exact q.elim
section
variable{X:Cx}{EX:Az}{pos:Pos}{o:Expr}{elts:List Expr}{x1:Nat}{tp zg zf:Pos}
def ag_2{f:FE}{fg:FG}{g:FS}{D:Ends}{σ:Sg}{H0:HB}{G0 G:Hp}{Δ:SE}{O:OS}{ds:List L3.D}(E:Ev X.K H0 G0 G H σ Δ O)(hd:ab_5 f (Aw Δ)=.ok ds)(q:Fin X.K EX H0 G0 G D (bd_7 (Cu fg g ds Δ))):tFor (iIm X.H₀ (tD X.K EX f)) (tG X.K EX fg) (tS X.K EX g) (unE X.H₀ D) σ H:=by
 obtain⟨w,kds,ew,ed,rfl⟩:=ct_1 hd;refine⟨G,Aw Δ,E.st.gh,E.gsh, ?_⟩;rw[ew];refine WP.intro λv G' H' st r=> ?_;rw[ed]at r;cases r with
 |dic hr hk rr=>
  rename_i a kvs;have E':=E.grow st;refine⟨a,kvs,rfl, ?_⟩;rcases hr with hr|⟨ob,hr⟩
  ·have hH:=st.gh _ _ hr;refine .inl ⟨hH,λob nf=> ?_⟩;have nG:G' a≠none:=by rw[hr];exact λz=>by cases z
   have nH:H' a≠none:=by rw[hH];exact λz=>by cases z
   have it:ItD X.K (En a (.frz ob (.dK kvs)) G') (Iti a ob kvs) (kds.map λp=> .tup [kD p.1,p.2]):=by
    refine bd_8 (ag_1 nG) hk ?_;rw[bj_7 nG];exact HasL.tag hr (.inl rfl) (.inr ⟨ob,rfl⟩) rr
   have L:=r_9 (E'.tag (ob:=ob) hr) it (Fin.tag (ob:=ob) nf hr (λo e=>by have:=E'.st.hh _ _ e;rw[hH]at this;exact(F6 this).symm) (λo e=>by have:=E'.st.gg _ _ e;rw[hr]at this;exact(F6 this).symm) (Fin.mono st.gg q));rw[bj_7 nH]at L;exact L
  ·exact .inr ⟨ob,st.gh _ _ hr,r_9 E' (bd_8 hr hk rr) (Fin.unI (Fin.mono st.gg q))⟩
def df_0(js:List Nat){body:List Stmt}{f:FE}{fg:FG}{g:FS}(hp:PassesOwn (model X.prog X.w) X.A X.env X.xe)(hc:X.calm=true)(ho:ED X EX o f)(hg:GD X EX (.Tuple elts x1 tp) fg)(hb:BD X EX body g)
  (hs:∀x,foldedSetIterable (.Call (.Attribute o "items" zg) [] [] zf) X.env x=pure x:=by intro _;rfl) (ae:attributeBase o "items" X.env (eval o X.env)=eval o X.env:=by rfl) (af:(zg.endLine ==zf.line)=true:=by rfl):SD X EX (.For (.Tuple elts x1 tp) (.Call (.Attribute o "items" zg) [] [] zf) body [] pos) (ct_0 js f fg g):=
 PS.imp (du_8 (bt_7 hp hc (cs_8 ho ae af) hg hb hs)) λD σ H ⟨H0,G0,G,Δ,O,E,q⟩=>by
  unfold ct_0 at q;cases e1:ab_5 f (Aw Δ) with
  |ok ds=>rw[e1]at q;exact ag_2 E e1 q
  |ex x=>
   rw[e1]at q;obtain⟨G1,O1,sg,E1⟩:=E.gsome js;cases e2:ab_5 f (Aw (gsome js Δ)) with
   |ok ds=>simp only[e2]at q;exact ag_2 E1 e2 (Fin.mono sg q)
   |ex x=>simp only[e2]at q;exact q.elim
   |no=>simp only[e2]at q;exact q.elim
  |no=>
   rw[e1]at q;obtain⟨G1,O1,sg,E1⟩:=E.gsome js;cases e2:ab_5 f (Aw (gsome js Δ)) with
   |ok ds=>simp only[e2]at q;exact ag_2 E1 e2 (Fin.mono sg q)
   |ex x=>simp only[e2]at q;exact q.elim
   |no=>simp only[e2]at q;exact q.elim
end
end L3
namespace L3
open PySem PySem.W PyProof.Rows
variable{K:Frag}{fd:FuncData}{mg:AB}{us:List Value}{base:Heap}{H:Hp}{X:Cx}{pos:Pos}{v:V}
section
variable{N:Nat}{key:Nat->Int}{cmp:Nat->Nat->(Bool->Shared->Prop)->Shared->Prop}{s:Shared}
structure GoodP(N:Nat)(p:Array Nat):Prop where
 size:p.size=N
 perm:p.toList.Perm (List.range N)
abbrev kp(key:Nat->Int)(p:Array Nat)(i:Nat):Int:=key (p.getD i 0)
def du_9(N:Nat)(key:Nat->Int)(cmp:Nat->Nat->(Bool->Shared->Prop)->Shared->Prop)(s:Shared):Prop:=(∀i j,i < N->j < N->key i=key j->i=j)/\∀i j C,i < N->j < N->i≠j->C (decide (key i < key j)) s->cmp i j C s
variable(T:du_9 N key cmp s)
include T
end
end L3
namespace L3
open PySem PySem.W PySem.Spec PyProof.Rows
variable{K:Frag}{fd:FuncData}{mg:AB}{us:List Value}{base:Heap}{H:Hp}{X:Cx}{pos:Pos}{v:V}
section
variable{prog:Program}{w:World}{A:Around}{E:AA}{s:Shared}{vs fs:List Value}{kz:List Int}
end
end L3
namespace L3
open PySem PySem.W PySem.Spec PyProof.Rows L2
variable{K:Frag}{fd:FuncData}{mg:AB}{us:List Value}{base:Heap}{H:Hp}{X:Cx}{pos:Pos}{v:V}
section
variable{X:Cx}{zd:AE}{σ:Sg}{H:Hp}{s:Shared}
end
end L3
namespace L3
open PySem PySem.Spec PyProof.Rows L2
variable{K:Frag}{fd:FuncData}{mg:AB}{us:List Value}{base:Heap}{H:Hp}{X:Cx}{pos:Pos}{v:V}
section
variable{K:Frag}{G:Hp}{S:AS}
end
def bj_8(i:Nat):FS:=λ Δ=>match Δ[i]? with
 |some (.ow (.lst _))=> .nx (Δ.set i (.ow (.lst [])))
 |_=> .no
section
variable{X:Cx}{EX:Az}{e e1 e2:Expr}{g g2:SE->FM}{pos:Pos}
def ct_2{j:Nat}{y:Str}{p1 zg zf:Pos}(hj:X.N[j]? =some y:=by rfl)(hv:Fd X.env.scope y:=by trivial)(hd:AG y:=by decide)
  (hcd:(y ==("__classdict__" :Str))=false:=by decide) (hs:swapsWith (.Call (.Attribute (.Name y p1) "clear" zg) [] [] zf) none pos.line X.env=pure false:=by rfl)
  (ae:attributeBase (.Name y p1) "clear" X.env (eval (.Name y p1) X.env)=eval (.Name y p1) X.env:=by rfl) (af:(zg.endLine ==zf.line)=true:=by rfl):
  SD X EX (.Expr (.Call (.Attribute (.Name y p1) "clear" zg) [] [] zf) pos) (bj_8 j):=
 PS.imp (x_2 (dl_8 Q1 PySem.F.slot_list_clear PySem.F.type_list_clear cm_8 (Ff hj hv hd hcd) ae af) hs) λD σ H ⟨H0,G0,G,Δ,O,E,q⟩=>by
  unfold bj_8 at q
  split at q
  ·rename_i ds e1;obtain⟨v0,s1,t⟩:=E.ow j _ _ e1 rfl;obtain⟨a,vs,rfl,m,hH,rl⟩:=t.list_of;exact⟨.ref a,s1,.inl ⟨rfl,_,SqL.of hH⟩,a,vs,rfl,rfl,hH,q _ G _ _ (E.writeL s1 m .nil) (Same.refl _)⟩
  ·exact q.elim
end
def Sl.dct:Sl->Option (List (Af×D)×Bool)
 | .ow (.dic kds)=>some (kds,false)
 | .lt (.dic zm)=>(unS zm).map λkds=>(kds,true)
 |_=>none
def Sl.mkD(b:Bool)(kds:List (Af×D)):Sl:=if b then .lt (Tn.of (.dic kds)) else .ow (.dic kds)
def Sl.dct_own{s:Sl}{kds:List (Af×D)}{b:Bool}(e:s.dct=some (kds,b)):s.own=some (Tn.of (.dic kds))/\(b=true->s=.lt (Tn.of (.dic kds))):=by
 cases s with
 |ow d=>
  cases d with
  |dic k=>cases e;exact⟨rfl,λz=>by cases z⟩
  |_=>cases e
 |lt t=>
  cases t with
  |dic zm=>
   obtain⟨k,e1,e2⟩:=E7.mp e;cases e2;rw[ab_1 e1];exact⟨rfl,λ_=>rfl⟩
  |_=>cases e
 |_=>cases e
def Sl.mkD_own(b:Bool)(kds:List (Af×D)):(Sl.mkD b kds).own=some (Tn.of (.dic kds)):=by cases b <;> rfl
def Sl.mkD_lk(b:Bool)(kds:List (Af×D)):∀d,Sl.mkD b kds≠ .lk d:=by intro d;cases b <;> (intro z;cases z)
def Ev.mkD_lt{H0:HB}{G0 G H:Hp}{σ:Sg}{Δ:SE}{O:OS}(E:Ev K H0 G0 G H σ Δ O){i:Nat}{s:Sl}{kds:List (Af×D)}{b:Bool}(e:Δ[i]? =some s)(q:s.dct=some (kds,b))(aa:List (Af×D)):∀d,Sl.mkD b aa=.lt d->σ[i]? =some (some (.ref (H0.b i))):=by
 intro d z;cases b with
 |false=>cases z
 |true=>
  have:=(Sl.dct_own q).2 rfl;subst this;exact E.lt i _ e
def Ev.two{H0:HB}{G0 G H G' H':Hp}{σ:Sg}{Δ:SE}{A:OS}(E:Ev K H0 G0 G H σ Δ A){i j:Nat}(hij:i≠j){v v2:V}{z z2:Sl}{t t2:Tn}{S S2:AS}(zo:z.own=some t)(zl:∀d,z≠ .lk d)(zt:∀d,z=.lt d->σ[i]? =some (some (.ref (H0.b i))))(zo2:z2.own=some t2)(zl2:∀d,z2≠ .lk d)(zt2:∀d,z2=.lt d->σ[j]? =some (some (.ref (H0.b j))))
  (ms:MStep2 (λa=>A i a\/A j a) G H G' H') (s:σ[i]? =some (some v)) (s2:σ[j]? =some (some v2)) (fr:∀a,S a->((A i a\/A j a)\/H a=none)/\G' a=none/\H' a≠none) (fr2:∀a,S2 a->((A i a\/A j a)\/H a=none)/\G' a=none/\H' a≠none) (dj:∀a,S a->S2 a->False) (w:Ow K G' H' v t S) (w2:Ow K G' H' v2 t2 S2):
  Ev K H0 G0 G' H' σ ((Δ.set i z).set j z2) (x_9 (x_9 A i S) j S2):=by
 have h0:∀a,(A i a\/A j a)->H0.h a=none:=λa h=>h.elim (λh=>(E.out i a h).2.1) λh=>(E.out j a h).2.1;have st:Step G0 H0.h G' H':=⟨λb o q=>ms.hh b o (λhb=>by rw[h0 b hb]at q;cases q) (E.st.hh b o q),ms.gh,E.st.gg.trans ms.gg,
  λb n z=>ms.nw b (λhb=>z (h0 b hb)) (E.st.nw b n z) λq=>z (E.st.hh.free q)⟩
 have cs:∀(k:Nat) (x:Sl),((Δ.set i z).set j z2)[k]? =some x->(k=j/\x=z2)\/(k=i/\k≠j/\x=z)\/(k≠i/\k≠j/\Δ[k]? =some x):=λk x e=>by
  rcases Fg e with⟨rfl,q⟩|⟨nn,q⟩
  ·exact .inl ⟨rfl,q⟩
  ·rcases Fg q with⟨e2,q2⟩|⟨nn2,q2⟩
   ·exact .inr (.inl ⟨e2.symm,Ne.symm nn,q2⟩)
   ·exact .inr (.inr ⟨Ne.symm nn2,Ne.symm nn,q2⟩)
 have sa:∀k,k≠i->k≠j->x_9 (x_9 A i S) j S2 k=A k:=λk h1 h2=>by rw[Gf h2,Gf h1]
 have si:x_9 (x_9 A i S) j S2 i=S:=by rw[Gf hij,g_2]
 have sj:x_9 (x_9 A i S) j S2 j=S2:=g_2;have keep:∀k a,k≠i->k≠j->A k a->¬(A i a\/A j a):=λk a h1 h2 hk h=>h.elim (λh=>h1 (E.dj k i a hk h)) λh=>h2 (E.dj k j a hk h);have nS:∀k a,k≠i->k≠j->A k a->¬S a/\¬S2 a:=λk a h1 h2 hk=>by
  refine⟨λhs=> ?_,λhs=> ?_⟩
  ·rcases(fr a hs).1 with q|q
   ·exact keep k a h1 h2 hk q
   ·exact(E.out k a hk).2.2 q
  ·rcases(fr2 a hs).1 with q|q
   ·exact keep k a h1 h2 hk q
   ·exact(E.out k a hk).2.2 q
 refine⟨st,by rw[G6,G6];exact E.len,λk d e=> ?_,λk z' d e zo'=> ?_,λk a ha=> ?_,λk k' a h1 h2=> ?_,λk d e=> ?_,λk d e=> ?_⟩
 ·rcases cs k _ e with⟨_,q⟩|⟨_,_,q⟩|⟨_,_,q⟩
  ·subst q;cases zo2
  ·subst q;cases zo
  ·obtain⟨v',e1,r'⟩:=E.sh k d q;exact⟨v',e1,r'.mono ms.gg⟩
 ·rcases cs k _ e with⟨rfl,q⟩|⟨rfl,_,q⟩|⟨h1,h2,q⟩
  ·subst q;rw[zo2]at zo';cases zo';rw[sj];exact⟨v2,s2,w2⟩
  ·subst q;rw[zo]at zo';cases zo';rw[si];exact⟨v,s,w⟩
  ·obtain⟨v',e1,x⟩:=E.ow k z' d q zo';rw[sa k h1 h2];exact⟨v',e1,x.mono ms.gg (λb o hb q=>ms.hh b o (keep k b h1 h2 hb) q) λ_ q=>q⟩
 ·by_cases e2:k=j
  ·subst e2;rw[sj]at ha;obtain⟨a1,a2,a3⟩:=fr2 a ha;exact⟨a2,a1.elim (h0 a) λq=>E.st.hh.free q,a3⟩
  ·by_cases e1:k=i
   ·subst e1;rw[si]at ha;obtain⟨a1,a2,a3⟩:=fr a ha;exact⟨a2,a1.elim (h0 a) λq=>E.st.hh.free q,a3⟩
   ·rw[sa k e1 e2]at ha;obtain⟨h1,h2,h3⟩:=E.out k a ha;have hn:=keep k a e1 e2 ha;refine⟨ms.nw a hn h1 h3,h2,λq=> ?_⟩;cases e:H a with
    |none=>exact h3 e
    |some o=>rw[ms.hh a o hn e]at q;cases q
 ·by_cases e2:k=j
  ·subst e2;rw[sj]at h1
   by_cases e3:k'=k
   ·exact e3.symm
   ·by_cases e4:k'=i
    ·subst e4;rw[si]at h2;exact(dj a h2 h1).elim
    ·rw[sa k' e4 e3]at h2;exact absurd h1 (nS k' a e4 e3 h2).2
  ·by_cases e1:k=i
   ·subst e1;rw[si]at h1
    by_cases e3:k'=j
    ·subst e3;rw[sj]at h2;exact(dj a h1 h2).elim
    ·by_cases e4:k'=k
     ·exact e4.symm
     ·rw[sa k' e4 e3]at h2;exact absurd h1 (nS k' a e4 e3 h2).1
   ·rw[sa k e1 e2]at h1
    by_cases e3:k'=j
    ·subst e3;rw[sj]at h2;exact absurd h2 (nS k a e1 e2 h1).2
    ·by_cases e4:k'=i
     ·subst e4;rw[si]at h2;exact absurd h2 (nS k a e1 e2 h1).1
     ·rw[sa k' e4 e3]at h2;exact E.dj k k' a h1 h2
 ·rcases cs k _ e with⟨_,q⟩|⟨_,_,q⟩|⟨_,_,q⟩
  ·exact absurd q.symm (zl2 d)
  ·exact absurd q.symm (zl d)
  ·exact E.lk k d q
 ·rcases cs k _ e with⟨rfl,q⟩|⟨rfl,_,q⟩|⟨_,_,q⟩
  ·exact zt2 d q.symm
  ·exact zt d q.symm
  ·exact E.lt k d q
inductive RR2 where
 |ok (d:D) (t:Tn) (kds:List (Af×D))|ex (x:Xn) (t:Tn) (kds:List (Af×D))|no
def as_5(n:Nat)(t:Tn)(kds:List (Af×D))(ds:List D):SE:=.lt t:: .lt (Tn.of (.dic kds))::(ds.map Sl.sh ++ List.replicate (n - (ds.length + 2)) .no)
def aw_8:Fl->RR2
 | .nx (.lt t':: .lt (.dic zm)::_)=>(match unS zm with|some kds=> .ok .non t' kds|none=> .no)
 | .rv d (.lt t':: .lt (.dic zm)::_)=>(match unS zm with|some kds=> .ok d t' kds|none=> .no)
 | .ex x (.lt t':: .lt (.dic zm)::_)=>(match unS zm with|some kds=> .ex x t' kds|none=> .no)
 |_=> .no
def aw_9(n:Nat)(g:FS)(t:Tn)(kds:List (Af×D))(ds:List D):RR2:=aw_8 (g (as_5 n t kds ds))
def spR2(K:Frag)(n:Nat)(F:Tn->List (Af×D)->List D->RR2):Sp:=λvs H Q E=>∃a0 a1 vs0,vs=.ref a0:: .ref a1::vs0/\vs0.length=n/\∃G ds t kds S0 S1,Same G H/\HasL K G vs0 ds/\Ow K G H (.ref a0) t S0/\Ow K G H (.ref a1) (Tn.of (.dic kds)) S1/\(∀a,S0 a\/S1 a->G a=none/\H a≠none)/\(∀a,S0 a->S1 a->False)/\
 match F t kds ds with
 | .ok d t' aa=>∀v G' H' T0 T1,MStep2 (λa=>S0 a\/S1 a) G H G' H'->(∀a,T0 a\/T1 a->((S0 a\/S1 a)\/H a=none)/\G' a=none/\H' a≠none)->(∀a,T0 a->T1 a->False)->Ow K G' H' (.ref a0) t' T0->Ow K G' H' (.ref a1) (Tn.of (.dic aa)) T1->Has K G' v d->Q v H'
 | .ex x t' aa=>∀cls dx G' H' T0 T1,MStep2 (λa=>S0 a\/S1 a) G H G' H'->(∀a,T0 a\/T1 a->((S0 a\/S1 a)\/H a=none)/\G' a=none/\H' a≠none)->(∀a,T0 a->T1 a->False)->Ow K G' H' (.ref a0) t' T0->Ow K G' H' (.ref a1) (Tn.of (.dic aa)) T1->ExcAt K G' cls dx x->E cls dx H'
 | .no=>False
open Classical in
def dv_0{c:Bool}{P:Program}{w:World}{x qual:Str}{st:Stmt}{f:Addr}{N ps:List Str}{k n:Nat}{g:FS}(F:Fun K x qual st f fd)(S:FnScope N ps (Ch st))(hn:ps.length=n + 2)(hle:ps.length<=N.length)
  (zj:∀(zp:Value) (A:Around) (outer:List Env) (s:Shared) (H:Hp) (E:XK),RoomC c k (A.deeper (envOfC qual (Ch st) s.heap.objs.size f zp))->
   BD (Gc c P w K mg base N qual (Ch st) f zp A outer s H E) (λ_=>EXof K E) (Ft st) g):FnX P w K mg base c (k + 1) f fd ps (spR2 K n (aw_9 N.length g)):=by
 refine Fun.okX F S (λvs H Q E h=> ?_) λzp A outer s H vs Q E hr h=>⟨_,zj zp A outer s H E hr, ?_⟩
 ·obtain⟨a0,a1,vs0,rfl,hl,_⟩:=h;rw[A9,A9,hl,hn]
 obtain⟨a0,a1,vs0,rfl,hl,G,ds,t,kds,S0,S1,g0,r,tw,tw1,out,dj,q⟩:=h;have i0:Same (λb=>if S0 b\/S1 b then none else H b) H:=λb o e=>by
  simp only at e
  split at e
  ·cases e
  ·exact e
 have E0:=am_9 (N:=N) (b:=λi=>if i=0 then a0 else a1) (v0:=.ref a0) (vs:=.non::vs0) (ds:=.non::ds) g0 i0 (.cons .non r) (by rw[A9,hl];omega);have hs:(L2.start N (.ref a0:: .non::vs0))[0]? =some (some (.ref a0)):=rfl;have E1:=E0.putO (i:=0) (z:=.lt t) (v:=.ref a0) (S:=S0) (λa ha=>⟨by simp only;rw[if_pos (.inl ha)],(out a (.inl ha)).1,(out a (.inl ha)).2⟩) rfl (λ_ z=>by cases z) tw (λj a ha=>ha.elim) (λ_ _=>rfl);rw[s_6 hs]at E1;have E2:=E1.putO (i:=1) (z:=.lt (Tn.of (.dic kds))) (v:=.ref a1) (S:=S1) (λa ha=>⟨by simp only;rw[if_pos (.inr ha)],(out a (.inr ha)).1,(out a (.inr ha)).2⟩) rfl (λ_ z=>by cases z) tw1 (λj a ha h1=>by
  by_cases z:j=0
  ·subst z;rw[g_2]at ha;exact dj a ha h1
  ·rw[Gf z]at ha;exact ha) (λ_ _=>rfl)
 have es:(L2.start N (.ref a0:: .non::vs0)).set 1 (some (.ref a1))=L2.start N (.ref a0:: .ref a1::vs0):=rfl;rw[es]at E2;refine⟨⟨λb=>if S0 b\/S1 b then none else H b,λi=>if i=0 then a0 else a1⟩,G,G,_,_,E2, ?_⟩;have e2:((Sl.no::((D.non::ds).map Sl.sh ++ List.replicate (N.length - ((D.non::ds).length + 1)) .no)).set 0 (.lt t)).set 1 (.lt (Tn.of (.dic kds)))=as_5 N.length t kds ds:=rfl;rw[e2];have fin:∀{Δ:SE} {t':Tn} {zm:List (Af×Tn)} {aa:List (Af×D)} {σ:Sg} {G' H':Hp} {O:OS},unS zm=some aa->Ev K ⟨λb=>if S0 b\/S1 b then none else H b,λi=>if i=0 then a0 else a1⟩ G G' H' σ (.lt t':: .lt (.dic zm)::Δ) O->MStep2 (λa=>S0 a\/S1 a) G H G' H'/\(∀a,O 0 a\/O 1 a->((S0 a\/S1 a)\/H a=none)/\G' a=none/\H' a≠none)/\(∀a,O 0 a->O 1 a->False)/\Ow K G' H' (.ref a0) t' (O 0)/\Ow K G' H' (.ref a1) (Tn.of (.dic aa)) (O 1):=λ{Δ t' zm aa σ G' H' O} eu E'=>by
  obtain⟨v,s1,t3⟩:=E'.ow 0 (.lt t') t' rfl rfl;have s2:=E'.lt 0 t' rfl;rw[s1]at s2;cases s2;obtain⟨v',s1',t3'⟩:=E'.ow 1 (.lt (.dic zm)) (.dic zm) rfl rfl;have s2':=E'.lt 1 (.dic zm) rfl;rw[s1']at s2';cases s2';rw[ab_1 eu]at t3';refine⟨⟨λb o nb z=>E'.st.hh b o (by simp only;rw[if_neg nb];exact z),E'.st.gh,E'.st.gg,λb nb z1 z2=>E'.st.nw b z1 (by simp only;rw[if_neg nb];exact z2)⟩,λa ha=> ?_,λa h1 h2=>(by cases E'.dj 0 1 a h1 h2),t3,t3'⟩;have:∃i,O i a:=ha.elim (λh=>⟨0,h⟩) λh=>⟨1,h⟩;obtain⟨i,hi⟩:=this;obtain⟨k1,k2,k3⟩:=E'.out i a hi;refine⟨?_,k1,k3⟩;simp only at k2
  split at k2
  ·rename_i z;exact .inl z
  ·exact .inr k2
 unfold aw_9 at q;have sp:∀{Δ:SE},(∃t' zm Δ',Δ=.lt t':: .lt (.dic zm)::Δ')\/∀(d:D) (x:Xn),aw_8 (.nx Δ)=.no/\aw_8 (.rv d Δ)=.no/\aw_8 (.ex x Δ)=.no:=λ{Δ}=>by
  cases Δ with
  |nil=>exact .inr λ_ _=>⟨rfl,rfl,rfl⟩
  |cons s Δ=>
   cases s with
   |lt t'=>
    cases Δ with
    |nil=>exact .inr λ_ _=>⟨rfl,rfl,rfl⟩
    |cons s2 Δ=>
     cases s2 with
     |lt u=>
      cases u with
      |dic zm=>exact .inl ⟨t',zm,Δ,rfl⟩
      |_=>exact .inr λ_ _=>⟨rfl,rfl,rfl⟩
     |_=>exact .inr λ_ _=>⟨rfl,rfl,rfl⟩
   |_=>exact .inr λ_ _=>⟨rfl,rfl,rfl⟩
 cases e:g (as_5 N.length t kds ds) with
 |nx Δ=>
  rw[e]at q;rcases sp (Δ:=Δ) with⟨t',zm,Δ',rfl⟩|h
  ·simp only[aw_8]at q;cases eu:unS zm with
   |none=>simp only[eu]at q
   |some aa=>
    simp only[eu]at q;intro σ G' H' O E' _;obtain⟨ms,fr,dd,tt,tt1⟩:=fin eu E';exact q .non G' H' _ _ ms fr dd tt tt1 .non
  ·rw[(h .non ⟨"",[],[]⟩).1]at q;exact q.elim
 |rv d Δ=>
  rw[e]at q;rcases sp (Δ:=Δ) with⟨t',zm,Δ',rfl⟩|h
  ·simp only[aw_8]at q;cases eu:unS zm with
   |none=>simp only[eu]at q
   |some aa=>
    simp only[eu]at q;intro v σ G' H' O E' _ rv;obtain⟨ms,fr,dd,tt,tt1⟩:=fin eu E';exact q v G' H' _ _ ms fr dd tt tt1 rv
  ·rw[(h d ⟨"",[],[]⟩).2.1]at q;exact q.elim
 |ex x Δ=>
  rw[e]at q;rcases sp (Δ:=Δ) with⟨t',zm,Δ',rfl⟩|h
  ·simp only[aw_8]at q;cases eu:unS zm with
   |none=>simp only[eu]at q
   |some aa=>
    simp only[eu]at q;intro σ G' H' O E' _ cls dx G2 H2 st2 ea;obtain⟨ms,fr,dd,tt,tt1⟩:=fin eu (E'.grow st2);exact q cls dx G2 H2 _ _ ms fr dd tt tt1 ea
  ·rw[(h .non x).2.2]at q;exact q.elim
 |rt w=>rw[e]at q;exact q.elim
 |bk Δ=>rw[e]at q;exact q.elim
 |ct Δ=>rw[e]at q;exact q.elim
 |no=>rw[e]at q;exact q.elim
def cc_7(P:Program)(w:World)(K:Frag)(mg:AB)(base:Heap)(c:Bool)(x:Str)(k n:Nat)(ps:List Str)(F:Tn->List (Af×D)->List D->RR2):Prop:=
 ∃f fd,FnX P w K mg base c k f fd ps (spR2 K n F)/\mg x=some (.ref f)/\keepIn K (.ref f)=true/\Binds K fd ps []
def dp_7{c:Bool}{P:Program}{w:World}{x qual:Str}{st:Stmt}{f:Addr}{N ps:List Str}{k n:Nat}{g:FS}(F:Fun K x qual st f fd)(hn:ps.length=n + 2)(hle:ps.length<=N.length)
  (zj:HBd c P w K mg base N qual st f k g) (S:FnScope N ps (Ch st):=by exact⟨rfl,rfl,rfl,by decide +kernel,rfl,by decide +kernel,by decide +kernel⟩):FnX P w K mg base c (k + 1) f fd ps (spR2 K n (aw_9 N.length g)):=
 dv_0 F S hn hle λzp A outer s H E hr=>zj rfl hr (RoomC.units hr) S.nd bh_4
def ct_4{P:Program}{w:World}{cc:Bool}{k n:Nat}{ps:List Str}{st:Stmt}{Fn:Tn->List (Af×D)->List D->RR2}{x:Str}{h:Heap}(X:K.In h)(G:h.Ns mainGlobals mg)(W:FnTop K x st)(ok:∀{f:Addr} {fd:FuncData},Fun K x x st f fd->FnX P w K mg base cc k f fd ps (spR2 K n Fn)/\Binds K fd ps []):cc_7 P w K mg base cc x k n ps Fn:=by
 obtain⟨f,a,fd,F⟩:=W;exact⟨f,fd,(ok F).1,mg_of X G a,F.kp,(ok F).2⟩
def goR2(i j:Nat)(lk lk2:Bool)(Δ:SE):RR2->FM
 | .ok d t' aa=> .ok d ((Δ.set i (Sl.mk lk t')).set j (Sl.mkD lk2 aa))
 | .ex x t' aa=> .ex x ((Δ.set i (Sl.mk lk t')).set j (Sl.mkD lk2 aa))
 | .no=> .no
def aj_4(i j n:Nat)(F:Tn->List (Af×D)->List D->RR2)(ga:SE->R (List D)):SE->FM:=λ Δ=>match(Δ[i]?).bind Sl.tree with
 |some (.obj c ns ts,lk)=>(match(Δ[j]?).bind Sl.dct with
  |some (kds,lk2)=>if i=j then .no else(match ga Δ with
   | .ok ds=>if ds.length=n then goR2 i j lk lk2 Δ (F (.obj c ns ts) kds ds) else .no
   | .ex x=> .ex x Δ
   | .no=> .no)
  |none=> .no)
 |_=> .no
def br_5(i:Nat)(fk fe:FE):FS:=λ Δ=>match(Δ[i]?).bind Sl.dct with
 |some (kds,lk)=>(match fe (Aw Δ) with
  | .ok w=>(match fk (Aw Δ) with
   | .ok z=>(match Dv z.d with
    |some k=>if kds.length < 16777216 then .nx (Δ.set i (Sl.mkD lk (Di kds k w.d))) else .no
    |none=> .no)
   |_=> .no)
  |_=> .no)
 |none=> .no
section
variable{X:Cx}{EX:Az}{e:Expr}{es:List Expr}{f:FE}{ga:SE->R (List D)}{x:Str}{pp pos:Pos}{c:Bool}{k k' n:Nat}{ps:List Str}
def Ev.writeD2{H0:HB}{G0 G H:Hp}{σ:Sg}{Δ:SE}{O:OS}(E:Ev K H0 G0 G H σ Δ O){i:Nat}{s:Sl}{kds aa:List (Af×D)}{b:Bool}{a:Addr}{kvs:List (Af×V)}(e:Δ[i]? =some s)(q:s.dct=some (kds,b))(s1:σ[i]? =some (some (.ref a)))(m:O i a)(hk:kvs.map (·.1)=aa.map (·.1))(r:HasL K G (kvs.map (·.2)) (aa.map (·.2))):
  Ev K H0 G0 G (upd H a (.dK kvs)) σ (Δ.set i (Sl.mkD b aa)) (x_9 O i (O i)):=
 have ms:=MStep.write E.st.gh m (E.out i a m).1 (.dK kvs)
 E.step2 (Sl.mkD_own b aa) (Sl.mkD_lk b aa) (E.mkD_lt e q aa) ms.weak s1 (λb hb=>⟨.inl hb,(E.out i b hb).1,ms.al b (E.out i b hb).2.2⟩) (Ow.dict Bk hk m r)
def cj_3{i j:Nat}{y y2:Str}{F:Tn->List (Af×D)->List D->RR2}{p3 p4:Pos}(hr:RoomC c k' X.A)(lk:Lk X EX)(h:cc_7 X.prog X.w X.K X.mg X.base c x k n ps F)(ha:AM X EX es ga)(hk:k<=k':=by decide)
  (hN:X.N[i]? =some y:=by rfl) (hv:Fd X.env.scope y:=by trivial) (hd:AG y:=by decide) (hcd:(y ==("__classdict__" :Str))=false:=by decide)
  (hN2:X.N[j]? =some y2:=by rfl) (hv2:Fd X.env.scope y2:=by trivial) (hd2:AG y2:=by decide) (ft:(y2 ==("__classdict__" :Str))=false:=by decide)
  (hg:Gl X x:=by rfl) (hdb:AG x:=by decide) (hs1:starEach (.Name y p3:: .Name y2 p4::es) X.env=(false,eval (.Name y p3) X.env)::starEach (.Name y2 p4::es) X.env:=by rfl) (hs2:starEach (.Name y2 p4::es) X.env=(false,eval (.Name y2 p4) X.env)::starEach es X.env:=by rfl) (hpl:(backTo pos (starEach (.Name y2 p4::es) X.env)).any (·.1)=false:=by rfl):
  EM X EX (.Call (.Name x pp) (.Name y p3:: .Name y2 p4::es) [] pos) (aj_4 i j n F ga):=by
 obtain⟨f,fd,ok,hm,kp,hb⟩:=h;refine PE.imp (bo_4 hr lk ok hm kp hb (j_2 (Ff hN hv hd hcd) (j_2 (Ff hN2 hv2 hd2 ft) ha hs2) hs1) hk hg hdb hs1 hpl) λ σ H Q ⟨H0,G0,G,Δ,O,E,q⟩=> ?_;unfold aj_4 at q
 split at q
 ·rename_i c0 ns ts lk0 e0;obtain⟨s,e1,etr⟩:=K0.mp e0;obtain⟨v0,s1,t0⟩:=E.ow i _ _ e1 (Sl.tree_own etr)
  split at q
  ·rename_i kds lk2 e0';obtain⟨s',e1',ed⟩:=K0.mp e0';obtain⟨v1,s1',t0'⟩:=E.ow j _ _ e1' (Sl.dct_own ed).1
   split at q
   ·exact q.elim
   ·rename_i hij;cases t0 with
    |obj hc hh hl hA sub rl=>
     rename_i a0 C0 dx0 us0 S0;obtain⟨a1,kv1,rfl,m1,hH1,hk1,rl1⟩:=Ow.dict_of t0';refine⟨_,s1,_,s1',H0,G0,G,Δ,O,E, ?_⟩;cases ea:ga Δ with
     |ok ds=>
      simp only[ea]at q
      split at q
      ·rename_i zk;intro vs G1 H1 E1 sg r;obtain⟨w0,x1,u0⟩:=E1.ow i _ _ e1 (Sl.tree_own etr);rw[s1]at x1;cases x1;obtain⟨w1,x2,u1⟩:=E1.ow j _ _ e1' (Sl.dct_own ed).1;rw[s1']at x2;cases x2;refine⟨_,_,vs,rfl,by rw[r.length];exact zk,G1,ds,_,kds,O i,O j,E1.st.gh,r,u0,u1,λa ha=>ha.elim (λh=>⟨(E1.out i a h).1,(E1.out i a h).2.2⟩) λh=>⟨(E1.out j a h).1,(E1.out j a h).2.2⟩,λa h1 h2=>hij (E1.dj i j a h1 h2), ?_⟩;cases ef:F (.obj c0 ns ts) kds ds with
       |ok d t' aa=>
        rw[ef]at q;exact λv G' H' T0 T1 ms fr dd o0 o1 rv=>q v G' H' _ (E1.two hij (Sl.mk_own lk0 t') (Sl.mk_lk lk0 t') (E1.mk_lt e1 etr t') (Sl.mkD_own lk2 aa) (Sl.mkD_lk lk2 aa) (E1.mkD_lt e1' ed aa) ms s1 s1' (λa ha=>fr a (.inl ha)) (λa ha=>fr a (.inr ha)) dd o0 o1) (sg.trans ms.gg) rv
       |ex x t' aa=>
        rw[ef]at q;exact λcls dx G' H' T0 T1 ms fr dd o0 o1 ea=>⟨x,G',ms.gh,ea,q G' H' _ (E1.two hij (Sl.mk_own lk0 t') (Sl.mk_lk lk0 t') (E1.mk_lt e1 etr t') (Sl.mkD_own lk2 aa) (Sl.mkD_lk lk2 aa) (E1.mkD_lt e1' ed aa) ms s1 s1' (λa ha=>fr a (.inl ha)) (λa ha=>fr a (.inr ha)) dd o0 o1) (sg.trans ms.gg)⟩
       |no=>rw[ef]at q;exact q
      ·exact q.elim
     |ex x=>simp only[ea]at q;exact λG1 H1 E1 sg=>q G1 H1 O E1 sg
     |no=>simp only[ea]at q;exact q.elim
  ·exact q.elim
 ·exact q.elim
def df_1{i:Nat}{y:Str}{e e2:Expr}{fe fk:FE}{p1 zh:Pos}(hu:X.A.units + 64 < cLine)(he:ED X EX e fe)(h2:ED X EX e2 fk)(hN:X.N[i]? =some y:=by rfl)(hv:Fd X.env.scope y:=by trivial)(hd:AG y:=by decide)
  (hcd:(y ==("__classdict__" :Str))=false:=by decide) (hs:swapsWith e (some (.Subscript (.Name y p1) e2 zh)) pos.line X.env=pure false:=by rfl):
  SD X EX (.Assign [.Subscript (.Name y p1) e2 zh] e pos) (br_5 i fk fe):=
 PS.imp (bh_1 () (Ff hN hv hd hcd) h2 he hs) λD σ H ⟨H0,G0,G,Δ,O,E,q⟩=>by
  unfold br_5 at q
  split at q
  ·rename_i kds lk e0;obtain⟨s,e1,ed⟩:=K0.mp e0;refine⟨G,Aw Δ,E.st.gh,E.gsh, ?_⟩;cases e2:fe (Aw Δ) with
   |ex x=>simp only[e2]at q;exact q.elim
   |no=>simp only[e2]at q;exact q.elim
   |ok w=>
    simp only[e2]at q;refine WP.intro λv G1 H1 st r=> ?_;have E1:=E.grow st;obtain⟨v0,s1,t⟩:=E1.ow i _ _ e1 (Sl.dct_own ed).1;obtain⟨a,kvc,rfl,mc,hHc,hkc,rlc⟩:=Ow.dict_of t;refine⟨_,s1, ?_⟩;refine⟨G1,Aw Δ,E1.st.gh,E1.gsh, ?_⟩;cases e3:fk (Aw Δ) with
    |ex x=>simp only[e3]at q;exact q.elim
    |no=>simp only[e3]at q;exact q.elim
    |ok z=>
     simp only[e3]at q;refine WP.intro λv2 G2 H2 st2 r2=> ?_
     split at q
     ·rename_i k0 ek
      split at q
      ·rename_i zk;have hv2:=s_9 r2 ek;subst hv2;have E2:=E1.grow st2;have hle:kvc.length=kds.length:=by
        have:=K5 List.length hkc
        rwa[A3,A3]at this
       obtain⟨p1,p2⟩:=bi_0 k0 hkc rlc r;exact⟨a,_,rfl,DPut.k (st2.hh _ _ hHc) (by rw[hle,F1];exact zk),q σ G2 _ _ (E2.writeD2 e1 ed s1 mc p1 (p2.mono st2.gg)) (st.gg.trans st2.gg)⟩
      ·exact q.elim
     ·exact q.elim
  ·exact q.elim
end
section
variable{X:Cx}{EX:Az}{pos:Pos}
def cj_4(js:List Nat){elt iter tg:Expr}{ifs:List Expr}{scope:Scope}{N':List Str}{f0:FE}{fg:Ga}{p:FT}{f:FE}{m i:Nat}{y:Str}{py ao:Pos}(hx0:∀e s,¬X.xe e s)(hc:X.calm=true)(hi:ED X Bt iter f0)(hk:scope.kind=.function)(hb:w_0 scope.names X.env.scope.names X.N N'=true)
  (hm:N'.length=X.N.length + m)
  (hin:∀C s0 H0 fp pn,GC (Cr X scope (Bz X.env.cells scope.names []) N' C s0 H0 fp pn) Bt tg fg/\CTs (Cr X scope (Bz X.env.cells scope.names []) N' C s0 H0 fp pn) Bt ifs p/\ED (Cr X scope (Bz X.env.cells scope.names []) N' C s0 H0 fp pn) Bt elt f)
  (hN:X.N.Nodup) (hy:X.N[i]? =some y:=by rfl) (hx:Loc X.env.scope y:=by trivial) (hf:X.fn y=true\/X.env.scope.names.lookup y=some .local:=by trivial)
  (hsw:swapsWith (.ListComp elt [⟨tg,iter,ifs,0⟩] scope pos) (some (.Name y py)) ao.line X.env=pure true:=by rfl)
  (hs:∀x,foldedSetIterable iter X.env x=pure x:=by intro _;rfl):SD X Bt (.Assign [.Name y py] (.ListComp elt [⟨tg,iter,ifs,0⟩] scope pos) ao) (Ak i js (Ci m (Fk f0) fg p f)):=by
 intro zd s σ H D I q;have q2:=au_7 q;obtain⟨G,δ,g0,h0,o⟩:=q2;have n:=aa_9 I.ok hk hb;obtain⟨w,kds,ew,ed⟩:∃w kds,f0 δ=.ok w/\w.d=.dic kds:=by
  unfold Ci Fk at o;cases e:f0 δ with
  |ok w=>
   rw[e]at o;simp only[R.bind_ok]at o;cases e2:w.d with
   |dic kds=>exact⟨w,kds,rfl,e2⟩
   |_=>rw[e2]at o;exact False.elim o
  |ex x=>rw[e]at o;exact False.elim o
  |no=>rw[e]at o;exact False.elim o
 have ek:Fk f0 δ=.ok (kds.map λp=>kD p.1):=by
  unfold Fk;rw[ew,R.bind_ok,ed];rfl
 let Z:Hp->Hp->Prop:=λG2 H2=>∃(a:Addr) (ob:Obj) (kvs:List (Af×V)) (G1 H1:Hp),Step G H G1 H1/\((G2=G1/\H2=H1)\/(G1 a=some (.dK kvs)/\(∀o v,X.H₀ a≠some (.frz o v))/\G2=upd G1 a (.frz ob (.dK kvs))/\H2=upd H1 a (.frz ob (.dK kvs))))
 rw[exec_Assign_Name_used _ _ _ _ hsw];refine A7 (P6 (A7 ?_));show wpAny _ X.A (do let _<-comprehension (.ListComp elt [⟨tg,iter,ifs,0⟩] scope pos) scope X.env _ (newList []) false (eval iter X.env) (some (assign (.Name y py) X.env))) _ _ s;refine A7 (F3 (P7 (use:=some (assign (.Name y py) X.env)) (Q:=λ_ s'=>SP X zd D .next s') rfl hs n.clos n.kind n.names
  (am_2 (RR:=λzn C=>compPost (model X.prog X.w) X.A X.xe (some (assign (.Name y py) X.env)) (λ_ s'=>SP X zd D .next s') zn C) hx0 (B:=bc_7) hk hb hm hin I (Z:=Z) (fi:=Fk f0) (δ:=δ) (λG2 H2 z=> ?_) (λ_ _ _ _ _ _=>hc) ?_ ?_ λDa C s1 G2 H2 G' H' vs rs e Io hm' fc z st h1 h2 h3 rl=> ?_)) (λ_ s' hq=>F0 (F0 hq)) λ_ _ e=>e)
 ·obtain⟨a,ob,kvs,G1,H1,st,z⟩:=z;rcases z with⟨rfl,rfl⟩|⟨ga,_,rfl,rfl⟩
  ·exact⟨st.gh,h0.mono st.gg⟩
  ·refine⟨s_5 st.gh _ _,(h0.mono st.gg).len,λi d e=> ?_⟩;obtain⟨v,e1,r⟩:=(h0.mono st.gg).get i d e;exact⟨v,e1,Has.tag ga (.inl rfl) (.inr ⟨ob,rfl⟩) r⟩
 ·refine Bc (hi zd s σ H (λv H1=>∃G1,Step G H G1 H1/\Has X.K G1 v w.d) I ⟨G,δ,g0,h0,by rw[ew];exact WP.intro λv G1 H1 st r=>⟨G1,st,r⟩⟩) λu s1 ⟨v,H1,I1,r1,G1,st,r⟩=> ?_;rw[ed]at r;cases r with
  |dic hh hk' r=>
   rename_i a kvs;cases r1;obtain⟨z,lo,ws,kv,o,es,ep,g1,c1,c2,c3⟩:=q_8 I1.hok (Same.rdD st.gh hh);have da:s1.heap.DictAt (Dx X.prog X.w) a ws ep:=⟨o,es,g1,c1,c2,c3⟩;refine wpAny_pyIter_dict lo da ?_;have I2:=I1.kept (t':=s1.toks) (h':=s1.heap.push {cls:=.type "dict_keyiterator",data:=.fields #[.ref a,.int 0 0,.int ws.length 0,.int ep 0]}) λb o e=>A4 _ e;have tn0:(s1.heap.push {cls:=.type "dict_keyiterator",data:=.fields #[.ref a,.int 0 0,.int ws.length 0,.int ep 0]}).IsKeyIter s1.heap.objs.size a 0 kvs.length ep:=⟨_,B8 _ rfl,rfl,by rw[kv.length];rfl⟩;have zk:(kds.map λp=>kD p.1).length=kvs.length:=by
    have:=K5 List.length hk';rw[A3,A3]at this;rw[A3];exact this.symm
   have itd:∀G2:Hp,G2 a=some (.frz o (.dK kvs))->ItD X.K G2 (Itk a o kvs) (kds.map λp=>kD p.1):=λG2 ga G' H' s1' s2' i=>by
    have gH:H' a=some (.frz o (.dK kvs)):=s2' _ _ (s1' _ _ ga);refine⟨λd e=>⟨⟨gH, ?_⟩,λx H'' y=> ?_⟩,λe=>⟨gH,by omega⟩⟩
    ·have:=(B4.mp e).1;omega
    ·obtain⟨rfl,q,hq,rfl⟩:=y;refine⟨G',Step.refl s2', ?_⟩;rw[A8]at e;obtain⟨q',hq',rfl⟩:=E7.mp e;have e1:(kvs.map (·.1))[i]? =some q.1:=by rw[A8,hq];rfl
     have e2:(kds.map (·.1))[i]? =some q'.1:=by rw[A8,hq'];rfl
     rw[hk',e2]at e1;have e3:q'.1=q.1:=F6 e1;rw[e3];exact am_7 _
   have fr:∀H2:Hp,H2 s1.heap.objs.size=none->∀b∈ [s1.heap.objs.size],Gb X zd H2 b:=λH2 hn b hb=>by
    have e:b=s1.heap.objs.size:=by simpa using hb
    subst e;exact I1.fpOk (B5 _) hn
   have free:=I1.hok.fresh (B5 s1.heap.objs.size);rcases hh with hh|⟨o',hh⟩
   ·have hH:=st.gh _ _ hh;have nf:∀o v,X.H₀ a≠some (.frz o v):=λo v e=>by
     have:=I1.base.frzs a o v e;rw[hH]at this;cases this
    have ok:ObjOk X.prog X.w (upd H1 a (.frz o (.dK kvs))) (s1.heap.push {cls:=.type "dict_keyiterator",data:=.fields #[.ref a,.int 0 0,.int ws.length 0,.int ep 0]}) a (.frz o (.dK kvs)):=⟨A4 _ g1,z,lo,ws,kv,o,es,ep,A4 _ g1,c1,c2,c3⟩;have I3:=Inv.retag I2 hH (λ_ z=>by cases z) (λ_ z=>by cases z) (λ_ z=>by cases z) nf ok;refine⟨_,_,_,Itk a o kvs,_,_,upd G1 a (.frz o (.dK kvs)),rfl,I3,Turn.z (ad_2 a _ o kvs c2),tn0,fr _ ?_,ek,⟨a,o,kvs,G1,H1,st,.inr ⟨hh,nf,rfl,rfl⟩⟩,itd _ Bk⟩;rw[Ao (λz=>by rw[z,hH]at free;cases free)];exact free
   ·have hH:=st.gh _ _ hh;obtain⟨g2,_⟩:=(show ObjOk X.prog X.w H1 s1.heap a (.frz o' (.dK kvs)) from I1.hok a _ hH);rw[g1]at g2;cases g2;exact⟨_,_,_,Itk a o kvs,H1,_,G1,rfl,I2,Turn.z (ad_2 a _ o kvs c2),tn0,fr _ free,ek,⟨a,o,kvs,G1,H1,st,.inl ⟨rfl,rfl⟩⟩,itd _ hh⟩
 ·cases e:Ci m (Fk f0) fg p f δ with
  |ok w=>trivial
  |ex x=>rw[e]at o;exact o
  |no=>rw[e]at o;exact o
 ·rw[e]at o;obtain⟨mm,hnm⟩:=hm';obtain⟨c0,c1,c2,c3,c4,c5⟩:=fc;obtain⟨a,ob,kvs,G1,H1,st1,z⟩:=z;rcases z with⟨rfl,rfl⟩|⟨ga,nf,rfl,rfl⟩
  ·show wpAny _ X.A (assign (.Name y py) X.env (.ref Da)) _ _ _;refine T8 (ac_4 Io hN hy hx (v:=.ref Da) rfl (λs2 I2 ⟨a,sb,ha⟩=> ?_) hf);have hCa:C≠a:=by
    rcases ha with rfl|ha
    ·exact c1
    ·exact λz=>c4 y a ha z.symm
   exact⟨mm,hnm.sameBut sb hCa,λh' sb'=>⟨_,H',I2.turned (t':=s2.toks) (λb ob hb e=>(sb'.2 b hb).trans e) c0 c1 c3 c4 c5,o (.ref Da) (λb=>b=Da) G' H' (st1.trans st) (λa e=>by subst e;exact⟨st1.hh.free h1,h3,by rw[h2];simp⟩) (.list h2 rfl rl)⟩⟩
  ·have gF:G' a=some (.frz ob (.dK kvs)):=st.gg _ _ Bk;have hF:H' a=some (.frz ob (.dK kvs)):=st.hh _ _ Bk;have hH1:H1 a=some (.dK kvs):=st1.gh _ _ ga;have nDa:Da≠a:=λz=>by rw[z,Bk]at h1;cases h1
   have nC:C≠a:=λz=>by rw[z,hF]at c0;cases c0
   obtain⟨_,okd⟩:=(show ObjOk X.prog X.w H' s1.heap a (.frz ob (.dK kvs)) from Io.hok a _ hF);have I4:Inv X zd σ (upd H' a (.dK kvs)) s1:=Inv.retag Io hF (λ_ z=>by cases z) (λ_ z=>by cases z) (λ_ z=>by cases z) nf okd;have stA:Step G H (upd G' a (.dK kvs)) (upd H' a (.dK kvs)):=by
    refine⟨λb o z=> ?_,s_5 st.gh _ _,λb o z=> ?_,λb z1 z2=> ?_⟩
    ·have z1:=st1.hh _ _ z
     by_cases hb:b=a
     ·subst hb;rw[hH1]at z1;rw[Bk];exact z1
     ·rw[Ao hb];exact st.hh _ _ (by rw[Ao hb];exact z1)
    ·have z1:=st1.gg _ _ z
     by_cases hb:b=a
     ·subst hb;rw[ga]at z1;rw[Bk];exact z1
     ·rw[Ao hb];exact st.gg _ _ (by rw[Ao hb];exact z1)
    ·have g1:=st1.nw b z1 z2;have hb:b≠a:=λq=>by rw[q,ga]at g1;cases g1
     rw[Ao hb];exact st.nw b (by rw[Ao hb];exact g1) (by rw[Ao hb];exact λq=>z2 (st1.hh.free q))
   have h2':upd H' a (.dK kvs) Da=some (.lst vs):=by rw[Ao nDa];exact h2
   show wpAny _ X.A (assign (.Name y py) X.env (.ref Da)) _ _ _;refine T8 (ac_4 I4 hN hy hx (v:=.ref Da) rfl (λs2 I2 ⟨ay,sb,ha⟩=> ?_) hf);have hCa:C≠ay:=by
    rcases ha with rfl|ha
    ·exact c1
    ·exact λz=>c4 y ay ha z.symm
   refine⟨mm,hnm.sameBut sb hCa,λh' sb'=>⟨_,_,I2.turned (t':=s2.toks) (λb ob hb e=>(sb'.2 b hb).trans e) (by rw[Ao nC];exact c0) c1 c3 c4 c5,o (.ref Da) (λb=>b=Da) _ _ stA (λx e=> ?_) (.list h2' rfl (HasL.tag gF (.inr ⟨ob,rfl⟩) (.inl rfl) rl))⟩⟩;subst e;refine⟨st1.hh.free (by rw[Ao nDa]at h1;exact h1),by rw[Ao nDa];exact h3,by rw[h2'];simp⟩
def ct_5(js:List Nat){elt iter tg:Expr}{ifs:List Expr}{scope:Scope}{N':List Str}{f0:FE}{fg:Ga}{p:FT}{f:FE}{m i:Nat}{y:Str}{py ao:Pos}(hc:X.calm=true)(hi:ED X.nox Bt iter f0)(hk:scope.kind=.function)(hb:w_0 scope.names X.env.scope.names X.N N'=true)
  (hm:N'.length=X.N.length + m)
  (hin:∀C s0 H0 fp pn,GC (Cr X scope (Bz X.env.cells scope.names []) N' C s0 H0 fp pn) Bt tg fg/\CTs (Cr X scope (Bz X.env.cells scope.names []) N' C s0 H0 fp pn) Bt ifs p/\ED (Cr X scope (Bz X.env.cells scope.names []) N' C s0 H0 fp pn) Bt elt f)
  (hN:X.N.Nodup) (hy:X.N[i]? =some y:=by rfl) (hx:Loc X.env.scope y:=by trivial) (hf:X.fn y=true\/X.env.scope.names.lookup y=some .local:=by trivial)
  (hsw:swapsWith (.ListComp elt [⟨tg,iter,ifs,0⟩] scope pos) (some (.Name y py)) ao.line X.env=pure true:=by rfl)
  (hs:∀x,foldedSetIterable iter X.env x=pure x:=by intro _;rfl):SD X EX (.Assign [.Name y py] (.ListComp elt [⟨tg,iter,ifs,0⟩] scope pos) ao) (Ak i js (Ci m (Fk f0) fg p f)):=
 PS.imp (PS.nox (cj_4 (X:=X.nox) js (λ_ _ z=>z) hc hi hk hb hm hin hN hy hx hf hsw hs)) λD σ H ⟨H0,G0,G,Δ,O,E,q⟩=>by
  refine⟨H0,G0,G,Δ,O,E, ?_⟩;cases e:Ak i js (Ci m (Fk f0) fg p f) Δ with
  |ex x Δ'=>exact(bz_8 (λ_ _ z=>ai_2 z) e).elim
  |_=>rw[e]at q;exact q
end
end L3
local macro_rules|`(#v[])=>`(L3.Ac)|`(#v[$n:num])=>`(L3.Ab (L3.Aa $n) L3.Ac)|`(#v[$x])=>`(L3.Ab $x L3.Ac)|`(#v[$n:num,$xs,*])=>`(L3.Ab (L3.Aa $n) #v[$xs,*])|`(#v[$x,$xs,*])=>`(L3.Ab $x #v[$xs,*])
namespace My
open PySem L2 L3
def bd_9:FS:=
  (Ag (Ak 2 [0,1] (Ae Bu (Ae Du (Ae Ca (Aa 0) (eC (.int 1))) (Ae Ca (eC (.int 48271)) (Ae Du (eC (.int 118)) (Aa 1)))) (eC (.int 2147483629))))
  (As [1,2] (Ae Bu (Ae Ca (Ae Ca (Ae Du (Ae Gg (Aa 2) (eC (.int 977))) (eC (.int 16807))) (Ae Du (Aa 2) (Ae Ca (Ae Du (Aa 1) (Aa 1)) (eC (.int 7))))) (Aa 1)) (eC (.int 2147483587)))))
def g_5:List D->R W:=Ap 3 bd_9
def ax_0:FS:=
  (Ag (Ak 2 [] (eC (.int 0)))
  (Ag (Bl [0,1] (Ah (Ae ltD (Aa 1) (At x_8 #v[0])))
   (Ak 2 [0,1] (Ae Bu (Ae Bf (Aa 0) (Aa 1)) (eC (.int 2147483647))))
   Ar)
  (As [1,2] (Bi 2 g_5 #v[2,Ae Ca (Aa 1) (eC (.int 101))]))))
def j_0:List D->R W:=Ap 3 ax_0
def ap_6:FS:=
  (Ag (Ak 2 [0] (Bi 2 j_0 #v[0,eC (.int 1)]))
  (Ag (Ak 3 [1,2] (Ae Ca (eC (.int 1)) (Ae Bu (Aa 2) (Aa 1))))
  (Ag (Ak 4 [2] (Ae Bf (By #v[eC (.int 0),eC (.int 1),Ae Bu (Ae Gg (Aa 2) (eC (.int 64))) (eC (.int 1000)),Ae Ca (Ae powD (eC (.int 10)) (eC (.int 12))) (Aa 2)]) (Ae Bu (Ae Gg (Aa 2) (eC (.int 32))) (eC (.int 4)))))
  (Ag (Ak 5 [2] (Bi 2 g_5 #v[2,eC (.int 5)]))
  (Ag (Ak 6 [5] (Ae Bf (By #v[eC (.int 2),eC (.int 3),Ae Ca (eC (.int 2)) (Ae Bu (Ae Gg (Aa 5) (eC (.int 8))) (eC (.int 9))),eC (.int 10),eC (.int 1000),eC (.int 1000000000),Ae Ca (eC (.int 2)) (Ae Bu (Ae Gg (Aa 5) (eC (.int 8))) (eC (.int 999999999))),eC (.int 7)]) (Ae Bu (Aa 5) (eC (.int 8)))))
  (As [3,4,6] (Dy #v[3,4,6])))))))
def p_7:List D->R W:=Ap 7 ap_6
def ax_1:FS:=
  (Ag (Ak 3 [0,1] (At maxD #v[eC (.int 0),Ae Ds (At x_8 #v[0]) (Aa 1)]))
  (As [0,1,2,3] (At minD #v[2,At maxD #v[3,Ae Bu (Bi 2 j_0 #v[0,Ae Ds (Aa 1) (eC (.int 1))]) (Ae Ca (Aa 2) (eC (.int 1)))]])))
def p_0:List D->R W:=Ap 4 ax_1
def an_5:FS:=
  (Ag (Ak 2 [] (eC (.int 0)))
  (Ag (Bl [0,1] (Ah (Ae ltD (Aa 1) (At x_8 #v[0])))
   (Ak 2 [0,1] (Ae Bf (Aa 0) (Aa 1)))
   Ar)
  (Ag (Bl [0] (Ah (Ae Cm (Ae Bu (Bi 2 j_0 #v[0,eC (.int 0)]) (eC (.int 2))) (eC (.int 0))))
   (Cb 2)
   Ar)
  (As [1,2] (Bi 2 g_5 #v[Bi 2 g_5 #v[Ae Bu (Aa 2) (eC (.int 2147483647)),Ae Ca (Aa 1) (eC (.int 7))],1])))))
def p_1:List D->R W:=Ap 3 an_5
def y_8:FS:=
  (Ag (Ak 1 [1,2] (Ae Ca (Aa 1) (Ae Bf (eC (.str "abcdefghijklmnopqrstuvwxyz0123456789-_ ")) (Ae Bu (Aa 2) (eC (.int 39))))))
  (Ak 2 [2] (Ae Gg (Aa 2) (eC (.int 39)))))
def ax_2:FS:=
  (Ag (Ak 1 [] (eC (.str "")))
  (Ag (Ak 2 [0] (Ae Gg (Aa 0) (eC (.int 12))))
  (Ag (y_1 [0] (Fb rng1 #v[Ae Bu (Aa 0) (eC (.int 12))]) (gV 3) y_8)
  (Cb 1))))
def t_5:List D->R W:=Ap 4 ax_2
def w_5:FS:=
  (Ag (Ak 1 [0] (Ae Gg (Aa 0) (eC (.int 4))))
  (Ag (Bl [0] (Ah (Ae Cm (Ae Bu (Aa 0) (eC (.int 4))) (eC (.int 0))))
   (As [1] (Ae Bu (Aa 1) (Ae powD (eC (.int 10)) (eC (.int 18)))))
   Ar)
  (Ag (Bl [0] (Ah (Ae Cm (Ae Bu (Aa 0) (eC (.int 4))) (eC (.int 1))))
   (As [1] (Bi 1 t_5 #v[1]))
   Ar)
  (As [0,1] (Ae Bu (Aa 1) (Ae Bf (By #v[eC (.int 50),eC (.int 12)]) (Ae Ds (Ae Bu (Aa 0) (eC (.int 4))) (eC (.int 2)))))))))
def l_7:List D->R W:=Ap 2 w_5
def ax_3:FS:=
  (Ag (Ak 5 [0,1,2] (Bi 2 p_1 #v[0,Ae Ca (Aa 1) (Ae Bu (Aa 2) (At maxD #v[eC (.int 1),Ae Ds (At x_8 #v[0]) (Aa 1)]))]))
  (Ag (Bl [0] (Ah (Ae Cm (Ae Bu (Bi 2 j_0 #v[0,eC (.int 0)]) (eC (.int 2))) (eC (.int 1))))
   (Ak 5 [2,5] (Bi 2 g_5 #v[Ae Bu (Aa 5) (eC (.int 2147483647)),2]))
   Ar)
  (Ag (Ak 6 [5] (Ae Bu (Aa 5) (eC (.int 8))))
  (Ag (Ak 7 [5] (Ae Gg (Aa 5) (eC (.int 8))))
  (Ag (Ak 8 [4,7] (Ae Bu (Aa 7) (Ae Bf (Aa 4) (eC (.int 2)))))
  (Ag (Ak 9 [4,7] (Bi 1 l_7 #v[Ae Gg (Aa 7) (Ae Bf (Aa 4) (eC (.int 2)))]))
  (Ag (Bl [3,6] (Cj (Ah (Ae gtD (Aa 6) (eC (.int 4)))) (Ah (Ae br_3 (Aa 3) ai_6)))
   (Ak 9 [3,4,7] (Ae Bf (eKL (Aa 3)) (Ae Bu (Ae Gg (Aa 7) (Ae Bf (Aa 4) (eC (.int 2)))) (At Cw #v[3]))))
   Ar)
  (As [6,8,9] (Dy #v[Ae Bf (By #v[eC (.int 0),eC (.int 0),eC (.int 0),eC (.int 0),eC (.int 0),eC (.int 0),eC (.int 1),eC (.int 1)]) (Aa 6),9,8])))))))))
def l_1:List D->R W:=Ap 10 ax_3
def v_1:FS:=
  (Ak 1 [1,2] (Ae Ca (Ae Ca (Ae Du (eC (.int 40)) (Aa 1)) (eC (.int 1))) (eMeth "str" am_4 (eC (.str "abcdefghijklmnopqrstuvwxyz0123456789-_ ")) #v[2])))
def ab_6:FS:=
  (Ag (Bl [0] (Ay (eIs "int" (Aa 0)))
   (As [0] (Ae Du (eC (.int 2)) (Aa 0)))
   Ar)
  (Ag (Ak 1 [] (eC (.int 0)))
  (Ag (y_1 [0] (Ez (Aa 0)) (gV 2) v_1)
  (As [1] (Ae Ca (Ae Du (eC (.int 2)) (Aa 1)) (eC (.int 1)))))))
def l_2:List D->R W:=Ap 3 ab_6
def ap_7:FS:=
  (Ag (Ak 3 [] (eC (.int 2305843009213693951)))
  (Ag (Ak 4 [1,3] (Ae Ca (eC (.int 1)) (Ae Bu (Ae Ca (Ae Du (eC (.int 1103515245)) (Aa 1)) (eC (.int 12345))) (Ae Ds (Aa 3) (eC (.int 1))))))
  (Ag (Ak 5 [0,1,3,4] (Ae Bu (Ae Ca (Ae Du (Aa 4) (Aa 0)) (Ae Bu (Ae Ca (Ae Du (Ae Du (eC (.int 69069)) (Aa 1)) (Aa 1)) (Ae Du (eC (.int 7)) (Aa 1))) (Aa 3))) (Aa 3)))
  (As [2,5] (Ae Bu (Ae Ca (Aa 5) (Ae Gg (Aa 5) (eC (.int 2147483648)))) (Aa 2))))))
def n_2:List D->R W:=Ap 6 ap_7
def aj_5:FS:=
  (Ag (Dw (bd_1 [3,4,5]) [1] (Aa 1))
  (Ag (Ak 2 [0] (Bi 1 l_2 #v[0]))
  (As [2,3,4] (Dy #v[Bi 3 n_2 #v[2,Ae Du (eC (.int 4)) (Aa 4),3],Ae Ca (Aa 3) (Bi 3 n_2 #v[2,Ae Ca (Ae Du (eC (.int 4)) (Aa 4)) (eC (.int 1)),3])]))))
def c_7:List D->R W:=Ap 6 aj_5
def l_8:FE:=
  (Bi 2 c_7 #v[9,3])
def l_9:FT:=
  (Ah (Ae Dt (Aa 9) (Aa 2)))
def f_0:FS:=
  (Ag (Ak 8 [4,6,7] (Ae Ds (Ae Ca (Ae Bf (Aa 7) (eC (.int 0))) (Ae Bf (Aa 7) (eC (.int 1)))) (Ae Bf (Aa 4) (Aa 6))))
  (Bl [4,6,7,8] (Cj (Ah (Ae (Ep false) (Ae Bf (Aa 4) (Aa 6)) (Aa 7))) (Ah (Ae (Ep true) (Aa 8) (Aa 4))))
   (Ee 4 (Aa 8))
   Ar))
def r_3:FT:=
  (Ah (Ae ltD (Aa 6) (At x_8 #v[4])))
def r_4:FS:=
  (Ag (y_1 [5] (Ez (Aa 5)) (gV 7) f_0)
  (Ak 6 [6] (Ae Ca (Aa 6) (eC (.int 1)))))
def ag_3:FS:=
  (Ag (Ak 4 [1] (By #v[1]))
  (Ag (Ak 5 [0,2,3] (Ci 1 (Fk (Aa 0)) (gC 9) l_9 l_8))
  (Ag (Ak 6 [] (eC (.int 0)))
  (Ag (m_3 [4,6] r_3 r_4 3000)
  (Cb 4)))))
def l_3:List D->R W:=Ap 9 ag_3
def f_5:FE:=
  (Bi 1 l_2 #v[9])
def d_8:FS:=
  (Ag (Bl [1,2,6] (El (Ah (Ae (Dq true) (Aa 6) (Aa 1))) (Ah (Ae Cm (Aa 6) (Aa 2))))
   (As [] (eC (.bl false)))
   Ar)
  (Ag (Ak 8 [3,6] (Bi 2 c_7 #v[6,3]))
  (Ag (Bl [4,8] (Ah (Ae (Ep true) (Aa 4) (Aa 8)))
   (As [] (eC (.bl false)))
   Ar)
  (Ak 4 [4,8] (Ae Ds (Ae Ca (Ae Bf (Aa 8) (eC (.int 0))) (Ae Bf (Aa 8) (eC (.int 1)))) (Aa 4))))))
def p_2:FS:=
  (Ag (Dw (gP 5 7) [2,3] (Bi 2 c_7 #v[2,3]))
  (Ag (Bl [1,2,3,5,7] (Ah (Ae (Ep true) (Aa 7) (Bi 4 l_3 #v[1,5,2,3])))
   (As [0] (Ae (Fm false) (Aa 0) (eC .non)))
   Ar)
  (Ag (Bl [0] (El (Cd (Ay (eIs "list" (Aa 0)))) (Ah (Ae Dt (ai_5 (Ci 1 (Ez (Aa 0)) (gC 9) (λ_=> .ok true) f_5)) (At x_8 #v[0]))))
   (As [] (eC (.bl false)))
   Ar)
  (Ag (Ak 4 [5] (Aa 5))
  (Ag (y_1 [0] (Ez (Aa 0)) (gV 6) d_8)
  (As [4,7] (Ae Cm (Aa 4) (Aa 7))))))))
def f_6:List D->R W:=Ap 9 p_2
def ab_7:FS:=
  (As [0] (At bv_2 #v[Cz ["Living"] "listed" (Aa 0)]))
def b_7:List D->R W:=Ap 1 ab_7
def w_6:FS:=
  (Ag (Ak 4 [0] (Bo "table" 0 [("Living",b_7)] (Aa 0) Ac))
  (Ag (Dw (gP 5 6) [2,3] (Bi 2 c_7 #v[2,3]))
  (As [3,4,5,6] (Ae Bu (Ae Ca (Ae Bf (Aa 4) (Aa 5)) (Ae Bf (Aa 4) (Aa 6))) (Ae Bf (Aa 3) (eC (.int 2)))))))
def e_7:List D->R W:=Ap 7 w_6
def g_0:FS:=
  (Ak 3 [1,3,4,5] (Ae Ca (Aa 3) (Ae Bf (By #v[Ae Eh (Aa 1) (Aa 5),Ae Ds (eC (.int 0)) (Ae Eh (Aa 1) (Aa 5))]) (Ae Bu (Aa 4) (eC (.int 2))))))
def aj_6:FS:=
  (Ag (Ak 3 [] (eC (.int 0)))
  (Ag (y_1 [0] (ca_2 (Aa 0)) (Gi 4 5) g_0)
  (As [2,3] (Ae Bu (Aa 3) (Aa 2)))))
def o_3:List D->R W:=Ap 6 aj_6
def e_6:FS:=
  (Bl [2,6] (Ah (Ae (Dq true) (Aa 6) (Aa 2)))
   (Ag (bo_2 2 [4,5] (Aa 6) (Dy #v[5,4]))
  (Ee 3 (Aa 6)))
   Ar)
def r_5:FT:=
  (Ah (Ae gtD (At x_8 #v[3]) (eC (.int 0))))
def r_6:FS:=
  (Ag (br_4 4 3 (eC (.int 0)))
  (y_1 [1,4] (Ez (bo_3 (Aa 1) (Aa 4) (By Ac))) (Gi 5 6) e_6))
def ag_4:FS:=
  (Ag (Ak 2 [0] (cs_2 (Aa 0) (eC .non)))
  (Ag (Ak 3 [0] (By #v[0]))
  (Ag (m_3 [3] r_5 r_6 3000)
  (Cb 2))))
def i_5:List D->R W:=Ap 7 ag_4
def m_5:FT:=
  (Ah (Ae (Fm true) (Aa 3) (eC .non)))
def j_3:FS:=
  (Ag (Ee 2 (Ae Bf (Aa 3) (eC (.int 0))))
  (Ak 3 [1,3] (Ae Eh (Aa 1) (Ae Bf (Aa 3) (eC (.int 1))))))
def u_7:FS:=
  (Ag (Ak 2 [] (By Ac))
  (Ag (Ak 3 [0,1] (Ae Eh (Aa 1) (Aa 0)))
  (Ag (m_3 [3] m_5 j_3 3000)
  (Cb 2))))
def k_7:List D->R W:=Ap 4 u_7
def m_9:FE:=
  (Ae (Ep false) (Aa 1) (eC (.str "abcdefghijklmnopqrstuvwxyz0123456789-_ ")))
def af_1:FS:=
  (As [0] (eAnd (Ae leD (At x_8 #v[0]) (eC (.int 11))) (At allD #v[(Ci 1 (Ez (Aa 0)) (gC 1) (λ_=> .ok true) m_9)])))
def m_7:List D->R W:=Ap 1 af_1
def ax_4:FS:=
  (Ag (Bl [0] (Ay (eIs "bool" (Aa 0)))
   (As [] (eC (.bl false)))
   Ar)
  (Ag (Bl [0] (Ay (eIs "int" (Aa 0)))
   (As [0] (aa_4 leD leD (eC (.int 0)) (Aa 0) (eC (.int 999999999999999999))))
   Ar)
  (As [0] (eAnd (eIs "str" (Aa 0)) (Bi 1 m_7 #v[0])))))
def w_7:List D->R W:=Ap 1 ax_4
def an_6:FS:=
  (Ak 1 [1,2] (Ae Ca (Ae Ca (Ae Du (eC (.int 40)) (Aa 1)) (eMeth "str" bn_8 (eC (.str "abcdefghijklmnopqrstuvwxyz0123456789-_ ")) #v[2])) (eC (.int 1))))
def cc_8:FS:=
  (Ag (Ak 1 [] (eC (.int 0)))
  (Ag (y_1 [0] (Ez (Aa 0)) (gV 2) an_6)
  (Cb 1)))
def aj_7:List D->R W:=Ap 3 cc_8
def bj_9:FS:=
  (Ag (Bl [0] (Cd (Ay (Bi 1 w_7 #v[0])))
   (af_8 "NoKey" "at" [] (eC (.int 0)))
   Ar)
  (Ag (Bl [0] (Ay (eIs "str" (Aa 0)))
   (As [0] (Ae Ca (Ae Du (eC (.int 2)) (Bi 1 aj_7 #v[0])) (eC (.int 1))))
   Ar)
  (As [0] (Ae Du (eC (.int 2)) (Aa 0)))))
def m_0:List D->R W:=Ap 1 bj_9
def cc_9:FS:=
  (Ag (Bl [2] (Ah (Ae Cm (Aa 2) (eC (.int 0))))
   (As [] (eC (.int 0)))
   Ar)
  (Ag (Ak 3 [1] (Ae Ca (eC (.int 1)) (Ae Bu (Ae Ca (Ae Du (eC (.int 1103515245)) (Aa 1)) (eC (.int 12345))) (Ae Ds (eC (.int 2305843009213693951)) (eC (.int 1))))))
  (Ag (Ak 4 [1] (Ae Bu (Ae Ca (Ae Du (Ae Du (eC (.int 69069)) (Aa 1)) (Aa 1)) (Ae Du (eC (.int 7)) (Aa 1))) (eC (.int 2305843009213693951))))
  (Ag (Ak 5 [0,3,4] (Ae Bu (Ae Ca (Ae Du (Aa 3) (Aa 0)) (Aa 4)) (eC (.int 2305843009213693951))))
  (As [2,5] (Ae Bu (Ae Ca (Aa 5) (Ae Gg (Aa 5) (eC (.int 2147483648)))) (Aa 2)))))))
def aj_8:List D->R W:=Ap 6 cc_9
def p_5:FE:=
  (Ae Ca (Ae Du (Aa 5) (Aa 3)) (Bi 3 aj_8 #v[4,Ae Ca (Ae Du (eC (.int 4)) (Aa 1)) (Aa 5),3]))
def ap_8:FS:=
  (Ag (Ak 4 [0] (Bi 1 m_0 #v[0]))
  (As [1,2,3,4] (At co_1 #v[(Ci 1 (Fb rng1 #v[2]) (gC 5) (λ_=> .ok true) p_5)])))
def p_8:List D->R W:=Ap 5 ap_8
def z_5:FS:=
  (As [0,1] (Bi 4 p_8 #v[1,Cz ["Living"] "by_salt" (Aa 0),eC (.int 2),Cz ["Living"] "part" (Aa 0)]))
def b_6:List D->R W:=Ap 2 z_5
def ap_9:FS:=
  (Ag (sSdb 1 (Ae Bf (Aa 3) (eC (.int 0))) (Dy #v[2,Ae Bf (Aa 3) (eC (.int 1))]))
  (sSdb 1 (Ae Bf (Aa 3) (eC (.int 1))) (Dy #v[2,Ae Bf (Aa 3) (eC (.int 0))])))
def an_7:FS:=
  (Ag (Ak 1 [] ai_6)
  (Ag (y_1 [0] (Ez (Aa 0)) (Gi 2 3) ap_9)
  (Cb 1)))
def ad_5:List D->R W:=Ap 4 an_7
def g_6:FE:=
  (Dy #v[2,Bo "places" 1 [("Living",b_6)] (Aa 0) #v[2]])
def g_7:FT:=
  (Ah (Ae Dt (Aa 2) (Aa 1)))
def o_6:FS:=
  (As [0,1] (Bi 1 ad_5 #v[Ci 1 (Fk (Cz ["Living"] "by_key" (Aa 0))) (gC 2) g_7 g_6]))
def b_1:List D->R W:=Ap 2 o_6
def v_2:FS:=
  (Ag (Ak 2 [0,1] (Bo "places" 1 [("Living",b_6)] (Aa 0) #v[1]))
  (Ag (Ak 3 [0,1,2] (Bi 2 i_5 #v[Ae Bf (Aa 2) (eC (.int 1)),Bo "ways_without" 1 [("Living",b_1)] (Aa 0) #v[1]]))
  (Ag (Bl [2,3] (Ah (Ae (Dq true) (Ae Bf (Aa 2) (eC (.int 0))) (Aa 3)))
   (As [] (eC .non))
   Ar)
  (As [2,3] (Bi 2 k_7 #v[Ae Bf (Aa 2) (eC (.int 0)),3])))))
def e_5:List D->R W:=Ap 4 v_2
def q_7:FS:=
  (Ag (Ak 4 [0,2] (Bo "ring" 1 [("Living",e_5)] (Aa 0) #v[2]))
  (Ag (Bl [1,2,3,4] (Cd (Ay (Bi 4 f_6 #v[4,1,2,3])))
   (As [] (eC (.bl false)))
   Ar)
  (Ag (Bl [4] (Ah (Ae (Fm false) (Aa 4) (eC .non)))
   (As [] (eC (.bl true)))
   Ar)
  (Ag (Ak 5 [0,1,2,3] (Bi 4 e_7 #v[0,1,2,3]))
  (Ag (Bl [1,3,4,5] (El (Ah (Ae Dt (Ae Bu (At x_8 #v[4]) (eC (.int 2))) (eC (.int 1)))) (Ah (Ae Dt (Bi 3 o_3 #v[4,1,Ae Bf (Aa 3) (eC (.int 2))]) (Aa 5))))
   (As [] (eC (.bl false)))
   Ar)
  (Ag (bj_8 4)
  (As [] (eC (.bl true)))))))))
def g_9:List D->R W:=Ap 6 q_7
def y_9:FS:=
  (As [0,1] (eAnd (eNot (eIs "bool" (Aa 0))) (aa_4 leD ltD (eC (.int 0)) (Aa 0) (Aa 1))))
def j_1:List D->R W:=Ap 2 y_9
def aq_0:FS:=
  (As [0,1] (eIf (Ah (Ae Cm (Aa 1) (eC (.int 0)))) (eC (.int 0)) (Ae Bu (Aa 0) (Aa 1))))
def n_3:List D->R W:=Ap 2 aq_0
def j_8:FS:=
  (Ag (Dr 7 (Dl [0] (eIf (Ah (Ae ltD (Aa 5) (Cz ["Living"] "part" (Aa 0)))) (Aa 2) (Aa 3))))
  (Ee 4 (eIf (Ah (Ae (Dq false) (Aa 5) (Aa 1))) (Bi 2 n_3 #v[Ae Ca (Aa 6) (Aa 7),Cz ["Living"] "modulus" (Aa 0)]) (Aa 6))))
def ab_8:FS:=
  (Ag (Ak 4 [] (By Ac))
  (Ag (br_1 (Dl [0] (Cz ["Living"] "listed" (Aa 0))) (Gi 5 6) j_8)
  (bq_8 0 ["Living"] "listed" [4] (Aa 4))))
def d_9:Tn->List D->RR:=w_3 8 ab_8
def af_2:FS:=
  (Ag (Ak 4 [1,3] (Bi 2 i_5 #v[Ae Bf (Aa 1) (eC (.int 0)),3]))
  (Ag (Ak 5 [1,3] (Bi 2 i_5 #v[Ae Bf (Aa 1) (eC (.int 1)),3]))
  (Ag (Bl [1,4] (Ah (Ae (Dq false) (Ae Bf (Aa 1) (eC (.int 1))) (Aa 4)))
   (ad_1 "Stuck")
   Ar)
  (Ag (Bl [4,5] (Ah (Ae leD (At Cw #v[4]) (At Cw #v[5])))
   (Ag (t_3 (Ge [2,4] (r_0 0 3 "shift" "Living" d_9 (Ce (Aa 4) (Ce (Aa 2) (Ce (eNeg (Aa 2)) Ex))))))
  (o_2 (w_4 [4] (At Cw #v[4]))))
   Ar)
  (Ag (t_3 (Ge [2,5] (r_0 0 3 "shift" "Living" d_9 (Ce (Aa 5) (Ce (eNeg (Aa 2)) (Ce (Aa 2) Ex))))))
  (o_2 (w_4 [5] (At Cw #v[5]))))))))
def h_9:Tn->List D->RR:=w_3 6 af_2
def t_6:FE:=
  (Ae Bf (Aa 0) (Aa 4))
def t_7:FT:=
  (Ay (Bi 2 j_1 #v[4,At x_8 #v[0]]))
def br_6:FS:=
  (Ag (Ak 3 [0,1] (Ci 1 (Ez (Aa 1)) (gC 4) t_7 t_6))
  (As [2,3] (Bi 2 n_3 #v[At sumD #v[3],2])))
def ab_9:List D->R W:=Ap 4 br_6
def ac_0:FS:=
  (As [0,1] (Bi 3 ab_9 #v[Cz ["Living"] "listed" (Aa 0),Bo "places" 1 [("Living",b_6)] (Aa 0) #v[1],Cz ["Living"] "modulus" (Aa 0)]))
def b_8:List D->R W:=Ap 2 ac_0
def aj_9:FS:=
  (Ag (Dr 3 (Dl [0] (Bo "places" 1 [("Living",b_6)] (Aa 0) #v[1])))
  (Ag (Bl [0,2] (Cd (Ay (Bi 2 j_1 #v[2,Cz ["Living"] "modulus" (Aa 0)])))
   (af_8 "NoValue" "at" [] (eC (.int 0)))
   Ar)
  (Ag (Dr 4 (Dl [0] (Ae Ds (Aa 2) (Bo "value" 1 [("Living",b_8)] (Aa 0) #v[1]))))
  (Ag (Ak 5 [] (eC (.int 0)))
  (Ag (Bl [4] (Ah (Ae Dt (Aa 4) (eC (.int 0))))
   (Dr 5 (Ge [1,3,4] (r_0 0 3 "mend" "Living" h_9 (Ce (Aa 3) (Ce (Aa 4) (ap_3 [0] (Bo "ways_without" 1 [("Living",b_1)] (Aa 0) #v[1]) Ex))))))
   Ar)
  (Ag (bd_5 0 ["Living"] "by_key" (Aa 1) (Aa 2))
  (o_2 (w_4 [5] (Aa 5)))))))))
def i_8:Tn->List D->RR:=w_3 6 aj_9
def p_9:FS:=
  (Dr 3 (Ge [1,2] (r_0 0 2 "put" "Living" i_8 (Ce (Aa 1) (Ce (Aa 2) Ex)))))
def ac_1:FS:=
  (Ak 3 [] (eC (.str "stuck")))
abbrev L51:List (Str×Bool):=[("NoKey",false),("NoSuch",false),("NoValue",false),("Stuck",true)]
def be_0:FS:=
  (Ag (av_8 p_9 [⟨none, L51,ac_1⟩])
  (o_2 (w_4 [3] (Aa 3))))
def m_1:Tn->List D->RR:=w_3 4 be_0
def n_0:FE:=
  (Dy #v[1,Ae Eh (Cz ["Living"] "by_key" (Aa 0)) (Aa 1)])
def af_3:FS:=
  (As [0] (Ci 1 (Ez (aw_3 m_0 (Cz ["Living"] "by_key" (Aa 0)))) (gC 1) (λ_=> .ok true) n_0))
def b_9:List D->R W:=Ap 1 af_3
def z_6:FS:=
  (Ag (Dr 5 (Dl [0] (By #v[Bo "table" 0 [("Living",b_7)] (Aa 0) Ac,Bo "kept" 0 [("Living",b_9)] (Aa 0) Ac])))
  (Ag (Dw (gP 9 10) [2,4] (Bi 2 c_7 #v[2,4]))
  (Ag (Dr 6 (Dl [1] (Ae (Ep false) (Aa 10) (Bi 4 l_3 #v[1,9,2,4]))))
  (Ag (Dr 7 (Dl [0,1] (Ae Dt (Bi 4 e_7 #v[0,1,2,4]) (Aa 3))))
  (Ag (Dr 8 (Ge [2,3] (an_3 0 2 m_1 (Ce (Aa 2) (Ce (Aa 3) Ex)))))
  (Ag (Bl [6,7] (Cj (Ay (Aa 6)) (Ay (Aa 7)))
   (o_2 (Dl [0] (eAnd (Ae Cm (Aa 8) (eC (.str "stuck"))) (Ae Cm (By #v[Bo "table" 0 [("Living",b_7)] (Aa 0) Ac,Bo "kept" 0 [("Living",b_9)] (Aa 0) Ac]) (Aa 5)))))
   Ar)
  (Ag (Bl [0,2,3,8] (El (Ah (Ae Cm (Aa 8) (eC (.str "stuck")))) (Ah (Ae Dt (Bo "value" 1 [("Living",b_8)] (Aa 0) #v[2]) (Aa 3))))
   (o_2 (w_4 [] (eC (.bl false))))
   Ar)
  (Ag (br_5 1 (Aa 2) (Aa 3))
  (o_2 (Dl [0,1] (Ae Cm (At x_8 #v[Bo "kept" 0 [("Living",b_9)] (Aa 0) Ac]) (At Cw #v[1]))))))))))))
def h_0:Tn->List (Af×D)->List D->RR2:=aw_9 11 z_6
def af_4:FS:=
  (Ag (sExpr [1] (Bi 1 m_0 #v[1]))
  (Ag (Bl [0,1] (Ah (Ae (Dq true) (Aa 1) (Cz ["Living"] "by_key" (Aa 0))))
   (ad_1 "NoSuch")
   Ar)
  (bq_7 0 ["Living"] "by_key" (Aa 1))))
def f_7:Tn->List D->RR:=w_3 2 af_4
def u_8:FS:=
  (Ag (ap_2 0 ["Living"] "part" [1] (Aa 1))
  (Ag (ap_2 0 ["Living"] "by_salt" [2] (Aa 2))
  (Ag (ap_2 0 ["Living"] "modulus" [3] (Aa 3))
  (Ag (ap_2 0 ["Living"] "listed" [1] (eRep #v[eC (.int 0)] (Ae Du (eC (.int 2)) (Aa 1))))
  (bq_9 0 ["Living"] "by_key" ai_6)))))
def w_8:List D->R (List Str×List Tn):=Fc 4 "Living" u_8
def as_6:FS:=
  (Ag (br_0 (bd_1 [7,5,6]) (Dl [3] (Bi 5 l_1 #v[0,eC (.int 3),4,3,1])))
  (Ag (Bl [1,2,3,4,5] (El (Cd (Ay (Bi 4 g_9 #v[2,3,5,1]))) (Cd (Ay (Bi 4 g_9 #v[2,3,4,1]))))
   (As [] (eC (.bl false)))
   Ar)
  (Ag (Bl [4] (Ah (Ae Cm (Ae Bu (Bi 2 g_5 #v[4,eC (.int 5)]) (eC (.int 3))) (eC (.int 0))))
   (Dr 6 (Dl [2] (Bo "value" 1 [("Living",b_8)] (Aa 2) #v[5])))
   Ar)
  (Bl [3,5,7] (Cj (Ah (Ae Cm (Aa 7) (eC (.int 1)))) (Ah (Ae (Dq false) (Aa 5) (Aa 3))))
   (Ag (t_3 (Ge [5] (r_0 2 1 "drop" "Living" f_7 (Ce (Aa 5) Ex))))
  (cc_3 3 (Aa 5)))
   (sIfM (mNot (cc_2 (Ge [1,5,6] (aj_4 2 3 3 h_0 (Ce (Aa 5) (Ce (Aa 6) (Ce (Aa 1) Ex)))))))
   (As [] (eC (.bl false)))
   Ar)))))
def as_7:FS:=
  (Bl [2,5,6] (Ah (Ae Dt (Bo "value" 1 [("Living",b_8)] (Aa 2) #v[5]) (Aa 6)))
   (As [] (eC (.bl false)))
   Ar)
def bk_0:FS:=
  (Ak 1 [0] (Bi 2 p_7 #v[0,eC (.int 8)]))
def bk_1:FS:=
  (Ak 2 [1] (cs_0 "Living" 3 w_8 #v[Ae Bf (Aa 1) (eC (.int 0)),Ae Bf (Aa 1) (eC (.int 1)),Ae Bf (Aa 1) (eC (.int 2))]))
def cd_0:FS:=
  (Ak 3 [] ai_6)
def bk_2:FS:=
  (y_1 [0] (Fb rng1 #v[Bi 3 p_0 #v[0,eC (.int 3),eC (.int 40)]]) (gV 4) as_6)
def cd_1:FS:=
  (ct_0 [3] (Aa 3) (Gi 5 6) as_7)
def df_2:FS:=
  (As [] (eC (.bl true)))
def di_5:FS:=
  (Ag bk_0
  (Ag bk_1
  (Ag cd_0
  (Ag bk_2
  (Ag cd_1
  df_2)))))
def di_6:List D->R W:=Ap 8 di_5
end My
namespace L3
open PySem L2
def okD:Nat->D->Bool
 |_,.non=>true
 |_,.bl _=>true
 |_,.int _=>true
 |_,.str x=>x.cps.all (· < 0x110000)
 |n + 1,.lst ds=>ds.all (okD n)
 |n + 1,.tup ds=>ds.all (okD n)
 |_,_=>false
def ct_6:∀(n:Nat) (d:D),okD n d=true->(Ec d).canLay0=true/\(Ec d).depth<=n/\(Ec d).eqv (Ec d)=true:=by
 intro n
 induction n with
 |zero=>
  intro d h;cases d with
  |non=>exact⟨rfl,B5 _,rfl⟩
  |bl b=>exact⟨rfl,B5 _,by cases b <;> rfl⟩
  |int i=>exact⟨rfl,B5 _,by show(i ==i)=true;simp⟩
  |str x=>exact⟨h,B5 _,by show(x ==x)=true;simp⟩
  |_=>cases h
 |succ n ih=>
  have all:∀ds:List D,ds.all (okD n)=true->PyData.canLayAll0 (u_5 ds)=true/\PyData.depthAll (u_5 ds)<=n/\PyData.eqvAll (u_5 ds) (u_5 ds)=true:=by
   intro ds
   induction ds with
   |nil=>intro _;exact⟨rfl,K6 _,rfl⟩
   |cons d ds ih2=>
    intro h;rw[P4,D9]at h;obtain⟨a1,a2,a3⟩:=ih d h.1;obtain⟨b1,b2,b3⟩:=ih2 h.2;refine⟨?_, ?_, ?_⟩
    ·show(PyData.canLay0 (Ec d) && PyData.canLayAll0 (u_5 ds))=true;rw[a1,b1];rfl
    ·show max (PyData.depth (Ec d)) (PyData.depthAll (u_5 ds))<=n;exact Nat.max_le.mpr ⟨a2,b2⟩
    ·show(PyData.eqv (Ec d) (Ec d) && PyData.eqvAll (u_5 ds) (u_5 ds))=true;rw[a3,b3];rfl
  intro d h;cases d with
  |non=>exact⟨rfl,K6 _,rfl⟩
  |bl b=>exact⟨rfl,K6 _,by cases b <;> rfl⟩
  |int i=>exact⟨rfl,K6 _,by show(i ==i)=true;simp⟩
  |str x=>exact⟨h,K6 _,by show(x ==x)=true;simp⟩
  |lst ds=>
   obtain⟨b1,b2,b3⟩:=all ds h;exact⟨b1,Y6 b2,b3⟩
  |tup ds=>
   obtain⟨b1,b2,b3⟩:=all ds h;exact⟨b1,Y6 b2,b3⟩
  |_=>cases h
def ct_7{n:Nat}{d:D}(h:okD n d=true)(hn:n<=60):Gh d d=true/\Fq d d=true:=by
 obtain⟨a1,a2,a3⟩:=ct_6 n d h;refine⟨?_,a3⟩;unfold Gh;rw[a1,D6 (D4 a2 hn)];rfl
def ct_8{d:D}(n:Nat)(h:okD n d=true)(hn:n<=60:=by decide):Cm d d=.ok (.sh (.bl true)):=by
 obtain⟨h1,h2⟩:=ct_7 h hn;unfold Cm
 split
 ·simp
 ·rw[if_pos h1,h2]
theorem an_8{α:Type}(f:α->Int):∀l:List α,Fh (l.map λa=>D.int (f a))=some (l.map f)
 | []=>rfl
 |a::l=>by
  show(Fh (l.map λa=>D.int (f a))).map (f a:: ·)=_;rw[an_8 f l];rfl
def dp_8{α:Type}(f:α->Int)(l:List α):sumD [.lst (l.map λa=>D.int (f a))]=.ok (.sh (.int (l.map f).sum)):=by
 unfold sumD;simp only[an_8]
def dv_2{n i:Nat}(h:i < n):ixN n (i:Int)=some i:=by
 unfold ixN;rw[if_pos (),if_pos ()];simp
def di_7{α:Type}{xs:List α}{i:Nat}{x:α}(h:xs[i]? =some x):atI xs (i:Int)=some x:=by
 unfold atI;rw[dv_2 (B4.mp h).1];exact h
end L3
namespace My
open PySem L2 L3
def mixZ(c k:Int):Int:=((c + 1) * (48271 + 118 * k) % 2147483629 / 977 * 16807 + (c + 1) * (48271 + 118 * k) % 2147483629 * (k * k + 7) + k) % 2147483587
def ag_5(c k:Int)(h1: -1000<=k)(h2:k<=1000):g_5 [.int c,.int k]=.ok (.sh (.int (mixZ c k))):=by
 have hk: -18446744073709551616 < k * k + 7/\k * k + 7 < 18446744073709551616:=by
  have:k * k<=1000 * 1000:=by
   rcases Int.le_total 0 k with h|h
   ·exact Int.mul_le_mul h2 h2 h ⋯
   ·have:(-k) * (-k)<=1000 * 1000:=Int.mul_le_mul () () () ⋯
    rwa[Int.neg_mul_neg]at this
  have:0<=k * k:=by
   rcases Int.le_total 0 k with h|h
   ·exact Int.mul_nonneg h h
   ·have:=Int.mul_nonneg (a:= -k) (b:= -k) () ()
    rwa[Int.neg_mul_neg]at this
  omega
 have m1:Er 118 k=true:=n_9 ⋯ ⋯;have m2:Er (c + 1) (48271 + 118 * k)=true:=bi_1 () ();have m3:∀z:Int,Er z 16807=true:=λz=>bi_1 ⋯ ⋯;have m4:Er k k=true:=n_9 () ();have m5:∀z:Int,Er z (k * k + 7)=true:=λz=>bi_1 hk.1 hk.2
 simp![g_5,bd_9,An,k_5 m1,k_5 m2,k_5 (m3 _),k_5 m4,k_5 (m5 _),Fz,ab_2 (show(0:Int) < 977 by decide) ⋯,Cy (show(0:Int) < 2147483629 by decide),Cy (show(0:Int) < 2147483587 by decide)]
 rfl
def di_8(ns:List Int)(k:Int)(h:0<=k)(hk:k < (ns.length:Int)):atI (ns.map D.int) k=some (.int (ns.getD k.toNat 0)):=by
 apply bw_1 h;rw[A8];have:k.toNat < ns.length:=by omega
 simp[List.getD,this]
def aq_1(ns:List Int)(k:Int):Int:=mixZ (if k < (ns.length:Int) then ns.getD k.toNat 0 % 2147483647 else 0) (k + 101)
def as_8(ns:List Int)(k:Int)(h:0<=k)(h2:k<=500):j_0 [.lst (ns.map .int),.int k]=.ok (.sh (.int (aq_1 ns k))):=by
 simp![j_0,ax_0,An,o_0,ai_8,A3]
 unfold aq_1
 by_cases hk:k < (ns.length:Int)
 ·simp![hk,W1,if_true,o_8 (di_8 ns k h hk),An,Cy (show(0:Int) < 2147483647 by decide),Fz,ag_5 _ (k + 101) () ()]
 ·simp![hk,X1,S9,An,Fz,ag_5 _ (k + 101) () ()]
def cd_2(c k:Int):0<=mixZ c k:=K3 _ ⋯
def cd_3(c k:Int):mixZ c k < 2147483587:=J6 _ ⋯
def ct_9(ns:List Int)(k:Int):0<=aq_1 ns k:=cd_2 _ _
def cu_0(ns:List Int)(k:Int):aq_1 ns k < 2147483587:=cd_3 _ _
def dp_9(ns:List Int)(k:Int)(h:0<=k)(h2:k<=400):∃z,p_1 [.lst (ns.map .int),.int k]=.ok (.sh (.int z)):=by
 have fin:∀c:Int,∃z,Ag (Bl [0] (Ah (Ae Cm (Ae Bu (Bi 2 j_0 #v[0,eC (.int 0)]) (eC (.int 2))) (eC (.int 0)))) (Cb 2) Ar) (As [1,2] (Bi 2 g_5 #v[Bi 2 g_5 #v[Ae Bu (Aa 2) (eC (.int 2147483647)),Ae Ca (Aa 1) (eC (.int 7))],1])) [.sh (.lst (ns.map .int)),.sh (.int k),.sh (.int c)]=.rt (.sh (.int z)):=λc=>by
  have ec:=as_8 ns 0 ⋯ ⋯
  by_cases hz:aq_1 ns 0 % 2=0
  ·exact⟨c,by simp![An,ec,Cy (show(0:Int) < 2 by decide),i_7,hz,W1]⟩
  ·exact⟨mixZ (mixZ (c % 2147483647) (k + 7)) k,by simp![An,ec,Cy (show(0:Int) < 2 by decide),i_7,hz,X1,Cy (show(0:Int) < 2147483647 by decide),Fz,ag_5 _ (k + 7) () (),ag_5 _ k () ()]⟩
 by_cases hk:k < (ns.length:Int)
 ·obtain⟨z,ez⟩:=fin (ns.getD k.toNat 0);refine⟨z, ?_⟩;unfold p_1 an_5 Ap;rw[Be (Δ':=[.sh (.lst (ns.map .int)),.sh (.int k),.sh (.int 0)]) (by simp![An]),Be (Δ':=[.sh (.lst (ns.map .int)),.sh (.int k),.sh (.int (ns.getD k.toNat 0))]) (by simp![An,o_0,ai_8,A3,hk,W1,o_8 (di_8 ns k h hk)]),ez]
 ·obtain⟨z,ez⟩:=fin 0;refine⟨z, ?_⟩;unfold p_1 an_5 Ap;rw[Be (Δ':=[.sh (.lst (ns.map .int)),.sh (.int k),.sh (.int 0)]) (by simp![An]),Be (Δ':=[.sh (.lst (ns.map .int)),.sh (.int k),.sh (.int 0)]) (by simp![An,o_0,ai_8,A3,hk,X1]),ez]
def cd_4{ds:List D}{i:Int}(h0:0<=i)(h1:i < (ds.length:Int)):∃d,d∈ds/\atI ds i=some d:=by
 have hl:i.toNat < ds.length:=by omega
 exact⟨ds[i.toNat],Z0 hl,bw_1 h0 (B9 hl)⟩
def cu_1:powD (.int 10) (.int 12)=.ok (.sh (.int 1000000000000)):=rfl
def cu_2(ns:List Int):∃p s m:Int,p_7 [.lst (ns.map .int),.int 8]=.ok (.sh (.tup [.int p,.int s,.int m]))/\1<=p/\p<=8/\0<=s/\s < 1003000000000/\2<=m/\m<=1000000001:=by
 have ec:=as_8 ns 1 ⋯ ⋯;have c0:=ct_9 ns 1;have c1:=cu_0 ns 1;generalize aq_1 ns 1=c at ec c0 c1;have em:=ag_5 c 5 ⋯ ⋯;have o0:=cd_2 c 5;have o1:=cd_3 c 5;generalize mixZ c 5=o at em o0 o1;have i0:=K3 (c / 32) (show(4:Int)≠0 by decide);have i1:=J6 (c / 32) (show(0:Int) < 4 by decide);have j0:=K3 o (show(8:Int)≠0 by decide);have j1:=J6 o (show(0:Int) < 8 by decide);obtain⟨d1,m1,e1⟩:=cd_4 (ds:=[.int 0,.int 1,.int (c / 64 % 1000),.int (1000000000000 + c)]) i0 i1;obtain⟨d2,m2,e2⟩:=cd_4 (ds:=[.int 2,.int 3,.int (2 + o / 8 % 9),.int 10,.int 1000,.int 1000000000,.int (2 + o / 8 % 999999999),.int 7]) j0 j1;have q1:∃s,d1=.int s/\0<=s/\s < 1003000000000:=by
  simp only[C6,S7,or_false]at m1;rcases m1 with rfl|rfl|rfl|rfl
  ·exact⟨_,rfl,by decide,by decide⟩
  ·exact⟨_,rfl,by decide,by decide⟩
  ·exact⟨_,rfl,by omega,by omega⟩
  ·exact⟨_,rfl,by omega,by omega⟩
 have q2:∃s,d2=.int s/\2<=s/\s<=1000000001:=by
  simp only[C6,S7,or_false]at m2;rcases m2 with rfl|rfl|rfl|rfl|rfl|rfl|rfl|rfl <;> exact⟨_,rfl,by omega,by omega⟩
 obtain⟨s,rfl,s0,s1⟩:=q1;obtain⟨m,rfl,m0,m1'⟩:=q2;refine⟨1 + c % 8,s,m, ?_,by omega,by omega,s0,s1,m0,m1'⟩;have dv:∀x y:Int,0 < y->y < 18446744073709551616->Gg (.int x) (.int y)=.ok (.sh (.int (x / y))):=λx y h h'=>ab_2 h ()
 simp![p_7,ap_6,An,ec,em,Fz,Cy (show(0:Int) < 8 by decide),Cy (show(0:Int) < 4 by decide),Cy (show(0:Int) < 8 by decide),Cy (show(0:Int) < 9 by decide),Cy (show(0:Int) < 1000 by decide),Cy (show(0:Int) < 999999999 by decide),dv _ 64 ⋯ ⋯,dv _ 32 ⋯ ⋯,dv _ 8 ⋯ ⋯,cu_1,o_8 e1,o_8 e2]
def wr:Nat->Int->List Nat->List Nat
 |0,_,zn=>zn
 |j + 1,r,zn=>wr j (r / 2) ((48 + (r % 2).toNat)::zn)
def Br(l:List Nat):Str:=⟨l.toArray⟩
def m_8(l:List Nat):(Br l).cps.toList=l:=by simp[Br]
def as_9(l:List Nat):(Br l).length=l.length:=by rw[db_8,m_8]
def df_3(a b:List Nat):Br a ++ Br b=Br (a ++ b):=db_7 (by rw[db_9,m_8,m_8,m_8])
def sgL:List Nat:=[97,98,99,100,101,102,103,104,105,106,107,108,109,110,111,112,113,114,115,116,117,118,119,120,121,122,48,49,50,51,52,53,54,55,56,57,45,95,32]
def df_4:(Str.ofString "abcdefghijklmnopqrstuvwxyz0123456789-_ ").cps.toList=sgL:=by decide +kernel
def Bq(d:D):Prop:=(∃n:Int,d=.int n/\0<=n/\n<=999999999999999999)\/(∃l:List Nat,d=.str (Br l)/\l.length<=11/\∀c∈l,c∈sgL)
def dv_3(r:Int):∃c∈sgL,Bf (.str "abcdefghijklmnopqrstuvwxyz0123456789-_ ") (.int (r % 39))=.ok (.sh (.str (Br [c]))):=by
 have h0:=K3 r (show(39:Int)≠0 by decide);have h1:=J6 r (show(0:Int) < 39 by decide);have hl:(r % 39).toNat < sgL.length:=by show(r % 39).toNat < 39;omega
 refine⟨sgL[(r % 39).toNat],Z0 hl,dc_1 nofun ?_⟩;rw[df_4];exact bw_1 h0 (B9 hl)
def df_5(z:Int):∃l:List Nat,t_5 [.int z]=.ok (.sh (.str (Br l)))/\(l.length:Int)=z % 12/\l.length<=11/\∀c∈l,c∈sgL:=by
 have b0:=K3 z (show(12:Int)≠0 by decide);have b1:=J6 z (show(0:Int) < 12 by decide);obtain⟨Δ',e,l,r,a5,rfl,hl,hc⟩:=ci_1 (gV 3) y_8 (λk Δ=>∃(l:List Nat) (r:Int) (a5:Sl),Δ= [.sh (.int z),.sh (.str (Br l)),.sh (.int r),a5]/\l.length=k/\∀c∈l,c∈sgL)
  (n:=(z % 12).toNat) (lo:=0) (Δ:=[.sh (.int z),.sh (.str ""),.sh (.int (z / 12)),.no]) ⟨[],z / 12,.no,rfl,rfl,λc hc=>absurd hc (by simp)⟩ (λk Δ hk hI=>by
  obtain⟨l,r,a5,rfl,hl,hc⟩:=hI;obtain⟨c,hcs,ec⟩:=dv_3 r;have zk:(Br l).length + (Br [c]).length<=16777216:=by rw[as_9,as_9];simp;omega
  refine⟨_,rfl,[.sh (.int z),.sh (.str (Br (l ++ [c]))),.sh (.int (r / 39)),.sh (.int (0 + (k:Int)))],.inl ?_,_,_,_,rfl,by simp[hl], ?_⟩
  ·simp![y_8,gV,List.set_cons_succ,X7,An,Cy (show(0:Int) < 39 by decide),ec,dn_9 zk,df_3,ab_2 (show(0:Int) < 39 by decide) ⋯]
  ·intro d hd;rcases F2.mp hd with hd|hd
   ·exact hc d hd
   ·have:d=c:=by simpa using hd
    rw[this];exact hcs)
 refine⟨l, ?_,by omega,by omega,hc⟩
 simp![t_5,ax_2,An,ab_2 (show(0:Int) < 12 by decide) ⋯,Cy (show(0:Int) < 12 by decide),y_1,bi_2 (show -4611686018427387903<=z % 12 by omega) (),e]
def dq_0(z:Int):∃d,Bq d/\l_7 [.int z]=.ok (.sh d):=by
 have d4:=ab_2 (i:=z) (show(0:Int) < 4 by decide) ⋯;have m4:=Cy (i:=z) (show(0:Int) < 4 by decide);have p18:=do_0 (cq_1 (i:=10) (j:=18) ⋯ ⋯ ⋯ ⋯);have e18:(10:Int) ^ (18:Int).toNat=1000000000000000000:=by decide
 rw[e18]at p18;have:z % 4=0\/z % 4=1\/z % 4=2\/z % 4=3:=by omega
 rcases this with h|h|h|h
 ·refine⟨.int (z / 4 % 1000000000000000000),.inl ⟨_,rfl,by omega,by omega⟩, ?_⟩
  simp![l_7,w_5,An,d4,m4,i_7,h,p18,Cy (show(0:Int) < 1000000000000000000 by decide)]
 ·obtain⟨l,e,_,h1,h2⟩:=df_5 (z / 4);refine⟨.str (Br l),.inr ⟨l,rfl,h1,h2⟩, ?_⟩;have n0:¬(1:Int)=0:=by decide
  simp![l_7,w_5,An,d4,m4,i_7,h,n0,e]
 ·refine⟨.int (z / 4 % 50),.inl ⟨_,rfl,by omega,by omega⟩, ?_⟩;have n0:¬(2:Int)=0:=by decide
  have n1:¬(2:Int)=1:=by decide
  have e:atI [D.int 50,D.int 12] ((2:Int) - 2)=some (.int 50):=rfl
  simp![l_7,w_5,An,d4,m4,i_7,h,n0,n1,v_0,o_8 e,Cy (show(0:Int) < 50 by decide)]
 ·refine⟨.int (z / 4 % 12),.inl ⟨_,rfl,by omega,by omega⟩, ?_⟩;have n0:¬(3:Int)=0:=by decide
  have n1:¬(3:Int)=1:=by decide
  have e:atI [D.int 50,D.int 12] ((3:Int) - 2)=some (.int 12):=rfl
  simp![l_7,w_5,An,d4,m4,i_7,h,n0,n1,v_0,o_8 e,Cy (show(0:Int) < 12 by decide)]
def cd_5{a b:D}(ha:Bq a)(hb:Bq b):eqF a b=true↔a=b:=by
 rcases ha with⟨n,rfl,_⟩|⟨l,rfl,_⟩ <;> rcases hb with⟨m,rfl,_⟩|⟨k,rfl,_⟩
 ·show(n ==m)=true↔_;rw[N1];exact⟨λh=>by rw[h],λh=>by injection h⟩
 ·show false=true↔_;exact⟨λh=>(by cases h),λh=>(by cases h)⟩
 ·show false=true↔_;exact⟨λh=>(by cases h),λh=>(by cases h)⟩
 ·show(Br l ==Br k)=true↔_;rw[N1];exact⟨λh=>by rw[h],λh=>by injection h⟩
def mem_iff{d:D}{ks:List D}(hd:Bq d)(hk:∀k∈ks,Bq k):Cv d ks=true↔d∈ks:=by
 unfold Cv;rw[Z5];constructor
 ·rintro ⟨y,hy,h⟩
  rw[<-(cd_5 (hk y hy) hd).mp h];exact hy
 ·intro h;exact⟨d,h,(cd_5 hd hd).mpr rfl⟩
def ad_6{d:D}(h:Bq d):PyData.canLay0 (Ec d)=true/\PyData.depth (Ec d)=0:=by
 rcases h with⟨n,rfl,_⟩|⟨l,rfl,_,hc⟩
 ·exact⟨rfl,rfl⟩
 ·refine⟨?_,rfl⟩;show(Br l).cps.all (· < 0x110000)=true;rw[<-Array.all_toList,m_8,K7];intro c h;have:c∈sgL:=hc c h;have:∀c∈sgL,c < 0x110000:=by decide
  exact D6 (this c (hc c h))
def cd_6{a b:D}(ha:Bq a)(hb:Bq b):PyData.eqv (Ec a) (Ec b)=true↔a=b:=by
 rcases ha with⟨n,rfl,_⟩|⟨l,rfl,_⟩ <;> rcases hb with⟨m,rfl,_⟩|⟨k,rfl,_⟩
 ·show(n ==m)=true↔_;rw[N1];exact⟨λh=>by rw[h],λh=>by injection h⟩
 ·show false=true↔_;exact⟨λh=>(by cases h),λh=>(by cases h)⟩
 ·show false=true↔_;exact⟨λh=>(by cases h),λh=>(by cases h)⟩
 ·show(Br l ==Br k)=true↔_;rw[N1];exact⟨λh=>by rw[h],λh=>by injection h⟩
def sgI(c:Nat):Nat:=sgL.idxOf c
def cu_3:∀c∈sgL,Builtin.Str.occurrences "abcdefghijklmnopqrstuvwxyz0123456789-_ " ⟨#[c]⟩ 0 (Str.length "abcdefghijklmnopqrstuvwxyz0123456789-_ ") 1= [sgI c]:=by decide +kernel
def bw_8:∀c∈sgL,sgI c < 39:=by decide +kernel
def Ey(l:List Nat):Int:=l.foldl (λa c=>40 * a + (sgI c:Int) + 1) 0
def aq_2(l:List Nat)(k c:Nat)(h:l[k]? =some c):Ey (l.take (k + 1))=40 * Ey (l.take k) + (sgI c:Int) + 1:=by
 unfold Ey;rw[U7,h,List.foldl_append];rfl
def Cs:D->Int
 | .int n=>2 * n
 | .str x=>2 * Ey x.cps.toList + 1
 |_=>0
def cu_4:∀c∈sgL,Txt.find "abcdefghijklmnopqrstuvwxyz0123456789-_ " ⟨#[c]⟩=((sgI c:Nat):Int):=by decide +kernel
def df_6{c:Nat}(h:c∈sgL):bn_8 (.str "abcdefghijklmnopqrstuvwxyz0123456789-_ ") [.str ⟨#[c]⟩]=.ok (.sh (.int (sgI c:Int))):=by
 show R.ok (W.sh (D.int (Txt.find "abcdefghijklmnopqrstuvwxyz0123456789-_ " ⟨#[c]⟩)))=_;rw[cu_4 c h]
def cu_5{c:Nat}(h:c∈sgL):am_4 (.str "abcdefghijklmnopqrstuvwxyz0123456789-_ ") [.str ⟨#[c]⟩]=.ok (.sh (.int (sgI c:Int))):=by
 show(match Builtin.Str.occurrences "abcdefghijklmnopqrstuvwxyz0123456789-_ " ⟨#[c]⟩ 0 (Str.length "abcdefghijklmnopqrstuvwxyz0123456789-_ ") 1 with
  |i::_=>R.ok (W.sh (D.int (i:Nat)))
  | []=>R.no)=_
 rw[cu_3 c h]
def dv_4{c:Nat}(h:c∈sgL):Ep false (.str ⟨#[c]⟩) (.str "abcdefghijklmnopqrstuvwxyz0123456789-_ ")=.ok (.sh (.bl true)):=by
 show R.ok (W.sh (D.bl (!(Builtin.Str.occurrences "abcdefghijklmnopqrstuvwxyz0123456789-_ " ⟨#[c]⟩ 0 (Str.length "abcdefghijklmnopqrstuvwxyz0123456789-_ ") 1).isEmpty)))=_;rw[cu_3 c h];rfl
def q_0(l:List Nat):u_6 (Br l)=l.map λc=> .str ⟨#[c]⟩:=by unfold u_6;rw[m_8]
def cu_6(l:List Nat)(hl:l.length<=11)(hc:∀c∈l,c∈sgL):aj_7 [.str (Br l)]=.ok (.sh (.int (Ey l))):=by
 obtain⟨Δ',e,a2,rfl⟩:=s_1 (gV 2) an_6 (λk Δ=>∃a2,Δ= [.sh (.str (Br l)),.sh (.int (Ey (l.take k))),a2]) (ds:=u_6 (Br l)) (Δ:=[.sh (.str (Br l)),.sh (.int 0),.no]) ⟨.no,rfl⟩ (λk d Δ hk hI=>by
  obtain⟨a2,rfl⟩:=hI;rw[q_0,A8]at hk;cases q:l[k]? with
  |none=>rw[q]at hk;cases hk
  |some c=>
   rw[q]at hk;cases hk;refine⟨_,rfl,[.sh (.str (Br l)),.sh (.int (Ey (l.take (k + 1)))),.sh (.str ⟨#[c]⟩)],.inl ?_,_,rfl⟩;rw[aq_2 l k c q]
   simp![an_6,An,k_5 (n_9 (show(-18446744073709551616:Int) < 40 by decide) ⋯),M8,df_6 (hc c (M6 q)),Fz])
 rw[q_0,A3,S6]at e
 simp![aj_7,cc_8,An,y_1,q_0,e]
def cj_5{d:D}(h:Bq d):w_7 [d]=.ok (.sh (.bl true)):=by
 rcases h with⟨n,rfl,h0,h1⟩|⟨l,rfl,hl,hc⟩
 ·simp![w_7,ax_4,An,aa_4,av_6,h0,h1]
 ·have hx:(Br l).length<=16777216:=by rw[as_9];omega
  have ec:=cq_4 (fg:=gC 1) (f:=m_9) (δ:=[some (.str (Br l)),none]) (λ_=> .bl true) (u_6 (Br l)) (λd hd=>by
   rw[q_0]at hd;obtain⟨c,hcl,rfl⟩:=F7.mp hd;exact⟨_,.sh (.bl true),rfl,by simp![m_9,An,dv_4 (hc c hcl)],rfl⟩)
  have ec':=t_0 (m:=1) (fi:=Ez (Aa 0)) (fg:=gC 1) (p:=λ_=> .ok true) (f:=m_9) (δ:=[some (.str (Br l))]) (by simp![An]) (by rw[q_0,A3];omega) ec;have ha:allD [.lst ((u_6 (Br l)).map λ_=>D.bl true)]=.ok (.sh (.bl true)):=by
   have hb:∀l:List D,am_3 (l.map λ_=>D.bl true)=some (l.map λ_=>true):=by
    intro l
    induction l with
    |nil=>rfl
    |cons a l ih=>show(am_3 (l.map λ_=>D.bl true)).map (true:: ·)=_;rw[ih];rfl
   unfold allD;simp only[hb]
   congr 3
   rw[K7];intro b hb';obtain⟨_,_,rfl⟩:=F7.mp hb';rfl
  have dq:((Br l).length:Int)<=11:=by rw[as_9];omega
  have et:m_7 [.str (Br l)]=.ok (.sh (.bl true)):=by
   simp![m_7,af_1,An,cq_2 hx,av_6,dq,ec',ha]
  simp![w_7,ax_4,An,et]
def ax_5{d:D}(h:Bq d):m_0 [d]=.ok (.sh (.int (Cs d))):=by
 have hk:=cj_5 h;have m2:=λj:Int=>k_5 (n_9 (j:=j) (show(-18446744073709551616:Int) < 2 by decide) ⋯);rcases h with⟨n,rfl,h0,h1⟩|⟨l,rfl,hl,hc⟩
 ·simp![m_0,bj_9,An,hk,m2,Cs]
 ·simp![m_0,bj_9,An,hk,cu_6 l hl hc,m2,Fz,Cs,m_8]
def t_8(n s z:Int):Int:=
 (((1 + (1103515245 * s + 12345) % (2305843009213693951 - 1)) * n + (69069 * s * s + 7 * s) % 2305843009213693951) % 2305843009213693951 + ((1 + (1103515245 * s + 12345) % (2305843009213693951 - 1)) * n + (69069 * s * s + 7 * s) % 2305843009213693951) % 2305843009213693951 / 2147483648) % z
def ax_6(n s z:Int)(h1: -18446744073709551616 < s)(h2:s < 18446744073709551616)(hz:0 < z):aj_8 [.int n,.int s,.int z]=.ok (.sh (.int (t_8 n s z)))/\n_2 [.int n,.int s,.int z]=.ok (.sh (.int (t_8 n s z))):=by
 have n0:¬z=0:=by omega
 have f0:=K3 (1103515245 * s + 12345) (show(2305843009213693951 - 1:Int)≠0 by decide);have f1:=J6 (1103515245 * s + 12345) (show(0:Int) < 2305843009213693951 - 1 by decide);have a1:=k_5 (n_9 (i:=1103515245) (j:=s) ⋯ ⋯);have a2:=k_5 (n_9 (i:=69069) (j:=s) ⋯ ⋯);have a3:=k_5 (bi_1 (i:=69069 * s) (j:=s) h1 h2);have a4:=k_5 (n_9 (i:=7) (j:=s) ⋯ ⋯);have a5:=k_5 (n_9 (i:=1 + (1103515245 * s + 12345) % (2305843009213693951 - 1)) (j:=n) () ());have c1:=λi:Int=>Cy (i:=i) (show(0:Int) < 2305843009213693951 - 1 by decide);have c2:=λi:Int=>Cy (i:=i) (show(0:Int) < 2305843009213693951 by decide);have c3:=λi:Int=>Cy (i:=i) hz;have c4:=λi:Int=>ab_2 (i:=i) (show(0:Int) < 2147483648 by decide) ⋯;refine⟨?_, ?_⟩
 ·simp![aj_8,cc_9,An,i_7,n0,v_0,Fz,a1,a2,a3,a4,c1,c2,a5,c4,c3]
  rfl
 ·simp![n_2,ap_7,An,v_0,Fz,a1,a2,a3,a4,c1,c2,a5,c4,c3]
  rfl
end My
namespace L3
open PySem L2
end L3
namespace My
open PySem L2 L3
def Bg:D->Af
 | .int i=> .inl i
 | .str x=> .inr x
 |_=> .inl 0
def q_1{d:D}(h:Bq d):Dv d=some (Bg d):=by
 rcases h with⟨n,rfl,_⟩|⟨l,rfl,_⟩ <;> rfl
def ad_7{a b:D}(ha:Bq a)(hb:Bq b)(e:Bg a=Bg b):a=b:=by
 rcases ha with⟨n,rfl,_⟩|⟨l,rfl,_⟩ <;> rcases hb with⟨m,rfl,_⟩|⟨k,rfl,_⟩
 ·injection e with e;rw[e]
 ·cases e
 ·cases e
 ·injection e with e;rw[e]
def v_3(d:D)(salt ii:Int)(j:Int):Int:=j * ii + t_8 (Cs d) (4 * salt + j) ii
def bk_4(d:D)(salt ig ii:Int):List D:=(List.range ig.toNat).map λ(k:Nat)=>D.int (v_3 d salt ii (0 + (k:Int)))
def cj_6{d:D}(h:Bq d)(salt ig ii:Int)(s0:0<=salt)(s1:salt<=1003000000000)(hk:ig=2\/ig=3)(p0:0 < ii)(p1:ii<=2000):
  p_8 [d,.int salt,.int ig,.int ii]=.ok (.sh (.tup (bk_4 d salt ig ii)))/\True:=by
 have hr:=bi_2 (j:=ig) () ();have hl:(q_9 0 ig.toNat).length<=16777216:=by rw[bc_6];omega
 have cq:∀k:Nat,k < ig.toNat->Er (0 + (k:Int)) ii=true/\Er 4 salt=true:=λk hk=>⟨n_9 () (),n_9 ⋯ ⋯⟩;refine⟨?_,trivial⟩
 ·have ec:=ci_2 (fg:=gC 5) (p:=λ_=> .ok true) (f:=p_5) (δ:=[some d,some (.int salt),some (.int ig),some (.int ii),some (.int (Cs d)),none]) (F:=λi=> .int (v_3 d salt ii i)) ig.toNat 0 (λk hk'=>by
   obtain⟨m1,m2⟩:=cq k hk';refine⟨[some d,some (.int salt),some (.int ig),some (.int ii),some (.int (Cs d)),some (.int (0 + (k:Int)))],.sh (.int (v_3 d salt ii (0 + (k:Int)))),rfl,rfl, ?_,rfl⟩
   simp![p_5,An,k_5 m1,k_5 m2,Fz,(ax_6 (Cs d) (4 * salt + (0 + (k:Int))) ii () () p0).1,v_3])
  have ec':=t_0 (m:=1) (fi:=Fb rng1 #v[2]) (fg:=gC 5) (p:=λ_=> .ok true) (f:=p_5) (δ:=[some d,some (.int salt),some (.int ig),some (.int ii),some (.int (Cs d))]) (by simp![An,hr]) hl ec
  simp![p_8,ap_8,An,ax_5 h,ec',co_1]
  rfl
def zi(ps:List Nat):List D:=ps.map λ(p:Nat)=>D.int (p:Int)
def br_7(p n:Nat):j_1 [.int (p:Int),.int (n:Int)]=.ok (.sh (.bl (decide (p < n)))):=by
 simp![j_1,y_9,An,aa_4,av_6,ai_8,show(0:Int)<=(p:Int) by omega]
 rw[show decide ((p:Int) < (n:Int))=decide (p < n) by simp]
def ak_0(z m:Int)(h:0 < m):n_3 [.int z,.int m]=.ok (.sh (.int (z % m))):=by
 simp![n_3,aq_0,An,i_7,show¬m=0 by omega,Cy h]
def Cq(ts:List Int)(p:Nat):Int:=ts.getD p 0
def Ck(ts:List Int)(ps:List Nat):Int:=(ps.map (Cq ts)).sum
def bw_9{ts:List Int}{p:Nat}(h:p < ts.length):atI (ts.map D.int) (p:Int)=some (.int (Cq ts p)):=by
 refine di_7 ?_;rw[A8];simp[Cq,List.getD,h]
def df_7(ts:List Int)(a1 a2 a3:Option D)(ps:List Nat)(h:∀p∈ps,p < ts.length):
  n_6 (gC 4) t_7 t_6 [some (.lst (ts.map .int)),a1,a2,a3,none] (zi ps)=.ok ((ps.map λp=>D.int (Cq ts p))):=by
 have:=o_9 (fg:=gC 4) (p:=t_7) (f:=t_6) (δ:=[some (.lst (ts.map .int)),a1,a2,a3,none]) (λ_=>true) (λd=>match d with| .int i=> .int (Cq ts i.toNat)|d=>d) (zi ps) λd hd=>by
  obtain⟨p,hp,rfl⟩:=F7.mp hd;have hl:=h p hp;refine⟨[some (.lst (ts.map .int)),a1,a2,a3,some (.int (p:Int))],rfl, ?_,λ_=>⟨.sh (.int (Cq ts p)), ?_,by simp⟩⟩
  ·simp![t_7,An,o_0,A3,br_7,hl]
  ·simp![t_6,An,o_8 (bw_9 hl)]
 rw[this,S8.mpr λ_ _=>rfl]
 congr 1
 unfold zi;rw[L8];refine List.map_congr_left λp _=> ?_;simp
def cj_7(ts:List Int)(ps:List Nat)(m:Int)(hm:0 < m)(h:∀p∈ps,p < ts.length)(hl:ps.length<=1000):ab_9 [.lst (ts.map .int),.tup (zi ps),.int m]=.ok (.sh (.int (Ck ts ps % m))):=by
 have ec:=t_0 (m:=1) (fi:=Ez (Aa 1)) (fg:=gC 4) (p:=t_7) (f:=t_6) (δ:=[some (.lst (ts.map .int)),some (.tup (zi ps)),some (.int m),none]) (ds:=zi ps) (by simp![An]) (by unfold zi;rw[A3];omega) (df_7 ts _ _ _ ps h)
 simp![ab_9,br_6,An,ec,dp_8,ak_0 _ m hm]
 rfl
def lN:List Str:=["part","by_salt","modulus","listed","by_key"]
def Al(p s m:Int)(T:List Int)(kds:List (Af×D)):Tn:=.obj "Living" lN [.sh (.int p),.sh (.int s),.sh (.int m),.sh (.lst (T.map .int)),Tn.of (.dic kds)]
def Bm(p s m:Int)(T:List Int)(kds:List (Af×D)):D:=.obj "Living" lN [.int p,.int s,.int m,.lst (T.map .int),.dic kds]
section
variable{p s m:Int}{T:List Int}{kds:List (Af×D)}{d:D}
def v_4:(Al p s m T kds).d=Bm p s m T kds:=by
 have h:=Tn.of_d (.dic kds);show D.obj "Living" lN [.int p,.int s,.int m,.lst (T.map .int),(Tn.of (.dic kds)).d]=_;rw[h];rfl
theorem an_9:∀kds:List (Af×D),Tn.lendsK (kds.map λp=>(p.1,Tn.sh p.2))=true
 | []=>by simp only[N7,Tn.lendsK]
 |(k,d)::kds=>by simp only[B3,Tn.lendsK,Tn.lends,an_9 kds,L7]
def ag_6:(Al p s m T kds).lends=true:=by
 have h:(Tn.of (.dic kds)).lends=true:=by
  show Tn.lends (.dic (kds.map λp=>(p.1,.sh p.2)))=true;simp only[Tn.lends,an_9]
 simp only[Al,Tn.lends,Tn.lendsL,h,L7]
def fld{f:Str}{v:D}{e:FE}{δ:DE}(he:e δ=.ok (.sh (Bm p s m T kds)))(h:(lN.zip [D.int p,.int s,.int m,.lst (T.map .int),.dic kds]).lookup f=some v):Cz ["Living"] f e δ=.ok (.sh v):=by
 unfold Cz;rw[he];simp only[R.bind_ok,W.d_sh,Bm];rw[h];rfl
def ad_8(h:Bq d)(s0:0<=s)(s1:s<=1003000000000)(p0:0 < p)(p1:p<=2000):b_6 [Bm p s m T kds,d]=.ok (.sh (.tup (bk_4 d s 2 p))):=by
 have e1:Cz ["Living"] "by_salt" (Aa 0) [some (Bm p s m T kds),some d]=.ok (.sh (.int s)):=fld rfl rfl;have e2:Cz ["Living"] "part" (Aa 0) [some (Bm p s m T kds),some d]=.ok (.sh (.int p)):=fld rfl rfl;have:=(cj_6 h s 2 p s0 s1 (.inl rfl) p0 p1).1
 simp![b_6,z_5,An,e1,e2,this]
def br_8(hl:T.length<=1000):b_7 [Bm p s m T kds]=.ok (.ow (.lst (T.map .int))):=by
 have e1:Cz ["Living"] "listed" (Aa 0) [some (Bm p s m T kds)]=.ok (.sh (.lst (T.map .int))):=fld rfl rfl
 simp![b_7,ab_7,An,e1,bv_2]
end
theorem be_1:∀(Δ:SE) (n:Nat),t_2 [0] (n + 1) Δ=Aw Δ
 | [],_=>rfl
 |s::Δ,n=>by
  have h:([0]:List Nat).contains (n + 1)=false:=by simp
  simp only[t_2,h,Q6,S9,be_1 Δ (n + 1)];rfl
def di_9(t:Tn)(Δ:SE):Dp [0] (.lt t::Δ)=some t.d::Aw Δ:=by
 show(if([0]:List Nat).contains 0=true then(Sl.lt t).any else(Sl.lt t).pub)::t_2 [0] (0 + 1) Δ=_;rw[be_1];rfl
section
variable{p s m:Int}{T:List Int}{kds:List (Af×D)}{d:D}{Δ:SE}{f:FE}
def be_2:k_3 [0] (.lt (Al p s m T kds)::Δ)=true:=by
 have h:=ag_6 (p:=p) (s:=s) (m:=m) (T:=T) (kds:=kds);simp only[k_3,P4,ZB8,M9,Sl.own,h,L7]
def ad_9{w:W}(h:f (some (Bm p s m T kds)::Aw Δ)=.ok w)(hp:t_1 w=true):Dl [0] f (.lt (Al p s m T kds)::Δ)=.ok w.d (.lt (Al p s m T kds)::Δ):=by
 unfold Dl;rw[be_2,if_pos rfl,di_9,v_4,h];simp only[hp,if_true]
def Fp{F:AF}{n:Str}{e a:FE}{δ:DE}{w:W}(he:e δ=.ok (.sh (Bm p s m T kds)))(ha:a δ=.ok w)(hn:lN.contains n=false):Bo n 1 [("Living",F)] e #v[a] δ=F [Bm p s m T kds,w.d]:=by
 unfold Bo;rw[he];simp only[R.bind_ok,W.d_sh,Bm,Ab,Ac,ha];rw[hn];rfl
def met0{F:AF}{n:Str}{e:FE}{δ:DE}(he:e δ=.ok (.sh (Bm p s m T kds)))(hn:lN.contains n=false):Bo n 0 [("Living",F)] e Ac δ=F [Bm p s m T kds]:=by
 unfold Bo;rw[he];simp only[R.bind_ok,W.d_sh,Bm,Ac];rw[hn];rfl
end
section
variable{p s m:Int}{T:List Int}{kds:List (Af×D)}{d v:D}{w:Int}
def at_0{n:Nat}{mn:Str}{M:Tn->List D->RR}{ga:SE->R (List D)}{Δ:SE}{ds:List D}(hm:lN.contains mn=false)(hg:ga (.lt (Al p s m T kds)::Δ)=.ok ds)(hl:ds.length=n):r_0 0 n mn "Living" M ga (.lt (Al p s m T kds)::Δ)=goR 0 true (.lt (Al p s m T kds)::Δ) (M (Al p s m T kds) ds):=by
 have hb:((Sl.lt (Al p s m T kds)::Δ)[0]?).bind Sl.tree=some (Al p s m T kds,true):=rfl;unfold r_0;rw[hb];unfold Al at hg⊢;simp only[hm,Z6,if_true,hg,hl]
end
def cu_7(z n:Int):j_1 [.int z,.int n]=.ok (.sh (.bl (decide (0<=z/\z < n)))):=by
 by_cases h:0<=z
 ·simp![j_1,y_9,An,aa_4,av_6,ai_8,h,true_and]
 ·simp![j_1,y_9,An,aa_4,av_6,ai_8,h,false_and]
def s_2(n s:Int){z:Int}(h:0 < z):0<=t_8 n s z:=by unfold t_8;exact K3 _ ()
def be_3(n s:Int){z:Int}(h:0 < z):t_8 n s z < z:=by unfold t_8;exact J6 _ h
def pA(d:D)(s p:Int):Nat:=(t_8 (Cs d) (4 * s + 0) p).toNat
def pB(d:D)(s p:Int):Nat:=(p + t_8 (Cs d) (4 * s + 1) p).toNat
def z_0(d:D)(s:Int){p:Int}(h:0 < p):bk_4 d s 2 p=zi [pA d s p,pB d s p]:=by
 have a0:=s_2 (Cs d) (4 * s + 0) h;have b0:=s_2 (Cs d) (4 * s + 1) h;show [D.int (v_3 d s p (0 + ((0:Nat):Int))),D.int (v_3 d s p (0 + ((1:Nat):Int)))]= [D.int ((pA d s p:Nat):Int),D.int ((pB d s p:Nat):Int)];have e1:v_3 d s p (0 + ((0:Nat):Int))=((pA d s p:Nat):Int):=by
  unfold v_3 pA;rw[show(0:Int) + ((0:Nat):Int)=0 from rfl];omega
 have e2:v_3 d s p (0 + ((1:Nat):Int))=((pB d s p:Nat):Int):=by
  unfold v_3 pB;rw[show(0:Int) + ((1:Nat):Int)=1 from rfl];omega
 rw[e1,e2]
def t_9(d:D)(s:Int){p:Int}(h:0 < p):(pA d s p:Int) < p:=by
 have a0:=s_2 (Cs d) (4 * s + 0) h;have a1:=be_3 (Cs d) (4 * s + 0) h;unfold pA;omega
def z_7(d:D)(s:Int){p:Int}(h:0 < p):(pB d s p:Int) < 2 * p/\p<=(pB d s p:Int):=by
 have a0:=s_2 (Cs d) (4 * s + 1) h;have a1:=be_3 (Cs d) (4 * s + 1) h;unfold pB;omega
structure Szs(p s m:Int)(T:List Int):Prop where
 p0:0 < p
 p1:p<=8
 s0:0<=s
 s1:s<=1003000000000
 m0:2<=m
 m1:m<=1000000001
 tl:(T.length:Int)=2 * p
section
variable{p s m:Int}{T:List Int}{kds:List (Af×D)}{d:D}(z:Szs p s m T)
include z
def ak_1(h:Bq d):b_8 [Bm p s m T kds,d]=.ok (.sh (.int (Ck T [pA d s p,pB d s p] % m))):=by
 have a:=t_9 d s z.p0;have b:=z_7 d s z.p0;have tl:=z.tl;have e1:Cz ["Living"] "listed" (Aa 0) [some (Bm p s m T kds),some d]=.ok (.sh (.lst (T.map .int))):=fld rfl rfl;have e3:Cz ["Living"] "modulus" (Aa 0) [some (Bm p s m T kds),some d]=.ok (.sh (.int m)):=fld rfl rfl;have hp:=ad_8 (m:=m) (T:=T) (kds:=kds) h z.s0 z.s1 z.p0 (by have:=z.p1;omega);rw[z_0 d s z.p0]at hp;have e2:Bo "places" 1 [("Living",b_6)] (Aa 0) #v[1] [some (Bm p s m T kds),some d]=.ok (.sh (.tup (zi [pA d s p,pB d s p]))):=(Fp (w:=.sh d) rfl rfl nofun).trans hp;have hs:=cj_7 T [pA d s p,pB d s p] m (by have:=z.m0;omega) (λq hq=>by
  have:q=pA d s p\/q=pB d s p:=by simpa using hq
  omega) (by simp)
 simp![b_8,ac_0,An,e1,e2,e3,hs]
end
theorem ao_0:∀kds:List (Af×D),unS (kds.map λp=>(p.1,Tn.sh p.2))=some kds
 | []=>rfl
 |(k,d)::kds=>by
  have:=ao_0 kds;simp only[B3,unS,this,K9]
section
variable{p s m:Int}{T:List Int}{kds aa:List (Af×D)}{d:D}
def ax_8:(["Living"]:List Str).contains ("Living" :Str)=true:=by decide +kernel
def dj_0:(lN.zip [Tn.sh (.int p),.sh (.int s),.sh (.int m),.sh (.lst (T.map .int)),Tn.of (.dic kds)]).lookup ("by_key" :Str)=some (Tn.dic (kds.map λp=>(p.1,Tn.sh p.2))):=rfl
def cu_8:repF lN [Tn.sh (.int p),.sh (.int s),.sh (.int m),.sh (.lst (T.map .int)),Tn.of (.dic kds)] "by_key" (Tn.of (.dic aa))= [Tn.sh (.int p),.sh (.int s),.sh (.int m),.sh (.lst (T.map .int)),Tn.of (.dic aa)]:=rfl
def dq_1{T':List Int}:repF lN [Tn.sh (.int p),.sh (.int s),.sh (.int m),.sh (.lst (T.map .int)),Tn.of (.dic kds)] "listed" (.sh (.lst (T'.map .int)))= [Tn.sh (.int p),.sh (.int s),.sh (.int m),.sh (.lst (T'.map .int)),Tn.of (.dic kds)]:=rfl
def fpop{Δ:SE}{fk:FE}{k:Af}{w:W}(hk:fk (none::Aw Δ)=.ok w)(hw:Dv w.d=some k)(hh:(Bh kds k).isSome=true):bq_7 0 ["Living"] "by_key" fk (.lt (Al p s m T kds)::Δ)=.nx (.lt (Al p s m T (Eo kds k))::Δ):=by
 have hb:((Sl.lt (Al p s m T kds)::Δ)[0]?).bind Sl.tree=some (Al p s m T kds,true):=rfl;have hv:Aw (Sl.lt (Al p s m T kds)::Δ)=none::Aw Δ:=rfl;unfold bq_7;rw[hb,hv];unfold Al;simp only[ax_8,dj_0,ao_0,hk,hw,hh,if_true,cu_8];rfl
def fput{Δ:SE}{fk fe:FE}{k:Af}{w v:W}(hk:fk (none::Aw Δ)=.ok w)(hw:Dv w.d=some k)(he:fe (none::Aw Δ)=.ok v)(hl:kds.length < 16777216):bd_5 0 ["Living"] "by_key" fk fe (.lt (Al p s m T kds)::Δ)=.nx (.lt (Al p s m T (Di kds k v.d))::Δ):=by
 have hb:((Sl.lt (Al p s m T kds)::Δ)[0]?).bind Sl.tree=some (Al p s m T kds,true):=rfl;have hv:Aw (Sl.lt (Al p s m T kds)::Δ)=none::Aw Δ:=rfl;unfold bd_5;rw[hb,hv];unfold Al;simp only[ax_8,dj_0,ao_0,hk,hw,he,hl,if_true,cu_8];rfl
end
section
variable{p s m:Int}{T:List Int}{kds:List (Af×D)}{d v:D}
def cj_8(h:Bq d)(g1 g2:FS):Bl [0,1] (Ah (Ae (Dq true) (Aa 1) (Cz ["Living"] "by_key" (Aa 0)))) g1 g2 [.lt (Al p s m T kds),.sh d]=if Db kds (Bg d)=true then g2 [.lt (Al p s m T kds),.sh d] else g1 [.lt (Al p s m T kds),.sh d]:=by
 have e1:Cz ["Living"] "by_key" (Aa 0) [some (Bm p s m T kds),some d]=.ok (.sh (.dic kds)):=fld rfl rfl;have hk:=q_1 h;cases hh:Db kds (Bg d) with
 |true=>simp![An,Sl.any,v_4,e1,Dq,hk,hh,if_true,ZB4]
 |false=>simp![An,Sl.any,v_4,e1,Dq,hk,hh,if_true,ZB2]
def aa_8(h:Bq d):sExpr [1] (Bi 1 m_0 #v[1]) [.lt (Al p s m T kds),.sh d]=.nx [.lt (Al p s m T kds),.sh d]:=by
 simp![An,Sl.any,ax_5 h]
def cu_9(h:Bq d)(hh:Db kds (Bg d)=true):f_7 (Al p s m T kds) [d]=.ok .non (Al p s m T (Eo kds (Bg d))):=by
 unfold f_7 w_3 af_4;rw[show ab_3 2 (Al p s m T kds) [d]= [.lt (Al p s m T kds),.sh d] from rfl,Be (aa_8 h)];have q2:=cj_8 (p:=p) (s:=s) (m:=m) (T:=T) (kds:=kds) h (ad_1 "NoSuch") Ar;rw[hh,if_pos rfl]at q2;rw[Be (Δ':=[.lt (Al p s m T kds),.sh d]) q2,fpop (k:=Bg d) (w:=.sh d) rfl (q_1 h) hh]
end
def df_9:∀c∈sgL,∀d∈sgL,sgI c=sgI d->c=d:=by decide +kernel
def ae_0(l:List Nat)(c:Nat):Ey (l ++ [c])=40 * Ey l + (sgI c:Int) + 1:=by
 unfold Ey;rw[List.foldl_append];rfl
def ag_7(l:List Nat):l= []\/∃k c,l=k ++ [c]:=by
 by_cases h:l= []
 ·exact .inl h
 ·exact .inr ⟨l.dropLast,l.getLast h,(List.dropLast_concat_getLast h).symm⟩
def cj_9:∀(n:Nat) (l k:List Nat),l.length=n->(∀c∈l,c∈sgL)->(∀c∈k,c∈sgL)->Ey l=Ey k->l=k:=by
 intro n
 induction n with
 |zero=>
  intro l k hl hc hk e;have:l= []:=List.length_eq_zero_iff.mp hl;subst this;rcases ag_7 k with rfl|⟨k',d,rfl⟩
  ·rfl
  ·have hd:=bw_8 d (hk d (by simp));rw[ae_0]at e;have e0:Ey []=0:=rfl;rw[e0]at e;omega
 |succ n ih=>
  intro l k hl hc hk e;rcases ag_7 l with rfl|⟨l',c,rfl⟩
  ·simp at hl
  ·have hcl:=bw_8 c (hc c (by simp));rcases ag_7 k with rfl|⟨k',d,rfl⟩
   ·rw[ae_0]at e;have e0:Ey []=0:=rfl;rw[e0]at e;omega
   ·have hdl:=bw_8 d (hk d (by simp));rw[ae_0,ae_0]at e;have e1:sgI c=sgI d:=by omega
    have e2:Ey l'=Ey k':=by omega
    have e3:=df_9 c (hc c (by simp)) d (hk d (by simp)) e1;have e4:=ih l' k' (by simpa using hl) (λx hx=>hc x (by simp[hx])) (λx hx=>hk x (by simp[hx])) e2;rw[e3,e4]
def be_4{a b:D}(ha:Bq a)(hb:Bq b)(e:Cs a=Cs b):a=b:=by
 rcases ha with⟨n,rfl,_⟩|⟨l,rfl,_,hc⟩ <;> rcases hb with⟨m,rfl,_⟩|⟨k,rfl,_,hk⟩
 ·have e:2 * n=2 * m:=e;rw[show n=m by omega]
 ·have e:2 * n=2 * Ey (Br k).cps.toList + 1:=e;omega
 ·have e:2 * Ey (Br l).cps.toList + 1=2 * m:=e;omega
 ·have e:2 * Ey (Br l).cps.toList + 1=2 * Ey (Br k).cps.toList + 1:=e;rw[m_8,m_8]at e;rw[cj_9 l.length l k rfl hc hk ()]
def cv_0{d:D}(h:Bq d):kD (Bg d)=d:=by rcases h with⟨n,rfl,_⟩|⟨l,rfl,_⟩ <;> rfl
structure KOk(kds:List (Af×D))(ks:List D):Prop where
 key:∀k∈ks,Bq k
 nd:ks.Nodup
 eq:kds.map (·.1)=ks.map Bg
 val:∀q∈kds,∃n:Int,q.2=.int n
 len:ks.length<=40
section
variable{kds:List (Af×D)}{ks:List D}
def KOk.ds(h:KOk kds ks):(kds.map λp=>kD p.1)=ks:=by
 rw[show(kds.map λp=>kD p.1)=(kds.map (·.1)).map kD by rw[L8];rfl,h.eq,L8];have:∀{l:List D},(∀k∈l,Bq k)->l.map (kD ∘ Bg)=l:=λ{l}=>by
  induction l with
  |nil=>intro _;rfl
  |cons a l ih=>intro hl;rw[B3,ih λk hk=>hl k (.tail _ hk)];show kD (Bg a)::l=_;rw[cv_0 (hl a (.head _))]
 exact this h.key
theorem KOk.length(h:KOk kds ks):kds.length=ks.length:=by
 have:=K5 List.length h.eq
 rwa[A3,A3]at this
theorem ak_2:∀{l:List D},(∀k∈l,Bq k)->y_7 m_0 l=.ok (l.map λd=>(Cs d,d))
 | [],_=>rfl
 |d::l,h=>by
  unfold y_7;rw[ax_5 (h d (.head _))];simp only[R.bind_ok,W.d_sh,ak_2 λk hk=>h k (.tail _ hk)];rfl
theorem ae_1{α β:Type}{f:α->β}:∀{l:List α},(∀x∈l,∀y∈l,f x=f y->x=y)->l.Nodup->(l.map f).Nodup
 | [],_,_=> .nil
 |a::l,inj,nd=>by
  rw[K1]at nd;rw[B3,K1];refine⟨λhm=> ?_,ae_1 (λx hx y hy=>inj x (.tail _ hx) y (.tail _ hy)) nd.2⟩;obtain⟨b,hb,e⟩:=F7.mp hm;exact nd.1 (inj b (.tail _ hb) a (.head _) e▸hb)
def z_1(ks:List D):List D:=(aw_1 (ks.map λd=>(Cs d,d))).map (·.2)
def r_7(ks:List D):(z_1 ks).Perm ks:=by
 have h:=(ag_0 (ks.map λd=>(Cs d,d))).map (·.2);rw[L8]at h;have e:(ks.map ((λx:Int×D=>x.2) ∘ λd=>(Cs d,d)))=ks:=by
  rw[show((λx:Int×D=>x.2) ∘ λd=>(Cs d,d))=id from rfl,List.map_id]
 rw[e]at h;exact h
def cv_1(h:KOk kds ks):aw_2 m_0 (kds.map λp=>kD p.1)=.ok (.ow (.lst (z_1 ks))):=by
 unfold aw_2;rw[h.ds,ak_2 h.key];have nd:((ks.map λd=>(Cs d,d)).map (·.1)).Nodup:=by
  rw[L8];exact ae_1 (λx hx y hy e=>be_4 (h.key x hx) (h.key y hy) e) h.nd
 have hl:=h.len;simp only[A3,show ks.length < 64 by omega,nd,Z6,if_true];rfl
theorem bk_5:∀{kds:List (Af×D)} {k:Af},k∈kds.map (·.1)->∃v,Bh kds k=some v/\(k,v)∈kds
 | [],_,h=>by cases h
 |(a,v)::r,k,h=>by
  unfold Bh
  by_cases e:a=k
  ·subst e;exact⟨v,by rw[Q7 (by simp)];rfl,.head _⟩
  ·rw[B3,C6]at h;rcases h with h|h
   ·exact absurd h.symm e
   ·obtain⟨w,e1,e2⟩:=bk_5 h;unfold Bh at e1;exact⟨w,by rw[Q8 (by simpa using e)];exact e1,.tail _ e2⟩
def KOk.get(h:KOk kds ks){d:D}(hd:d∈ks):∃n:Int,Bh kds (Bg d)=some (.int n):=by
 obtain⟨v,e,hm⟩:=bk_5 (kds:=kds) (k:=Bg d) (by rw[h.eq];exact W9 hd);obtain⟨n,en⟩:=h.val _ hm;exact⟨n,by rw[e];exact K5 some en⟩
end
def ak_3(kds:List (Af×D))(ks:List D):List D:=(z_1 ks).map λd=> .tup [d,(Bh kds (Bg d)).getD .non]
section
variable{p s m:Int}{T:List Int}{kds:List (Af×D)}{ks:List D}{d:D}
def cd_7(h:KOk kds ks):b_9 [Bm p s m T kds]=.ok (.ow (.lst (ak_3 kds ks))):=by
 have mem:∀d,d∈z_1 ks->d∈ks:=λd hd=>(r_7 ks).mem_iff.mp hd;have e1:Cz ["Living"] "by_key" (Aa 0) [some (Bm p s m T kds)]=.ok (.sh (.dic kds)):=fld rfl rfl;have es:Ez (aw_3 m_0 (Cz ["Living"] "by_key" (Aa 0))) [some (Bm p s m T kds)]=.ok (z_1 ks):=by
  unfold Ez aw_3;rw[e1];simp only[R.bind_ok,W.d_sh,cv_1 h,W.d_ow];rfl
 have hl:(z_1 ks).length<=16777216:=by
  rw[(r_7 ks).length_eq];have:=h.len;omega
 have hc:=o_9 (fg:=gC 1) (p:=λ_=> .ok true) (f:=n_0) (δ:=[some (Bm p s m T kds),none]) (λ_=>true) (λd=> .tup [d,(Bh kds (Bg d)).getD .non]) (z_1 ks) λd hd=>by
  obtain⟨n,en⟩:=h.get (mem d hd);have hk:=q_1 (h.key d (mem d hd));refine⟨[some (Bm p s m T kds),some d],rfl,rfl,λ_=>⟨.sh (.tup [d,.int n]), ?_,by rw[en];rfl⟩⟩;have e2:Cz ["Living"] "by_key" (Aa 0) [some (Bm p s m T kds),some d]=.ok (.sh (.dic kds)):=fld rfl rfl
  simp![n_0,An,e2,Eh,hk,en]
 rw[S8.mpr λ_ _=>rfl]at hc;have ec:=t_0 (m:=1) (fi:=Ez (aw_3 m_0 (Cz ["Living"] "by_key" (Aa 0)))) (fg:=gC 1) (p:=λ_=> .ok true) (f:=n_0) (δ:=[some (Bm p s m T kds)]) es hl hc
 simp![b_9,af_3,An,ec]
 rfl
def ao_1(h:Bq d):Fa d=true:=by rcases h with⟨n,rfl,_⟩|⟨l,rfl,_⟩ <;> rfl
def cv_2:∀c∈sgL,c < 0x110000:=by decide +kernel
def dq_2(n:Nat)(h:Bq d):okD n d=true:=by
 rcases h with⟨i,rfl,_⟩|⟨l,rfl,_,hc⟩
 ·cases n <;> rfl
 ·have:(Br l).cps.all (· < 0x110000)=true:=by
   rw[Array.all_eq_true_iff_forall_mem];intro c hm;have:c∈l:=by simpa[Br] using hm
   simpa using cv_2 c (hc c this)
  cases n <;> exact this
def be_5(h:KOk kds ks):∀x∈ak_3 kds ks,Fa x=true/\okD 1 x=true:=λx hx=>by
 obtain⟨d,hd,rfl⟩:=F7.mp hx;have hm:=(r_7 ks).mem_iff.mp hd;obtain⟨n,en⟩:=h.get hm;have hk:=h.key d hm;rw[en];refine⟨?_, ?_⟩
 ·simp only[Q2,Fa,Ew,ao_1 hk,L7]
 ·simp only[Q2,okD,P4,ZB8,dq_2 0 hk,L7]
theorem ag_8:∀{l:List D},(∀x∈l,Fa x=true)->Ew l=true
 | [],_=>by simp only[Ew]
 |d::l,h=>by simp only[Ew,h d (.head _),ag_8 λx hx=>h x (.tail _ hx),L7]
def cv_3(h:KOk kds ks):(ak_3 kds ks).length=kds.length:=by
 unfold ak_3;rw[A3,(r_7 ks).length_eq,h.length]
def Es(T:List Int)(kds:List (Af×D))(ks:List D):D:=.lst [.lst (T.map .int),.lst (ak_3 kds ks)]
def dg_0(h:KOk kds ks):Cm (Es T kds ks) (Es T kds ks)=.ok (.sh (.bl true)):=by
 refine ct_8 3 ?_;have h2:(ak_3 kds ks).all (okD 1)=true:=K7.mpr λx hx=>(be_5 h x hx).2;have h1:(T.map D.int).all (okD 1)=true:=K7.mpr λx hx=>by obtain⟨i,_,rfl⟩:=F7.mp hx;rfl
 simp only[Es,okD,P4,ZB8,h1,h2,L7]
theorem ag_9:∀T:List Int,Ew (T.map .int)=true
 | []=>by simp only[N7,Ew]
 |i::T=>by simp only[B3,Ew,Fa,ag_9 T,L7]
def bx_0(h:KOk kds ks):Fa (Es T kds ks)=true:=by
 simp only[Es,Fa,Ew,ag_9,ag_8 λx hx=>(be_5 h x hx).1,L7]
end
section
variable{p s m:Int}{T:List Int}{kds:List (Af×D)}{ks:List D}{d:D}
def cv_4{n:Nat}{M:Tn->List D->RR}{ga:SE->R (List D)}{Δ:SE}{ds:List D}(hg:ga (.lt (Al p s m T kds)::Δ)=.ok ds)(hl:ds.length=n):an_3 0 n M ga (.lt (Al p s m T kds)::Δ)=goR 0 true (.lt (Al p s m T kds)::Δ) (M (Al p s m T kds) ds):=by
 have hb:((Sl.lt (Al p s m T kds)::Δ)[0]?).bind Sl.tree=some (Al p s m T kds,true):=rfl;unfold an_3;rw[hb];unfold Al at hg⊢;simp only[hg,hl,if_true]
theorem ah_0:∀{ds:List D},Ew ds=true->l_6 (ds.map .sh)=true
 | [],_=>by simp only[N7,l_6]
 |d::ds,h=>by
  simp only[Ew,D9]at h;simp only[B3,l_6,m_4,h.1,ah_0 h.2,L7]
def cv_5{ds:List D}(h:Ew ds=true):t_1 (.ow (.lst ds))=true:=by
 show m_4 (.lst (ds.map .sh))=true;simp only[m_4,ah_0 h]
def cd_8(h:KOk kds ks)(tl:T.length<=1000)(δ:DE):By #v[Bo "table" 0 [("Living",b_7)] (Aa 0) Ac,Bo "kept" 0 [("Living",b_9)] (Aa 0) Ac] (some (Bm p s m T kds)::δ)=.ok (.ow (Es T kds ks)):=by
 have e1:Bo "table" 0 [("Living",b_7)] (Aa 0) Ac (some (Bm p s m T kds)::δ)=.ok (.ow (.lst (T.map .int))):=(met0 rfl nofun).trans (br_8 tl);have e2:Bo "kept" 0 [("Living",b_9)] (Aa 0) Ac (some (Bm p s m T kds)::δ)=.ok (.ow (.lst (ak_3 kds ks))):=(met0 rfl nofun).trans (cd_7 h);simp only[By,Ab,Ac,e1,e2,R.bind_ok,W.d_ow];rfl
def ck_0(h:KOk kds ks)(tl:T.length<=1000)(Δ:SE):Dl [0] (By #v[Bo "table" 0 [("Living",b_7)] (Aa 0) Ac,Bo "kept" 0 [("Living",b_9)] (Aa 0) Ac]) (.lt (Al p s m T kds)::Δ)=.ok (Es T kds ks) (.lt (Al p s m T kds)::Δ):=
 ad_9 (w:=.ow (Es T kds ks)) (cd_8 h tl _) (cv_5 (by have:=bx_0 (T:=T) h;simpa only [Es,Fa] using this))
def ck_1(h:KOk kds ks)(tl:T.length<=1000){δ:DE}{i:Nat}(hi:(some (Bm p s m T kds)::δ)[i]? =some (some (Es T kds ks))):Ae Cm (By #v[Bo "table" 0 [("Living",b_7)] (Aa 0) Ac,Bo "kept" 0 [("Living",b_9)] (Aa 0) Ac]) (Aa i) (some (Bm p s m T kds)::δ)=.ok (.sh (.bl true)):=by
 have ev:Aa i (some (Bm p s m T kds)::δ)=.ok (.sh (Es T kds ks)):=by unfold Aa;rw[hi]
 unfold Ae;rw[cd_8 h tl,R.bind_ok,ev,R.bind_ok];exact dg_0 h
end
def at_1{ns:List Str}{ts:List Tn}{f:Str}{js:List Nat}{fe:FE}{Δ:SE}{w:W}(hj:gsome js (.lt (.obj "Living" ns ts)::Δ)=.lt (.obj "Living" ns ts)::Δ)(h1:ns.contains f=false)(h2:ns.length < 1000)(hf:fe (none::Aw Δ)=.ok w):ap_2 0 ["Living"] f js fe (.lt (.obj "Living" ns ts)::Δ)=.nx (.lt (.obj "Living" (ns ++ [f]) (ts ++ [.sh w.d]))::Δ):=by
 unfold ap_2;rw[hj,show Aw (.lt (.obj "Living" ns ts)::Δ)=none::Aw Δ from rfl,hf];simp only[M9,ax_8,h1,h2,Z6,if_true,X7]
abbrev L12:List Str:=["part","by_salt","modulus","listed"]
def dg_1{p s m:Int}(p0:0 < p)(p1:p<=8):w_8 [.int p,.int s,.int m]=.ok (lN,[.sh (.int p),.sh (.int s),.sh (.int m),.sh (.lst ((List.replicate (2 * p).toNat (0:Int)).map .int)),Tn.of (.dic [])]):=by
 have mm:Er 2 p=true:=n_9 ⋯ ⋯;have du:repD [D.int 0] (.int (2 * p))=.ok (.ow (.lst ((List.replicate (2 * p).toNat (0:Int)).map .int))):=by
  unfold repD;simp only;rw[if_pos ⟨by omega,by simp;omega⟩];have:∀n:Nat,(List.replicate n [D.int 0]).flatten=(List.replicate n (0:Int)).map .int:=λn=>by
   induction n with
   |zero=>rfl
   |succ n ih=>rw[K8,N8,ih];rfl
  rw[this]
 have hr:eRep #v[eC (.int 0)] (Ae Du (eC (.int 2)) (Aa 1)) [none,some (.int p),some (.int s),some (.int m)]=.ok (.ow (.lst ((List.replicate (2 * p).toNat (0:Int)).map .int))):=by
  simp![eRep,An,k_5 mm,du]
 have a1:=at_1 (ns:=[]) (ts:=[]) (f:= "part") (js:=[1]) (fe:=Aa 1) (Δ:=[.sh (.int p),.sh (.int s),.sh (.int m)]) (w:=.sh (.int p)) rfl rfl ⋯ rfl;have a2:=at_1 (ns:=["part"]) (ts:=[.sh (.int p)]) (f:= "by_salt") (js:=[2]) (fe:=Aa 2) (Δ:=[.sh (.int p),.sh (.int s),.sh (.int m)]) (w:=.sh (.int s)) rfl nofun ⋯ rfl;have a3:=at_1 (ns:=["part","by_salt"]) (ts:=[.sh (.int p),.sh (.int s)]) (f:= "modulus") (js:=[3]) (fe:=Aa 3) (Δ:=[.sh (.int p),.sh (.int s),.sh (.int m)]) (w:=.sh (.int m)) rfl nofun ⋯ rfl;have a4:=at_1 (ns:=["part","by_salt","modulus"]) (ts:=[.sh (.int p),.sh (.int s),.sh (.int m)]) (f:= "listed") (js:=[1]) (Δ:=[.sh (.int p),.sh (.int s),.sh (.int m)]) rfl nofun ⋯ hr;have a5:bq_9 0 ["Living"] "by_key" ai_6 [.lt (.obj "Living" L12 [.sh (.int p),.sh (.int s),.sh (.int m),.sh (.lst ((List.replicate (2 * p).toNat (0:Int)).map .int))]),.sh (.int p),.sh (.int s),.sh (.int m)]=.nx [.lt (.obj "Living" lN [.sh (.int p),.sh (.int s),.sh (.int m),.sh (.lst ((List.replicate (2 * p).toNat (0:Int)).map .int)),Tn.of (.dic [])]),.sh (.int p),.sh (.int s),.sh (.int m)]:=by
  have h1:(L12:List Str).contains ("by_key" :Str)=false:=by decide +kernel
  unfold bq_9;simp only[M9,ax_8,h1,A9,F9];rfl
 unfold w_8 Fc u_8;rw[show av_4 4 "Living" [.int p,.int s,.int m]= [.lt (.obj "Living" [] []),.sh (.int p),.sh (.int s),.sh (.int m)] from rfl,Be a1];simp only[R1,W.d_sh];rw[Be a2];simp only[P9,R1,W.d_sh];rw[Be a3];simp only[P9,R1,W.d_sh];rw[Be a4];simp only[P9,R1,W.d_ow];rw[a5];simp only[if_true]
section
variable{α:Type}
def ac_2(k:Af):Bh ([]:List (Af×α)) k=none:=rfl
def Ef(x:Af)(v:α)(l:List (Af×α))(k:Af):Bh ((x,v)::l) k=if x=k then some v else Bh l k:=by
 unfold Bh;rw[O9]
 by_cases h:x=k
 ·rw[if_pos h,D6 h];rfl
 ·rw[if_neg h,C1 h]
def ak_4(l r:List (Af×α))(k:Af):Bh (l ++ r) k=(Bh l k).or (Bh r k):=by
 induction l with
 |nil=>rfl
 |cons q l ih=>
  obtain⟨x,v⟩:=q;rw[P9,Ef,Ef,ih]
  split <;> rfl
theorem br_9(v:α)(k k':Af):∀l:List (Af×α),Bh (Dn l k v) k'=if k'=k then(Bh l k).map (λ_=>v) else Bh l k'
 | []=>by unfold Dn;simp[ac_2]
 |(x,u)::l=>by
  unfold Dn
  by_cases h:x=k
  ·rw[if_pos h,Ef,Ef,if_pos h]
   by_cases h':k'=k
   ·rw[if_pos h',if_pos (h.trans h'.symm)];rfl
   ·rw[if_neg h',if_neg (λe=>h' (e.symm.trans h)),Ef,if_neg (λe=>h' (e.symm.trans h))]
  ·rw[if_neg h,Ef,br_9 v k k' l,Ef,if_neg h]
   by_cases h':k'=k
   ·rw[if_pos h',if_pos h',if_neg (λe=>h (e.trans h'))]
   ·rw[if_neg h',if_neg h',Ef]
def be_6{l:List (Af×α)}{k:Af}{v:α}(h:Bh l k=some v):(k,v)∈l:=by
 induction l with
 |nil=>cases h
 |cons q l ih=>
  obtain⟨x,u⟩:=q;rw[Ef]at h
  split at h
  ·rename_i e;cases h;subst e;exact C8
  ·exact C4 _ (ih h)
theorem cd_9{v:α}{k:Af}{q:Af×α}:∀{l:List (Af×α)},q∈Dn l k v->q∈l\/q.2=v
 | [],h=>by unfold Dn at h;cases h
 |(x,u)::l,h=>by
  unfold Dn at h
  split at h
  ·rcases C6.mp h with e|e
   ·subst e;exact .inr rfl
   ·exact .inl (C4 _ e)
  ·rcases C6.mp h with e|e
   ·subst e;exact .inl C8
   ·rcases cd_9 e with e|e
    ·exact .inl (C4 _ e)
    ·exact .inr e
def dg_2(v:α)(k:Af)(l:List (Af×α)):(Dn l k v).length=l.length:=by
 have:=K5 List.length (am_6 l k v);simpa using this
end
theorem ce_0(k:Af):∀zm:List (Af×Tn),Bh (Tn.ks zm) k=(Bh zm k).map Tn.d
 | []=>rfl
 |(x,t)::zm=>by
  unfold Tn.ks;rw[Ef,Ef,ce_0 k zm]
  split <;> rfl
abbrev Nb:=List (D×Nat)
def nbT(l:Nb):List D:=l.map λx=> .tup [x.1,.int (x.2:Int)]
abbrev Ed:=D×Nat×Nat
def Bv(E:List Ed)(q:Nat):Nb:=E.flatMap λe=>(if e.2.1=q then [(e.1,e.2.2)] else []) ++ (if e.2.2=q then [(e.1,e.2.1)] else [])
def edD(e:Ed):D:=.tup [e.1,.tup [.int (e.2.1:Int),.int (e.2.2:Int)]]
structure WK(zm:List (Af×Tn))(N:Nat->Nb):Prop where
 at_:∀q:Nat,(Bh zm (.inl (q:Int))).getD (.lst [])=.lst ((nbT (N q)).map .sh)
 li:∀q∈zm,∃l:Nb,q.2=.lst ((nbT l).map .sh)/\∀x∈l,Bq x.1
def WK.plain{zm:List (Af×Tn)}{N:Nat->Nb}(h:WK zm N):m_4 (.dic zm)=true:=by
 have:∀l:Nb,(∀x∈l,Bq x.1)->l_6 ((nbT l).map .sh)=true:=λl hl=>ah_0 (ag_8 λx hx=>by
  obtain⟨y,hy,rfl⟩:=F7.mp hx;have:=ao_1 (hl y hy);simp only[Fa,Ew,this,L7])
 have all:∀ks:List (Af×Tn),(∀q∈ks,q∈zm)->y_5 ks=true:=by
  intro ks
  induction ks with
  |nil=>intro _;rfl
  |cons q ks ih=>
   intro hq;obtain⟨x,t⟩:=q;obtain⟨l,e,hl⟩:=h.li _ (hq _ C8);simp only at e;subst e;unfold y_5 m_4;rw[this l hl,ih λq hq'=>hq q (C4 _ hq')];rfl
 unfold m_4;exact all zm λ_ h=>h
def addN(N:Nat->Nb)(a:Nat)(k:D)(b:Nat):Nat->Nb:=λq=>if q=a then N q ++ [(k,b)] else N q
def ce_1(zm:List (Af×Tn))(k k':Af):Bh (sdK zm k) k'=if k'=k then some ((Bh zm k).getD (.lst [])) else Bh zm k':=by
 unfold sdK;cases h:Bh zm k with
 |some v=>
  by_cases e:k'=k
  ·rw[if_pos e,e];exact h
  ·rw[if_neg e]
 |none=>
  simp only;rw[ak_4,Ef,ac_2]
  by_cases e:k'=k
  ·rw[if_pos e,e,h,if_pos rfl];rfl
  ·rw[if_neg e,if_neg (λz=>e z.symm)];cases Bh zm k' <;> rfl
def cv_6{i:Nat}{f1 f2:FE}{Δ:SE}{zm:List (Af×Tn)}{N:Nat->Nb}{a b:Nat}{k:D}(w:WK zm N)(hk:Bq k)(ht:(Δ[i]?).bind Sl.tree=some (.dic zm,false))(h1:f1 (Bj Δ)=.ok (.sh (.int (a:Int))))(h2:f2 (Aw Δ)=.ok (.sh (.tup [k,.int (b:Int)])))(hl:zm.length < 10000)(hn:(N a).length < 10000):
  ∃kts',sSdb i f1 f2 Δ=.nx (Δ.set i (.tr (.dic kts')))/\WK kts' (addN N a k b)/\kts'.length<=zm.length + 1:=by
 have hv:=ce_1 zm (.inl (a:Int)) (.inl (a:Int));rw[if_pos rfl,w.at_ a]at hv;refine⟨Dn (sdK zm (.inl (a:Int))) (.inl (a:Int)) (.lst ((nbT (N a)).map .sh ++ [.sh (.tup [k,.int (b:Int)])])), ?_,⟨λq=> ?_,λq hq=> ?_⟩, ?_⟩
 ·unfold sSdb;rw[ht];simp only[h1,W.d_sh,Dv];rw[if_pos (),hv];simp only;rw[if_pos (by simp[nbT];omega),h2];rfl
 ·rw[br_9,hv];unfold addN
  by_cases e:q=a
  ·subst e;rw[if_pos rfl,if_pos rfl];simp only[K9,Q2,nbT,E9];rfl
  ·have e':(Sum.inl (q:Int):Af)≠ .inl (a:Int):=λz=>e (by injection z with z;omega);rw[if_neg e',if_neg e,ce_1,if_neg e'];exact w.at_ q
 ·have hsd:∀q∈sdK zm (.inl (a:Int)),∃l:Nb,q.2=.lst ((nbT l).map .sh)/\∀x∈l,Bq x.1:=λq hq=>by
   unfold sdK at hq
   split at hq
   ·exact w.li q hq
   ·rcases F2.mp hq with h|h
    ·exact w.li q h
    ·rw[C9.mp h];exact⟨[],rfl,λ_ h=>by cases h⟩
  rcases cd_9 hq with h|h
  ·exact hsd q h
  ·obtain⟨l,e,hl'⟩:=hsd _ (be_6 hv);refine⟨l ++ [(k,b)], ?_,λx hx=> ?_⟩
   ·rw[h];simp only at e;injection e with e
    rw[e];simp only[nbT,E9];rfl
   ·rcases F2.mp hx with h|h
    ·exact hl' x h
    ·rw[C9.mp h];exact hk
 ·rw[dg_2];unfold sdK
  split
  ·omega
  ·simp
def cv_7{a b:D}(ha:Bq a)(hb:Bq b):Dt a b=.ok (.sh (.bl (!decide (Bg a=Bg b)))):=by
 have hc:Gh a b=true:=by unfold Gh;rw[(ad_6 ha).1,(ad_6 hb).1,(ad_6 ha).2];rfl
 have he:Fq a b=decide (Bg a=Bg b):=by
  have q:=cd_6 ha hb
  by_cases e:a=b
  ·rw[show Fq a b=true from q.mpr e,e];simp
  ·have:Fq a b=false:=by
    cases h:Fq a b with
    |false=>rfl
    |true=>exact absurd (q.mp h) e
   rw[this,C1 λz=>e (ad_7 ha hb z)]
 rcases ha with⟨n,rfl,_⟩|⟨l,rfl,_⟩ <;> rcases hb with⟨n',rfl,_⟩|⟨l',rfl,_⟩
 ·show(if Gh (.int n) (.int n')=true then R.ok (W.sh (.bl (!Fq (.int n) (.int n')))) else .no)=_;rw[if_pos hc,he]
 ·show(if Gh (.int n) (.str (Br l'))=true then R.ok (W.sh (.bl (!Fq (.int n) (.str (Br l'))))) else .no)=_;rw[if_pos hc,he]
 ·show(if Gh (.str (Br l)) (.int n')=true then R.ok (W.sh (.bl (!Fq (.str (Br l)) (.int n')))) else .no)=_;rw[if_pos hc,he]
 ·rw[dc_0]
  by_cases e:Br l=Br l'
  ·rw[e];simp
  ·rw[C1 e,C1 λz=>e (by injection z)]
def WD(wk:List (Af×D))(N:Nat->Nb):Prop:=∀q:Nat,(Bh wk (.inl (q:Int))).getD (.lst [])=.lst (nbT (N q))
theorem WK.d{zm:List (Af×Tn)}{N:Nat->Nb}(h:WK zm N):WD (Tn.ks zm) N:=λq=>by
 have:=h.at_ q;rw[ce_0];cases e:Bh zm (.inl (q:Int)) with
 |some t=>
  rw[e]at this;simp only[Q2]at this;rw[this];simp only[K9,Q2,Tn.d,Tn.ds_sh]
 |none=>
  rw[e]at this;simp only[Option.getD_none]at this;injection this with this
  have:nbT (N q)= []:=List.map_eq_nil_iff.mp this.symm;rw[this];rfl
def cv_8{E:List Ed}{i:Nat}{e:Ed}(h:E[i]? =some e):Bv (E.take (i + 1))=λq=>Bv (E.take i) q ++ ((if e.2.1=q then [(e.1,e.2.2)] else []) ++ (if e.2.2=q then [(e.1,e.2.1)] else [])):=by
 funext q
 unfold Bv;rw[U7,h,List.flatMap_append];simp
def bk_6(E:List Ed)(q:Nat):(Bv E q).length<=2 * E.length:=by
 induction E with
 |nil=>simp[Bv]
 |cons e E ih=>
  unfold Bv at ih⊢;rw[List.flatMap_cons,B7,B7,A9];have a1:(if e.2.1=q then [(e.1,e.2.2)] else []).length<=1:=by split <;> simp
  have a2:(if e.2.2=q then [(e.1,e.2.1)] else []).length<=1:=by split <;> simp
  omega
def bx_1(E:List Ed)(hl:E.length<=100)(hk:∀e∈E,Bq e.1/\e.2.1≠e.2.2):∃w wk,ad_5 [.lst (E.map edD)]=.ok w/\t_1 w=true/\w.d=.dic wk/\WD wk (Bv E):=by
 let I:Nat->SE->Prop:=λi Δ=>∃(sl a2 a3:Sl) (zm:List (Af×Tn)),Δ= [.sh (.lst (E.map edD)),sl,a2,a3]/\((sl=.ow (.dic [])/\zm= [])\/sl=.tr (.dic zm))/\WK zm (Bv (E.take i))/\zm.length<=2 * i
 obtain⟨Δ',e,sl,a2,a3,zm,rfl,hs,hw,_⟩:=s_1 (Gi 2 3) ap_9 I (ds:=E.map edD) (Δ:=[.sh (.lst (E.map edD)),.ow (.dic []),.no,.no])
  ⟨_,_,_,[],rfl,.inl ⟨rfl,rfl⟩,⟨λq=>rfl,λq h=>by cases h⟩,B5 _⟩
  (λi d Δ hd ⟨sl,a2,a3,zm,e,hs,hw,hn⟩=>by
   subst e;rw[A8]at hd;cases he:E[i]? with
   |none=>rw[he]at hd;cases hd
   |some ed=>
    rw[he]at hd;cases hd;obtain⟨k,a,b⟩:=ed;obtain⟨hkk,hab⟩:=hk _ (M6 he);simp only at hkk hab;have hi:i < E.length:=(B4.mp he).1;have tr:sl.tree=some (.dic zm,false):=by
     rcases hs with⟨rfl,rfl⟩|rfl <;> rfl
    have nl:∀q,(Bv (E.take i) q).length<=200:=λq=>by
     have:=bk_6 (E.take i) q;rw[V3]at this;omega
    have ia0:Bf (.tup [.int (a:Int),.int (b:Int)]) (.int 0)=.ok (.sh (.int (a:Int))):=rfl;have ia1:Bf (.tup [.int (a:Int),.int (b:Int)]) (.int 1)=.ok (.sh (.int (b:Int))):=rfl;obtain⟨k1,g1,w1,l1⟩:=cv_6 (i:=1) (Δ:=[.sh (.lst (E.map edD)),sl,.sh k,.sh (.tup [.int (a:Int),.int (b:Int)])]) (f1:=Ae Bf (Aa 3) (eC (.int 0))) (f2:=Dy #v[2,Ae Bf (Aa 3) (eC (.int 1))]) (a:=a) (b:=b) (k:=k) hw hkk (by simpa using tr)
     (by simp![An,ia0,Bj,B3,Sl.any]) (by simp![An,ia1,Aw,B3,Sl.pub]) () (by have:=nl a;omega)
    obtain⟨k2,g2,w2,l2⟩:=cv_6 (i:=1) (Δ:=[.sh (.lst (E.map edD)),.tr (.dic k1),.sh k,.sh (.tup [.int (a:Int),.int (b:Int)])]) (f1:=Ae Bf (Aa 3) (eC (.int 1))) (f2:=Dy #v[2,Ae Bf (Aa 3) (eC (.int 0))]) (a:=b) (b:=a) (k:=k) w1 hkk rfl
     (by simp![An,ia1,Bj,B3,Sl.any]) (by simp![An,ia0,Aw,B3,Sl.pub]) () (by
      have:=nl b;unfold addN
      split
      ·rw[B7];simp only[A9,F9];omega
      ·omega)
    refine⟨_,rfl,_,.inl ((Be g1).trans g2),_,_,_,k2,rfl,.inr rfl, ?_,by omega⟩;rw[cv_8 he];have:addN (addN (Bv (E.take i)) a k b) b k a=λq=>Bv (E.take i) q ++ ((if a=q then [(k,b)] else []) ++ (if b=q then [(k,a)] else [])):=by
     funext q
     unfold addN
     by_cases h1:a=q
     ·subst h1;rw[if_neg hab,if_pos rfl,if_pos rfl,if_neg λz=>hab z.symm,D8]
     ·by_cases h2:b=q
      ·subst h2;rw[if_pos rfl,if_neg (λz=>hab z.symm),if_neg hab,if_pos rfl];rfl
      ·rw[if_neg λz=>h2 z.symm,if_neg λz=>h1 z.symm,if_neg h1,if_neg h2,D8,D8]
    rw[<-this];exact w2)
 rw[A3,S6]at hw;have q:an_7 (Ba 4 [.lst (E.map edD)])=Cb 1 [.sh (.lst (E.map edD)),sl,a2,a3]:=by
  unfold an_7;rw[show Ba 4 [D.lst (E.map edD)]= [.sh (.lst (E.map edD)),.no,.no,.no] from rfl];refine(Be (Δ':=[.sh (.lst (E.map edD)),.ow (.dic []),.no,.no]) rfl).trans ?_;refine Be ?_;exact e
 rcases hs with⟨rfl,rfl⟩|rfl
 ·exact⟨.ow (.dic []),[],k_6 q,rfl,rfl,hw.d⟩
 ·exact⟨.tr (.dic zm),Tn.ks zm,k_6 q,hw.plain,rfl,hw.d⟩
section
variable{p s m:Int}{T:List Int}{kds:List (Af×D)}{ks:List D}{d:D}
def Cg(ks:List D)(d:D)(s p:Int):List Ed:=(ks.filter λx=> !decide (Bg x=Bg d)).map λx=>(x,pA x s p,pB x s p)
def ax_9(z:Szs p s m T)(h:KOk kds ks)(hd:Bq d):∃w wk,b_1 [Bm p s m T kds,d]=.ok w/\t_1 w=true/\w.d=.dic wk/\WD wk (Bv (Cg ks d s p)):=by
 have zk:=h.len;obtain⟨w,wk,e,pw,dw,hw⟩:=bx_1 (Cg ks d s p) (by unfold Cg;rw[A3];exact D4 (L4 _ _) ()) (λx hx=>by
  obtain⟨y,hy,rfl⟩:=F7.mp hx;have a:=t_9 y s z.p0;have b:=z_7 y s z.p0;exact⟨h.key y ((O7.mp hy).1),by simp only;omega⟩)
 refine⟨w,wk, ?_,pw,dw,hw⟩;have ec:=o_9 (fg:=gC 2) (p:=g_7) (f:=g_6) (δ:=[some (Bm p s m T kds),some d,none]) (λx=> !decide (Bg x=Bg d)) (λx=>edD (x,pA x s p,pB x s p)) ks (λx hx=>by
  refine⟨[some (Bm p s m T kds),some d,some x],rfl, ?_,λ_=> ?_⟩
  ·simp![g_7,An,cv_7 (h.key x hx) hd]
  ·have hp:=ad_8 (m:=m) (T:=T) (kds:=kds) (h.key x hx) z.s0 z.s1 z.p0 (by have:=z.p1;omega);rw[z_0 x s z.p0]at hp;have e2:Bo "places" 1 [("Living",b_6)] (Aa 0) #v[2] [some (Bm p s m T kds),some d,some x]=.ok (.sh (.tup (zi [pA x s p,pB x s p]))):=(Fp (w:=.sh x) rfl rfl nofun).trans hp;exact⟨.sh (.tup [x,.tup (zi [pA x s p,pB x s p])]),by simp![g_6,An,e2],rfl⟩)
 have ei:Fk (Cz ["Living"] "by_key" (Aa 0)) [some (Bm p s m T kds),some d]=.ok ks:=by
  have e1:Cz ["Living"] "by_key" (Aa 0) [some (Bm p s m T kds),some d]=.ok (.sh (.dic kds)):=fld rfl rfl;unfold Fk;rw[e1];show R.ok (kds.map λp=>kD p.1)=_;rw[h.ds]
 have e3:=t_0 (m:=1) (fg:=gC 2) (p:=g_7) (f:=g_6) ei () ec;have ee:((ks.filter λx=> !decide (Bg x=Bg d)).map λx=>edD (x,pA x s p,pB x s p))=(Cg ks d s p).map edD:=by
  unfold Cg;rw[L8];rfl
 rw[ee]at e3
 simp![b_1,o_6,An,e3,e]
end
theorem ay_0:∀(M:Nat) (l:List Nat),l.Nodup->(∀x∈l,x < M)->l.length<=M
 |0,l,_,h=>by
  cases l with
  |nil=>exact B5 _
  |cons a l=>exact absurd (h a C8) (Nat.not_lt_zero _)
 |M + 1,l,nd,h=>by
  have h1:=ay_0 M (l.erase M) (nd.erase M) λx hx=>by
   have:=nd.mem_erase_iff.mp hx;have:=h x this.2;omega
  have h2:=List.length_erase (a:=M) (l:=l)
  split at h2 <;> omega
abbrev Bs:=List (Nat×Option (D×Nat))
def bV:Option (D×Nat)->D
 |none=> .non
 |some (k,q)=> .tup [k,.int (q:Int)]
def bD(B:Bs):List (Af×D):=B.map λe=>(.inl (e.1:Int),bV e.2)
abbrev bK(B:Bs):List Nat:=B.map (·.1)
def be_7{α:Type}(x:Af)(v:α)(l:List (Af×α))(k:Af):Db ((x,v)::l) k=(decide (x=k) || Db l k):=by
 unfold Db;rw[Ef]
 by_cases h:x=k
 ·rw[if_pos h,D6 h];rfl
 ·rw[if_neg h,C1 h];rfl
def ao_2(B:Bs)(o:Nat):Db (bD B) (.inl (o:Int))=decide (o∈bK B):=by
 induction B with
 |nil=>rfl
 |cons e B ih=>
  show Db ((.inl (e.1:Int),bV e.2)::bD B) _=_;rw[be_7,ih];have:(Sum.inl (e.1:Int):Af)=.inl (o:Int)↔o=e.1:=⟨λz=>by injection z with z;omega,λz=>by rw[z]⟩;rw[Z7.mpr this];rw[<-Bool.decide_or];exact Z7.mpr C6.symm
def bk_7{α:Type}(l:List (Af×α))(k:Af):(l.any λkv=>decide (kv.1=k))=Db l k:=by
 induction l with
 |nil=>rfl
 |cons q l ih=>
  obtain⟨x,v⟩:=q;rw[be_7,P5,ih]
def ay_1{α:Type}{l:List (Af×α)}{k:Af}{v:α}(h:Db l k=false):Di l k v=l ++ [(k,v)]:=by
 unfold Di;rw[bk_7,h,if_neg A6]
inductive Grown(N:Nat->Nb)(s:Nat):Bs->Prop
 |base:Grown N s [(s,none)]
 |more {B:Bs} {q:Nat} {x:D×Nat}:Grown N s B->q∈bK B->x∈N q->x.2∉bK B->Grown N s (B ++ [(x.2,some (x.1,q))])
section
variable{N:Nat->Nb}{s:Nat}{B:Bs}
def k_1(B C:Bs):bK (B ++ C)=bK B ++ bK C:=E9
def Grown.start(g:Grown N s B):s∈bK B:=by
 induction g with
 |base=>exact C9.mpr rfl
 |more _ _ _ _ ih=>rw[k_1];exact E8 _ ih
def Grown.nd(g:Grown N s B):(bK B).Nodup:=by
 induction g with
 |base=>simp[bK]
 |more _ _ _ h ih=>
  rw[k_1];refine List.nodup_append.mpr ⟨ih,by simp[bK],λa ha b hb e=> ?_⟩;have:b=_:=C9.mp hb;subst e;subst this;exact h ha
def Grown.all(g:Grown N s B)(P:Nat->Prop)(h0:P s)(h:∀q,P q->∀x∈N q,P x.2):∀q∈bK B,P q:=by
 induction g with
 |base=>intro q hq;rw[C9.mp hq];exact h0
 |more _ hq hx _ ih=>
  intro q' hq';rw[k_1]at hq';rcases F2.mp hq' with e|e
  ·exact ih q' e
  ·rw[C9.mp e];exact h _ (ih _ hq) _ hx
theorem ay_2{wk:List (Af×D)}{st q:Nat}:∀(l:Nb) (B:Bs) (Q:List Nat) (a5 a6:Sl),(∀x∈l,x∈N q)->Grown N s B->q∈bK B->B.length + l.length<=10000->Q.length<=B.length->
  ∃C a5' a6',Cu (Gi 5 6) e_6 (nbT l) [.sh (.int (st:Int)),.sh (.dic wk),.ow (.dic (bD B)),.ow (.lst (zi Q)),.sh (.int (q:Int)),a5,a6]=.nx [.sh (.int (st:Int)),.sh (.dic wk),.ow (.dic (bD (B ++ C))),.ow (.lst (zi (Q ++ bK C))),.sh (.int (q:Int)),a5',a6']/\Grown N s (B ++ C)/\∀x∈l,x.2∈bK (B ++ C)
 | [],B,Q,a5,a6,_,g,_,_,_=>⟨[],a5,a6,by rw[D8,show bK []= [] from rfl,D8];rfl,by rw[D8];exact g,λx h=>by cases h⟩
 |x::l,B,Q,a5,a6,hl,g,hq,hn,hQ=>by
  have hx:=hl x C8;have hl':∀y∈l,y∈N q:=λy hy=>hl y (C4 _ hy);rw[A9]at hn;have hb:=ao_2 B x.2;have ht:∀g1 g2:FS,Bl [2,6] (Ah (Ae (Dq true) (Aa 6) (Aa 2))) g1 g2 [.sh (.int (st:Int)),.sh (.dic wk),.ow (.dic (bD B)),.ow (.lst (zi Q)),.sh (.int (q:Int)),.sh x.1,.sh (.int (x.2:Int))]=if x.2∈bK B then g2 [.sh (.int (st:Int)),.sh (.dic wk),.ow (.dic (bD B)),.ow (.lst (zi Q)),.sh (.int (q:Int)),.sh x.1,.sh (.int (x.2:Int))] else g1 [.sh (.int (st:Int)),.sh (.dic wk),.ow (.dic (bD B)),.ow (.lst (zi Q)),.sh (.int (q:Int)),.sh x.1,.sh (.int (x.2:Int))]:=λg1 g2=>by
   by_cases hm:x.2∈bK B
   ·rw[if_pos hm];rw[D6 hm]at hb
    simp![An,Sl.any,Dq,Dv,hb,if_true,ZB4]
   ·rw[if_neg hm];rw[C1 hm]at hb
    simp![An,Sl.any,Dq,Dv,hb,if_true,ZB2]
  have one:∀Δ2,e_6 [.sh (.int (st:Int)),.sh (.dic wk),.ow (.dic (bD B)),.ow (.lst (zi Q)),.sh (.int (q:Int)),.sh x.1,.sh (.int (x.2:Int))]=.nx Δ2->Cu (Gi 5 6) e_6 (nbT (x::l)) [.sh (.int (st:Int)),.sh (.dic wk),.ow (.dic (bD B)),.ow (.lst (zi Q)),.sh (.int (q:Int)),a5,a6]=Cu (Gi 5 6) e_6 (nbT l) Δ2:=λ Δ2 e=>by
   show(match e_6 [.sh (.int (st:Int)),.sh (.dic wk),.ow (.dic (bD B)),.ow (.lst (zi Q)),.sh (.int (q:Int)),.sh x.1,.sh (.int (x.2:Int))] with
    | .nx Δ2=>Cu (Gi 5 6) e_6 (nbT l) Δ2
    | .ct Δ2=>Cu (Gi 5 6) e_6 (nbT l) Δ2
    | .bk Δ2=> .nx Δ2
    |r=>r)=_
   rw[e]
  by_cases hm:x.2∈bK B
  ·have e1:e_6 [.sh (.int (st:Int)),.sh (.dic wk),.ow (.dic (bD B)),.ow (.lst (zi Q)),.sh (.int (q:Int)),.sh x.1,.sh (.int (x.2:Int))]=.nx [.sh (.int (st:Int)),.sh (.dic wk),.ow (.dic (bD B)),.ow (.lst (zi Q)),.sh (.int (q:Int)),.sh x.1,.sh (.int (x.2:Int))]:=by
    unfold e_6;rw[ht,if_pos hm];rfl
   obtain⟨C,a5',a6',e,g',h'⟩:=ay_2 l B Q (.sh x.1) (.sh (.int (x.2:Int))) hl' g hq () hQ;refine⟨C,a5',a6',(one _ e1).trans e,g',λy hy=> ?_⟩;rcases C6.mp hy with rfl|hy
   ·rw[k_1];exact E8 _ hm
   ·exact h' y hy
  ·have e1:e_6 [.sh (.int (st:Int)),.sh (.dic wk),.ow (.dic (bD B)),.ow (.lst (zi Q)),.sh (.int (q:Int)),.sh x.1,.sh (.int (x.2:Int))]=.nx [.sh (.int (st:Int)),.sh (.dic wk),.ow (.dic (bD (B ++ [(x.2,some (x.1,q))]))),.ow (.lst (zi (Q ++ [x.2]))),.sh (.int (q:Int)),.sh x.1,.sh (.int (x.2:Int))]:=by
    unfold e_6;rw[ht,if_neg hm];rw[C1 hm]at hb;have hz:(bD B).length < 16777216:=by unfold bD;rw[A3];omega
    have hy:(zi Q).length < 16777216:=by unfold zi;rw[A3];omega
    have p1:bo_2 2 [4,5] (Aa 6) (Dy #v[5,4]) [.sh (.int (st:Int)),.sh (.dic wk),.ow (.dic (bD B)),.ow (.lst (zi Q)),.sh (.int (q:Int)),.sh x.1,.sh (.int (x.2:Int))]=.nx [.sh (.int (st:Int)),.sh (.dic wk),.ow (.dic (bD (B ++ [(x.2,some (x.1,q))]))),.ow (.lst (zi Q)),.sh (.int (q:Int)),.sh x.1,.sh (.int (x.2:Int))]:=by
     have e0:Di (bD B) (.inl (x.2:Int)) (.tup [x.1,.int (q:Int)])=bD (B ++ [(x.2,some (x.1,q))]):=by
      rw[ay_1 hb];unfold bD;rw[E9];rfl
     rw[<-e0];unfold bo_2;show(match Dy #v[5,4] [some (.int (st:Int)),some (.dic wk),none,none,some (.int (q:Int)),some x.1,some (.int (x.2:Int))] with
      | .ok w=>(if(bD B).length < 16777216 then Fl.nx [.sh (.int (st:Int)),.sh (.dic wk),.ow (.dic (Di (bD B) (.inl (x.2:Int)) w.d)),.ow (.lst (zi Q)),.sh (.int (q:Int)),.sh x.1,.sh (.int (x.2:Int))] else .no)
      |_=> .no)=_
     simp![An,if_pos hz,W.d_sh]
    rw[Be p1];unfold Ee;show(if(zi Q).length < 16777216 then Fl.nx [.sh (.int (st:Int)),.sh (.dic wk),.ow (.dic (bD (B ++ [(x.2,some (x.1,q))]))),.ow (.lst (zi Q ++ [.int (x.2:Int)])),.sh (.int (q:Int)),.sh x.1,.sh (.int (x.2:Int))] else .no)=_;rw[if_pos hy];unfold zi;rw[E9];rfl
   obtain⟨C,a5',a6',e,g',h'⟩:=ay_2 l (B ++ [(x.2,some (x.1,q))]) (Q ++ [x.2]) (.sh x.1) (.sh (.int (x.2:Int))) hl' (g.more hq hx hm) (by rw[k_1];exact E8 _ hq) (by rw[B7];simp only[A9,F9];omega) (by rw[B7,B7];simp only[A9,F9];omega);refine⟨(x.2,some (x.1,q))::C,a5',a6',(one _ e1).trans (e.trans ?_), ?_,λy hy=> ?_⟩
   ·rw[J8,J8];rfl
   ·rw[J8]at g';exact g'
   ·rw[J8]at h';rcases C6.mp hy with rfl|hy
    ·rw[k_1];exact B6 _ C8
    ·exact h' y hy
end
section
variable{N:Nat->Nb}{s:Nat}{wk:List (Af×D)}
def cv_9(wd:WD wk N)(q:Nat)(a0 a2 a3 a5 a6:Option D):Ez (bo_3 (Aa 1) (Aa 4) (By Ac)) [a0,some (.dic wk),a2,a3,some (.int (q:Int)),a5,a6]=.ok (nbT (N q)):=by
 have h:=wd q;cases e:Bh wk (.inl (q:Int)) with
 |some v=>
  rw[e]at h;simp only[Q2]at h;subst h
  simp![An,bo_3,cb_1,Dv,e]
 |none=>
  rw[e]at h;simp only[Option.getD_none]at h;injection h with h
  simp![An,bo_3,cb_1,Dv,e,<-h]
def ck_3(wd:WD wk N){M:Nat}(hM:M<=1000)(hN:∀q,∀x∈N q,x.2 < M)(hn:∀q,(N q).length<=1000)(hs:s < M):∀(n:Nat) (P Q:List Nat) (B:Bs) (a4 a5 a6:Sl),bK B=P ++ Q->Grown N s B->(∀q∈P,∀x∈N q,x.2∈bK B)->M < n + P.length->
  ∃B' a4' a5' a6',m_3 [3] r_5 r_6 n [.sh (.int (s:Int)),.sh (.dic wk),.ow (.dic (bD B)),.ow (.lst (zi Q)),a4,a5,a6]=.nx [.sh (.int (s:Int)),.sh (.dic wk),.ow (.dic (bD B')),.ow (.lst []),a4',a5',a6']/\Grown N s B'/\∀q∈bK B',∀x∈N q,x.2∈bK B':=by
 intro n;have small:∀B,Grown N s B->B.length<=M:=λB g=>by
  have:=ay_0 M (bK B) g.nd (g.all (· < M) hs λq _ x hx=>hN q x hx)
  rwa[A3]at this
 have bl:∀B P Q,bK B=P ++ Q->B.length=P.length + Q.length:=λB P Q h=>by
  have:=K5 List.length h
  rwa[A3,B7]at this
 induction n with
 |zero=>
  intro P Q B a4 a5 a6 hb g _ hm;have:=small B g;have:=bl B P Q hb;omega
 |succ n ih=>
  intro P Q B a4 a5 a6 hb g hc hm;have h1:=small B g;have h2:=bl B P Q hb;have zl:(zi Q).length=Q.length:=by unfold zi;rw[A3]
  have ht:r_5 (Bj [.sh (.int (s:Int)),.sh (.dic wk),.ow (.dic (bD B)),.ow (.lst (zi Q)),a4,a5,a6])=.ok (decide ((0:Int) < (Q.length:Int))):=by
   simp![r_5,An,o_0,di_0,zl]
  unfold m_3;rw[ht];cases Q with
  |nil=>
   refine⟨B,a4,a5,a6,rfl,g, ?_⟩;rw[D8]at hb;rw[hb];rw[hb]at hc;exact hc
  |cons q Q=>
   have hq:q∈bK B:=by rw[hb];simp
   rw[A9]at h2;have hnq:=hn q;have p1:br_4 4 3 (eC (.int 0)) [.sh (.int (s:Int)),.sh (.dic wk),.ow (.dic (bD B)),.ow (.lst (zi (q::Q))),a4,a5,a6]=.nx [.sh (.int (s:Int)),.sh (.dic wk),.ow (.dic (bD B)),.ow (.lst (zi Q)),.sh (.int (q:Int)),a5,a6]:=by
    have zc:zi (q::Q)=.int (q:Int)::zi Q:=rfl;have z2:(zi Q).length=Q.length:=by unfold zi;rw[A3]
    rw[zc];unfold br_4
    simp![An]
    rw[if_pos ⟨by decide,by rw[z2];omega,by rw[z2];omega⟩];rfl
   obtain⟨C,a5',a6',e,g',h'⟩:=ay_2 (wk:=wk) (st:=s) (q:=q) (N q) B Q a5 a6 (λ_ h=>h) g hq () ();have p2:r_6 [.sh (.int (s:Int)),.sh (.dic wk),.ow (.dic (bD B)),.ow (.lst (zi (q::Q))),a4,a5,a6]=.nx [.sh (.int (s:Int)),.sh (.dic wk),.ow (.dic (bD (B ++ C))),.ow (.lst (zi (Q ++ bK C))),.sh (.int (q:Int)),a5',a6']:=by
    unfold r_6;rw[Be p1];unfold y_1;rw[show Aw [.sh (.int (s:Int)),.sh (.dic wk),.ow (.dic (bD B)),.ow (.lst (zi Q)),.sh (.int (q:Int)),a5,a6]= [some (.int (s:Int)),some (.dic wk),none,none,some (.int (q:Int)),a5.pub,a6.pub] from rfl,cv_9 wd];exact e
   have h0:(0:Int) < ((q::Q).length:Int):=by rw[A9];omega
   rw[D6 h0];simp only[if_true,p2];obtain⟨B',b4,b5,b6,e2,g2,h2'⟩:=ih (P ++ [q]) (Q ++ bK C) (B ++ C) (.sh (.int (q:Int))) a5' a6' (by rw[k_1,hb];simp) g' (λy hy x hx=>by
    rcases F2.mp hy with h|h
    ·rw[k_1];exact E8 _ (hc y h x hx)
    ·rw[C9.mp h]at hx;exact h' x hx) (by rw[B7];simp only[A9,F9];omega)
   exact⟨B',b4,b5,b6,e2,g2,h2'⟩
def ay_3(wd:WD wk N){M:Nat}(hM:M<=1000)(hN:∀q,∀x∈N q,x.2 < M)(hn:∀q,(N q).length<=1000)(hs:s < M):
  ∃B,i_5 [.int (s:Int),.dic wk]=.ok (.ow (.dic (bD B)))/\Grown N s B/\(∀q∈bK B,∀x∈N q,x.2∈bK B)/\B.length<=M:=by
 obtain⟨B,a4,a5,a6,e,g,h⟩:=ck_3 (s:=s) wd hM hN hn hs 3000 [] [s] [(s,none)] .no .no .no rfl .base (λq hq=>by cases hq) (by simp only[F9];omega);refine⟨B, ?_,g,h, ?_⟩
 ·have q:ag_4 (Ba 7 [.int (s:Int),.dic wk])=Cb 2 [.sh (.int (s:Int)),.sh (.dic wk),.ow (.dic (bD B)),.ow (.lst []),a4,a5,a6]:=by
   unfold ag_4;rw[show Ba 7 [.int (s:Int),.dic wk]= [.sh (.int (s:Int)),.sh (.dic wk),.no,.no,.no,.no,.no] from rfl];refine(Be (Δ':=[.sh (.int (s:Int)),.sh (.dic wk),.ow (.dic (bD [(s,none)])),.no,.no,.no,.no]) rfl).trans ?_;refine(Be (Δ':=[.sh (.int (s:Int)),.sh (.dic wk),.ow (.dic (bD [(s,none)])),.ow (.lst (zi [s])),.no,.no,.no]) rfl).trans ?_;exact Be e
  exact k_6 q
 ·have:=ay_0 M (bK B) g.nd (g.all (· < M) hs λq _ x hx=>hN q x hx)
  rwa[A3]at this
end
def Ei(T:List Int)(S:List Nat)(p m l1 l2:Int):List Int:=T.mapIdx λi n=>if i∈S then(n + if(i:Int) < p then l1 else l2) % m else n
def s_3(T:List Int)(S:List Nat)(p m l1 l2:Int):(Ei T S p m l1 l2).length=T.length:=by
 unfold Ei;rw[List.length_mapIdx]
def ao_3(T:List Int)(S:List Nat)(p m l1 l2:Int)(i:Nat):(Ei T S p m l1 l2)[i]? =(T[i]?).map λn=>if i∈S then(n + if(i:Int) < p then l1 else l2) % m else n:=by
 unfold Ei;rw[List.getElem?_mapIdx]
section
variable{p s m l1 l2:Int}{T:List Int}{kds:List (Af×D)}{B:Bs}
def ck_4{L:List Int}{i:Nat}{n:Int}(hm:0 < m)(hL:L.length<=1000)(a7:Sl):j_8 [.lt (Al p s m T kds),.sh (.dic (bD B)),.sh (.int l1),.sh (.int l2),.ow (.lst (L.map .int)),.sh (.int (i:Int)),.sh (.int n),a7]=.nx [.lt (Al p s m T kds),.sh (.dic (bD B)),.sh (.int l1),.sh (.int l2),.ow (.lst ((L ++ [if i∈bK B then(n + if(i:Int) < p then l1 else l2) % m else n]).map .int)),.sh (.int (i:Int)),.sh (.int n),.sh (.int (if(i:Int) < p then l1 else l2))]:=by
 have e1:∀δ,Cz ["Living"] "part" (Aa 0) (some (Bm p s m T kds)::δ)=.ok (.sh (.int p)):=λ δ=>fld rfl rfl;have e2:∀δ,Cz ["Living"] "modulus" (Aa 0) (some (Bm p s m T kds)::δ)=.ok (.sh (.int m)):=λ δ=>fld rfl rfl;have q1:Dr 7 (Dl [0] (eIf (Ah (Ae ltD (Aa 5) (Cz ["Living"] "part" (Aa 0)))) (Aa 2) (Aa 3))) [.lt (Al p s m T kds),.sh (.dic (bD B)),.sh (.int l1),.sh (.int l2),.ow (.lst (L.map .int)),.sh (.int (i:Int)),.sh (.int n),a7]=.nx [.lt (Al p s m T kds),.sh (.dic (bD B)),.sh (.int l1),.sh (.int l2),.ow (.lst (L.map .int)),.sh (.int (i:Int)),.sh (.int n),.sh (.int (if(i:Int) < p then l1 else l2))]:=by
  unfold Dr;rw[ad_9 (w:=.sh (.int (if(i:Int) < p then l1 else l2))) ?_ rfl]
  ·rfl
  ·by_cases h:(i:Int) < p
   ·simp![An,e1,ai_8,h]
   ·simp![An,e1,ai_8,h]
 unfold j_8;rw[Be q1];generalize (if(i:Int) < p then l1 else l2)=w;have hb:=ao_2 B i;have hl:(L.map D.int).length < 16777216:=by rw[A3];omega
 unfold Ee
 by_cases h:i∈bK B
 ·rw[D6 h]at hb;have hr:=ak_0 (n + w) m hm;have e0:Cz ["Living"] "modulus" (Aa 0) [none,some (.dic (bD B)),some (.int l1),some (.int l2),none,some (.int (i:Int)),some (.int n),some (.int w)]=.no:=rfl
  simp![An,Sl.any,Sl.pub,v_4,Dq,Dv,hb,if_true,e0,e2,Fz,hr,if_pos h,if_pos hl,E9]
 ·rw[C1 h]at hb
  simp![An,Sl.any,Sl.pub,Dq,Dv,hb,if_true,if_neg h,if_pos hl,E9]
end
section
variable{p s m l1 l2:Int}{T:List Int}{kds:List (Af×D)}{B:Bs}
def bx_2{i:Nat}{n:Int}(h:T[i]? =some n):(Ei T (bK B) p m l1 l2).take (i + 1)=(Ei T (bK B) p m l1 l2).take i ++ [if i∈bK B then(n + if(i:Int) < p then l1 else l2) % m else n]:=by
 rw[U7,ao_3,h];rfl
def cw_0(hm:0 < m)(hT:T.length<=1000):d_9 (Al p s m T kds) [.dic (bD B),.int l1,.int l2]=.ok .non (Al p s m (Ei T (bK B) p m l1 l2) kds):=by
 let I:Nat->SE->Prop:=λi Δ=>∃a5 a6 a7:Sl,Δ= [.lt (Al p s m T kds),.sh (.dic (bD B)),.sh (.int l1),.sh (.int l2),.ow (.lst (((Ei T (bK B) p m l1 l2).take i).map .int)),a5,a6,a7]
 obtain⟨Δ',e,a5,a6,a7,rfl⟩:=s_1 (Gi 5 6) j_8 I (ds:=s_8 0 (T.map .int)) (Δ:=[.lt (Al p s m T kds),.sh (.dic (bD B)),.sh (.int l1),.sh (.int l2),.ow (.lst []),.no,.no,.no]) ⟨_,_,_,rfl⟩
  (λi d Δ hd ⟨a5,a6,a7,e⟩=>by
   subst e;obtain⟨d',h1,h2⟩:=ac_7 hd;rw[A8]at h1;cases he:T[i]? with
   |none=>rw[he]at h1;cases h1
   |some n=>
    rw[he]at h1;cases h1;rw[S5]at h2;subst h2;refine⟨_,rfl,_,.inl (ck_4 (n:=n) hm ?_ a7),.sh (.int (i:Int)),.sh (.int n),.sh (.int (if(i:Int) < p then l1 else l2)), ?_⟩
    ·rw[V3,s_3];omega
    ·rw[bx_2 he])
 rw[ac_8,A3,<-s_3 T (bK B) p m l1 l2,S6]at e;have q1:br_1 (Dl [0] (Cz ["Living"] "listed" (Aa 0))) (Gi 5 6) j_8 [.lt (Al p s m T kds),.sh (.dic (bD B)),.sh (.int l1),.sh (.int l2),.ow (.lst []),.no,.no,.no]=.nx [.lt (Al p s m T kds),.sh (.dic (bD B)),.sh (.int l1),.sh (.int l2),.ow (.lst ((Ei T (bK B) p m l1 l2).map .int)),a5,a6,a7]:=by
  unfold br_1;rw[ad_9 (w:=.sh (.lst (T.map .int))) (fld rfl rfl) (by show Fa (.lst (T.map .int))=true;simp only[Fa,ag_9])];exact e
 have q2:bq_8 0 ["Living"] "listed" [4] (Aa 4) [.lt (Al p s m T kds),.sh (.dic (bD B)),.sh (.int l1),.sh (.int l2),.ow (.lst ((Ei T (bK B) p m l1 l2).map .int)),a5,a6,a7]=.nx [.lt (Al p s m (Ei T (bK B) p m l1 l2) kds),.sh (.dic (bD B)),.sh (.int l1),.sh (.int l2),.sh (.lst ((Ei T (bK B) p m l1 l2).map .int)),a5,a6,a7]:=by
  have hc:lN.contains ("listed" :Str)=true:=by decide +kernel
  have hg:gsome [4] [.lt (Al p s m T kds),.sh (.dic (bD B)),.sh (.int l1),.sh (.int l2),.ow (.lst ((Ei T (bK B) p m l1 l2).map .int)),a5,a6,a7]= [.lt (Al p s m T kds),.sh (.dic (bD B)),.sh (.int l1),.sh (.int l2),.sh (.lst ((Ei T (bK B) p m l1 l2).map .int)),a5,a6,a7]:=rfl;have hb:(([.lt (Al p s m T kds),.sh (.dic (bD B)),.sh (.int l1),.sh (.int l2),.sh (.lst ((Ei T (bK B) p m l1 l2).map .int)),a5,a6,a7]:SE)[0]?).bind Sl.tree=some (Al p s m T kds,true):=rfl;have hv:Aa 4 (Aw [.lt (Al p s m T kds),.sh (.dic (bD B)),.sh (.int l1),.sh (.int l2),.sh (.lst ((Ei T (bK B) p m l1 l2).map .int)),a5,a6,a7])=.ok (.sh (.lst ((Ei T (bK B) p m l1 l2).map .int))):=rfl;unfold bq_8;rw[hg,hb,hv];have hn:lN.length < 1000:=by decide
  unfold Al;simp only[ax_8,hc,hn,Z6,if_true,W.d_sh,dq_1];rfl
 unfold d_9 w_3 ab_8;rw[show ab_3 8 (Al p s m T kds) [.dic (bD B),.int l1,.int l2]= [.lt (Al p s m T kds),.sh (.dic (bD B)),.sh (.int l1),.sh (.int l2),.no,.no,.no,.no] from rfl];have q0:Ak 4 [] (By Ac) [.lt (Al p s m T kds),.sh (.dic (bD B)),.sh (.int l1),.sh (.int l2),.no,.no,.no,.no]=.nx [.lt (Al p s m T kds),.sh (.dic (bD B)),.sh (.int l1),.sh (.int l2),.ow (.lst []),.no,.no,.no]:=rfl;rw[Be q0,Be q1,q2]
end
def ah_1:Xn:=⟨"Stuck",[],[]⟩
def lenB(B:Bs):(bD B).length=B.length:=by unfold bD;rw[A3]
section
variable{p s m l:Int}{T:List Int}{kds wk:List (Af×D)}{N:Nat->Nb}{a b:Nat}
def ce_2(p s m l:Int)(T:List Int)(kds:List (Af×D))(b:Nat)(B1 B2:Bs):RR:=
 if b∈bK B1 then .ex ah_1 (Al p s m T kds) else if B1.length<=B2.length then .ok (.int (B1.length:Int)) (Al p s m (Ei T (bK B1) p m l (-l)) kds) else .ok (.int (B2.length:Int)) (Al p s m (Ei T (bK B2) p m (-l) l) kds)
def dg_3{B1 B2:Bs}(z:Szs p s m T)(f1:i_5 [.int (a:Int),.dic wk]=.ok (.ow (.dic (bD B1))))(f2:i_5 [.int (b:Int),.dic wk]=.ok (.ow (.dic (bD B2)))):h_9 (Al p s m T kds) [.tup (zi [a,b]),.int l,.dic wk]=ce_2 p s m l T kds b B1 B2:=by
 have hm:0 < m:=by have:=z.m0;omega
 have hT:T.length<=1000:=by have:=z.tl;have:=z.p1;omega
 have i0:Bf (.tup (zi [a,b])) (.int 0)=.ok (.sh (.int (a:Int))):=rfl;have i1:Bf (.tup (zi [a,b])) (.int 1)=.ok (.sh (.int (b:Int))):=rfl;have k1:=at_0 (n:=3) (p:=p) (s:=s) (m:=m) (T:=T) (kds:=kds) (M:=d_9) (ga:=Ce (Aa 4) (Ce (Aa 2) (Ce (eNeg (Aa 2)) Ex))) (Δ:=[.sh (.tup (zi [a,b])),.sh (.int l),.sh (.dic wk),.sh (.dic (bD B1)),.ow (.dic (bD B2))]) (ds:=[.dic (bD B1),.int l,.int (-l)]) (mn:= "shift") nofun rfl rfl;have k2:=at_0 (n:=3) (p:=p) (s:=s) (m:=m) (T:=T) (kds:=kds) (M:=d_9) (ga:=Ce (Aa 5) (Ce (eNeg (Aa 2)) (Ce (Aa 2) Ex))) (Δ:=[.sh (.tup (zi [a,b])),.sh (.int l),.sh (.dic wk),.ow (.dic (bD B1)),.sh (.dic (bD B2))]) (ds:=[.dic (bD B2),.int (-l),.int l]) (mn:= "shift") nofun rfl rfl;rw[cw_0 hm hT]at k1 k2;unfold h_9 w_3 af_2 ce_2;generalize Al p s m (Ei T (bK B1) p m l (-l)) kds=t1 at k1⊢;generalize Al p s m (Ei T (bK B2) p m (-l) l) kds=t2 at k2⊢;generalize Al p s m T kds=t at k1 k2⊢;rw[show ab_3 6 t [.tup (zi [a,b]),.int l,.dic wk]= [.lt t,.sh (.tup (zi [a,b])),.sh (.int l),.sh (.dic wk),.no,.no] from rfl];have q1:Ak 4 [1,3] (Bi 2 i_5 #v[Ae Bf (Aa 1) (eC (.int 0)),3]) [.lt t,.sh (.tup (zi [a,b])),.sh (.int l),.sh (.dic wk),.no,.no]=.nx [.lt t,.sh (.tup (zi [a,b])),.sh (.int l),.sh (.dic wk),.ow (.dic (bD B1)),.no]:=by
  simp![An,Sl.any,Sl.pub,Sl.give,i0,f1]
 have q2:Ak 5 [1,3] (Bi 2 i_5 #v[Ae Bf (Aa 1) (eC (.int 1)),3]) [.lt t,.sh (.tup (zi [a,b])),.sh (.int l),.sh (.dic wk),.ow (.dic (bD B1)),.no]=.nx [.lt t,.sh (.tup (zi [a,b])),.sh (.int l),.sh (.dic wk),.ow (.dic (bD B1)),.ow (.dic (bD B2))]:=by
  simp![An,Sl.any,Sl.pub,Sl.give,i1,f2]
 rw[Be q1,Be q2];have hb:=ao_2 B1 b
 by_cases h:b∈bK B1
 ·rw[D6 h]at hb;have q3:Bl [1,4] (Ah (Ae (Dq false) (Ae Bf (Aa 1) (eC (.int 1))) (Aa 4))) (ad_1 "Stuck") Ar [.lt t,.sh (.tup (zi [a,b])),.sh (.int l),.sh (.dic wk),.ow (.dic (bD B1)),.ow (.dic (bD B2))]=.ex ah_1 [.lt t,.sh (.tup (zi [a,b])),.sh (.int l),.sh (.dic wk),.ow (.dic (bD B1)),.ow (.dic (bD B2))]:=by
   simp![An,Sl.any,i1,Dq,Dv,hb,if_true]
   rfl
  rw[if_pos h];unfold Ag;rw[q3]
 ·rw[C1 h]at hb;have q3:Bl [1,4] (Ah (Ae (Dq false) (Ae Bf (Aa 1) (eC (.int 1))) (Aa 4))) (ad_1 "Stuck") Ar [.lt t,.sh (.tup (zi [a,b])),.sh (.int l),.sh (.dic wk),.ow (.dic (bD B1)),.ow (.dic (bD B2))]=.nx [.lt t,.sh (.tup (zi [a,b])),.sh (.int l),.sh (.dic wk),.ow (.dic (bD B1)),.ow (.dic (bD B2))]:=by
   simp![An,Sl.any,i1,Dq,Dv,hb,if_true]
  rw[if_neg h,Be q3];have lk:∀B,Cw [.dic (bD B)]=.ok (.sh (.int (B.length:Int))):=λB=>by
   have:=lenB B;show R.ok (W.sh (.int ((bD B).length:Int)))=_;rw[this]
  by_cases hl:B1.length<=B2.length
  ·have q4:∀g1 g2:FS,Bl [4,5] (Ah (Ae leD (At Cw #v[4]) (At Cw #v[5]))) g1 g2 [.lt t,.sh (.tup (zi [a,b])),.sh (.int l),.sh (.dic wk),.ow (.dic (bD B1)),.ow (.dic (bD B2))]=g1 [.lt t,.sh (.tup (zi [a,b])),.sh (.int l),.sh (.dic wk),.ow (.dic (bD B1)),.ow (.dic (bD B2))]:=λg1 g2=>by
    simp![An,Sl.any,lk,av_6,show(B1.length:Int)<=(B2.length:Int) by omega]
   rw[if_pos hl];unfold Ag;rw[q4];have q5:t_3 (Ge [2,4] (r_0 0 3 "shift" "Living" d_9 (Ce (Aa 4) (Ce (Aa 2) (Ce (eNeg (Aa 2)) Ex))))) [.lt t,.sh (.tup (zi [a,b])),.sh (.int l),.sh (.dic wk),.ow (.dic (bD B1)),.ow (.dic (bD B2))]=.nx [.lt t1,.sh (.tup (zi [a,b])),.sh (.int l),.sh (.dic wk),.sh (.dic (bD B1)),.ow (.dic (bD B2))]:=by
    unfold t_3 Ge;rw[show gsome [2,4] [.lt t,.sh (.tup (zi [a,b])),.sh (.int l),.sh (.dic wk),.ow (.dic (bD B1)),.ow (.dic (bD B2))]= [.lt t,.sh (.tup (zi [a,b])),.sh (.int l),.sh (.dic wk),.sh (.dic (bD B1)),.ow (.dic (bD B2))] from rfl,k1];rfl
   rw[q5];have q6:o_2 (w_4 [4] (At Cw #v[4])) [.lt t1,.sh (.tup (zi [a,b])),.sh (.int l),.sh (.dic wk),.sh (.dic (bD B1)),.ow (.dic (bD B2))]=.rv (.int (B1.length:Int)) [.lt t1,.sh (.tup (zi [a,b])),.sh (.int l),.sh (.dic wk),.sh (.dic (bD B1)),.ow (.dic (bD B2))]:=by
    unfold o_2 w_4
    simp![An,Sl.any,Sl.pub,lk]
   simp only[q6]
  ·have q4:∀g1 g2:FS,Bl [4,5] (Ah (Ae leD (At Cw #v[4]) (At Cw #v[5]))) g1 g2 [.lt t,.sh (.tup (zi [a,b])),.sh (.int l),.sh (.dic wk),.ow (.dic (bD B1)),.ow (.dic (bD B2))]=g2 [.lt t,.sh (.tup (zi [a,b])),.sh (.int l),.sh (.dic wk),.ow (.dic (bD B1)),.ow (.dic (bD B2))]:=λg1 g2=>by
    simp![An,Sl.any,lk,av_6,show¬(B1.length:Int)<=(B2.length:Int) by omega]
   rw[if_neg hl];have q5:t_3 (Ge [2,5] (r_0 0 3 "shift" "Living" d_9 (Ce (Aa 5) (Ce (eNeg (Aa 2)) (Ce (Aa 2) Ex))))) [.lt t,.sh (.tup (zi [a,b])),.sh (.int l),.sh (.dic wk),.ow (.dic (bD B1)),.ow (.dic (bD B2))]=.nx [.lt t2,.sh (.tup (zi [a,b])),.sh (.int l),.sh (.dic wk),.ow (.dic (bD B1)),.sh (.dic (bD B2))]:=by
    unfold t_3 Ge;rw[show gsome [2,5] [.lt t,.sh (.tup (zi [a,b])),.sh (.int l),.sh (.dic wk),.ow (.dic (bD B1)),.ow (.dic (bD B2))]= [.lt t,.sh (.tup (zi [a,b])),.sh (.int l),.sh (.dic wk),.ow (.dic (bD B1)),.sh (.dic (bD B2))] from rfl,k2];rfl
   have q6:o_2 (w_4 [5] (At Cw #v[5])) [.lt t2,.sh (.tup (zi [a,b])),.sh (.int l),.sh (.dic wk),.ow (.dic (bD B1)),.sh (.dic (bD B2))]=.rv (.int (B2.length:Int)) [.lt t2,.sh (.tup (zi [a,b])),.sh (.int l),.sh (.dic wk),.ow (.dic (bD B1)),.sh (.dic (bD B2))]:=by
    unfold o_2 w_4
    simp![An,Sl.any,Sl.pub,lk]
   unfold Ag;rw[q4];simp only[Ar,q5,q6]
end
structure Srch(N:Nat->Nb)(s M:Nat)(B:Bs):Prop where
 g:Grown N s B
 cl:∀q∈bK B,∀x∈N q,x.2∈bK B
 le:B.length<=M
section
variable{p s m:Int}{T:List Int}{kds:List (Af×D)}{ks:List D}{d:D}{v:Int}
def o_4(T:List Int)(d:D)(s p m v:Int):Int:=v - Ck T [pA d s p,pB d s p] % m
def Dz(p s m v:Int)(T:List Int)(kds:List (Af×D))(d:D)(B1 B2:Bs):RR:=
 if o_4 T d s p m v=0 then .ok (.int 0) (Al p s m T (Di kds (Bg d) (.int v)))
 else if pB d s p∈bK B1 then .ex ah_1 (Al p s m T kds)
 else if B1.length<=B2.length then .ok (.int (B1.length:Int)) (Al p s m (Ei T (bK B1) p m (o_4 T d s p m v) (-o_4 T d s p m v)) (Di kds (Bg d) (.int v)))
 else .ok (.int (B2.length:Int)) (Al p s m (Ei T (bK B2) p m (-o_4 T d s p m v) (o_4 T d s p m v)) (Di kds (Bg d) (.int v)))
def ae_2{E:List Ed}{q:Nat}{x:D×Nat}(h:x∈Bv E q):∃e∈E,(e.2.1=q/\x=(e.1,e.2.2))\/(e.2.2=q/\x=(e.1,e.2.1)):=by
 unfold Bv at h;obtain⟨e,he,hx⟩:=Q3.mp h;refine⟨e,he, ?_⟩;rcases F2.mp hx with hx|hx
 ·split at hx
  ·rename_i hq;exact .inl ⟨hq,C9.mp hx⟩
  ·cases hx
 ·split at hx
  ·rename_i hq;exact .inr ⟨hq,C9.mp hx⟩
  ·cases hx
def cw_1(z:Szs p s m T)(h:KOk kds ks)(hd:Bq d)(v0:0<=v)(v1:v < m):∃B1 B2,Srch (Bv (Cg ks d s p)) (pA d s p) (2 * p).toNat B1/\Srch (Bv (Cg ks d s p)) (pB d s p) (2 * p).toNat B2/\i_8 (Al p s m T kds) [d,.int v]=Dz p s m v T kds d B1 B2:=by
 have p0:=z.p0;have p1:=z.p1;have a:=t_9 d s p0;have b:=z_7 d s p0;obtain⟨w,wk,ew,pw,dw,wd⟩:=ax_9 z h hd;have hN:∀q,∀x∈Bv (Cg ks d s p) q,x.2 < (2 * p).toNat:=λq x hx=>by
  obtain⟨e,he,hx⟩:=ae_2 hx;obtain⟨y,hy,rfl⟩:=F7.mp he;have a:=t_9 y s p0;have b:=z_7 y s p0;rcases hx with⟨_,rfl⟩|⟨_,rfl⟩
  ·show pB y s p < _;omega
  ·show pA y s p < _;omega
 have hn:∀q,(Bv (Cg ks d s p) q).length<=1000:=λq=>by
  have h1:=bk_6 (Cg ks d s p) q;have h2:(Cg ks d s p).length<=ks.length:=by unfold Cg;rw[A3];exact L4 _ _
  have:=h.len;omega
 obtain⟨B1,f1,g1,c1,l1⟩:=ay_3 (s:=pA d s p) wd (M:=(2 * p).toNat) () hN hn ();obtain⟨B2,f2,g2,c2,l2⟩:=ay_3 (s:=pB d s p) wd (M:=(2 * p).toNat) () hN hn ();refine⟨B1,B2,⟨g1,c1,l1⟩,⟨g2,c2,l2⟩, ?_⟩;have hp:=ad_8 (m:=m) (T:=T) (kds:=kds) hd z.s0 z.s1 z.p0 (by have:=z.p1;omega);rw[z_0 d s p0]at hp;have e2:Bo "places" 1 [("Living",b_6)] (Aa 0) #v[1] [some (Bm p s m T kds),some d,some (.int v),none,none,none]=.ok (.sh (.tup (zi [pA d s p,pB d s p]))):=(Fp (w:=.sh d) rfl rfl nofun).trans hp;have e3:Cz ["Living"] "modulus" (Aa 0) [some (Bm p s m T kds),some d,some (.int v),some (.tup (zi [pA d s p,pB d s p])),none,none]=.ok (.sh (.int m)):=fld rfl rfl;have e4:Bo "value" 1 [("Living",b_8)] (Aa 0) #v[1] [some (Bm p s m T kds),some d,some (.int v),some (.tup (zi [pA d s p,pB d s p])),none,none]=.ok (.sh (.int (Ck T [pA d s p,pB d s p] % m))):=(Fp (w:=.sh d) rfl rfl nofun).trans (ak_1 z hd);have e5:Bo "ways_without" 1 [("Living",b_1)] (Aa 0) #v[1] [some (Bm p s m T kds),some d,some (.int v),some (.tup (zi [pA d s p,pB d s p])),some (.int (o_4 T d s p m v)),some (.int 0)]=.ok w:=(Fp (w:=.sh d) rfl rfl nofun).trans ew;have yb:0<=v/\v < m:=⟨v0,v1⟩;unfold i_8 w_3 aj_9;rw[show ab_3 6 (Al p s m T kds) [d,.int v]= [.lt (Al p s m T kds),.sh d,.sh (.int v),.no,.no,.no] from rfl];have q1:Dr 3 (Dl [0] (Bo "places" 1 [("Living",b_6)] (Aa 0) #v[1])) [.lt (Al p s m T kds),.sh d,.sh (.int v),.no,.no,.no]=.nx [.lt (Al p s m T kds),.sh d,.sh (.int v),.sh (.tup (zi [pA d s p,pB d s p])),.no,.no]:=by
  unfold Dr;rw[ad_9 e2 rfl];rfl
 have q2:Bl [0,2] (Cd (Ay (Bi 2 j_1 #v[2,Cz ["Living"] "modulus" (Aa 0)]))) (af_8 "NoValue" "at" [] (eC (.int 0))) Ar [.lt (Al p s m T kds),.sh d,.sh (.int v),.sh (.tup (zi [pA d s p,pB d s p])),.no,.no]=.nx [.lt (Al p s m T kds),.sh d,.sh (.int v),.sh (.tup (zi [pA d s p,pB d s p])),.no,.no]:=by
  simp![An,Sl.any,v_4,e3,cu_7,yb,Cd,af_8,Z6,W1]
 have q3:Dr 4 (Dl [0] (Ae Ds (Aa 2) (Bo "value" 1 [("Living",b_8)] (Aa 0) #v[1]))) [.lt (Al p s m T kds),.sh d,.sh (.int v),.sh (.tup (zi [pA d s p,pB d s p])),.no,.no]=.nx [.lt (Al p s m T kds),.sh d,.sh (.int v),.sh (.tup (zi [pA d s p,pB d s p])),.sh (.int (o_4 T d s p m v)),.no]:=by
  unfold Dr;rw[ad_9 (w:=.sh (.int (o_4 T d s p m v))) ?_ rfl]
  ·rfl
  ·simp![An,Sl.any,Sl.pub,e4,v_0,o_4]
 have q4:Ak 5 [] (eC (.int 0)) [.lt (Al p s m T kds),.sh d,.sh (.int v),.sh (.tup (zi [pA d s p,pB d s p])),.sh (.int (o_4 T d s p m v)),.no]=.nx [.lt (Al p s m T kds),.sh d,.sh (.int v),.sh (.tup (zi [pA d s p,pB d s p])),.sh (.int (o_4 T d s p m v)),.sh (.int 0)]:=rfl;rw[Be q1,Be q2,Be q3,Be q4];have fin:∀(T':List Int) (c:Int),(match Ag (bd_5 0 ["Living"] "by_key" (Aa 1) (Aa 2)) (o_2 (w_4 [5] (Aa 5))) [.lt (Al p s m T' kds),.sh d,.sh (.int v),.sh (.tup (zi [pA d s p,pB d s p])),.sh (.int (o_4 T d s p m v)),.sh (.int c)] with
   | .nx (.lt t'::_)=>RR.ok .non t'
   | .rv d (.lt t'::_)=> .ok d t'
   | .ex x (.lt t'::_)=> .ex x t'
   |_=> .no)=.ok (.int c) (Al p s m T' (Di kds (Bg d) (.int v))):=λT' c=>by
  rw[Be (fput (k:=Bg d) (w:=.sh d) (v:=.sh (.int v)) rfl (q_1 hd) rfl (by rw[h.length];have:=h.len;omega))];rfl
 have ne:Dt (.int (o_4 T d s p m v)) (.int 0)=.ok (.sh (.bl (!decide (o_4 T d s p m v=0)))):=y_4 _ _;unfold Dz;clear q1 q2 q3 q4 e4;generalize o_4 T d s p m v=l at e5 fin ne⊢
 by_cases hz:l=0
 ·have q5:∀g:FS,Bl [4] (Ah (Ae Dt (Aa 4) (eC (.int 0)))) g Ar [.lt (Al p s m T kds),.sh d,.sh (.int v),.sh (.tup (zi [pA d s p,pB d s p])),.sh (.int (l)),.sh (.int 0)]=.nx [.lt (Al p s m T kds),.sh d,.sh (.int v),.sh (.tup (zi [pA d s p,pB d s p])),.sh (.int (l)),.sh (.int 0)]:=λg=>by
   subst hz
   simp![An,Sl.any,ne]
  rw[Be (q5 _),if_pos hz];exact fin _ _
 ·have q5:∀g:FS,Bl [4] (Ah (Ae Dt (Aa 4) (eC (.int 0)))) g Ar [.lt (Al p s m T kds),.sh d,.sh (.int v),.sh (.tup (zi [pA d s p,pB d s p])),.sh (.int (l)),.sh (.int 0)]=g [.lt (Al p s m T kds),.sh d,.sh (.int v),.sh (.tup (zi [pA d s p,pB d s p])),.sh (.int (l)),.sh (.int 0)]:=λg=>by
   simp![An,Sl.any,ne,C1 hz]
  have mc:ap_3 [0] (Bo "ways_without" 1 [("Living",b_1)] (Aa 0) #v[1]) Ex [.lt (Al p s m T kds),.sh d,.sh (.int v),.sh (.tup (zi [pA d s p,pB d s p])),.sh (.int (l)),.sh (.int 0)]=.ok [.dic wk]:=by
   unfold ap_3;rw[be_2,if_pos rfl,di_9,v_4];rw[show Aw [.sh d,.sh (.int v),.sh (.tup (zi [pA d s p,pB d s p])),.sh (.int l),.sh (.int 0)]= [some d,some (.int v),some (.tup (zi [pA d s p,pB d s p])),some (.int l),some (.int 0)] from rfl];rw[e5];simp only[pw,if_true,Ex,dw]
  have mg:Ce (Aa 3) (Ce (Aa 4) (ap_3 [0] (Bo "ways_without" 1 [("Living",b_1)] (Aa 0) #v[1]) Ex)) [.lt (Al p s m T kds),.sh d,.sh (.int v),.sh (.tup (zi [pA d s p,pB d s p])),.sh (.int (l)),.sh (.int 0)]=.ok [.tup (zi [pA d s p,pB d s p]),.int (l),.dic wk]:=by
   show(match(match ap_3 [0] (Bo "ways_without" 1 [("Living",b_1)] (Aa 0) #v[1]) Ex [.lt (Al p s m T kds),.sh d,.sh (.int v),.sh (.tup (zi [pA d s p,pB d s p])),.sh (.int l),.sh (.int 0)] with| .ok ds=>R.ok (D.int l::ds)| .ex x=> .ex x| .no=> .no) with| .ok ds=>R.ok (D.tup (zi [pA d s p,pB d s p])::ds)| .ex x=> .ex x| .no=> .no)=_;rw[mc]
  have k:=at_0 (n:=3) (M:=h_9) (mn:= "mend") nofun mg rfl;rw[dg_3 z f1 f2]at k;have q6:Dr 5 (Ge [1,3,4] (r_0 0 3 "mend" "Living" h_9 (Ce (Aa 3) (Ce (Aa 4) (ap_3 [0] (Bo "ways_without" 1 [("Living",b_1)] (Aa 0) #v[1]) Ex))))) [.lt (Al p s m T kds),.sh d,.sh (.int v),.sh (.tup (zi [pA d s p,pB d s p])),.sh (.int (l)),.sh (.int 0)]=(match goR 0 true [.lt (Al p s m T kds),.sh d,.sh (.int v),.sh (.tup (zi [pA d s p,pB d s p])),.sh (.int (l)),.sh (.int 0)] (ce_2 p s m (l) T kds (pB d s p) B1 B2) with
   | .ok d Δ1=>Fl.nx (Δ1.set 5 (.sh d))
   | .ex x Δ1=> .ex x Δ1
   | .no=> .no):=by
   unfold Dr Ge;rw[show gsome [1,3,4] [.lt (Al p s m T kds),.sh d,.sh (.int v),.sh (.tup (zi [pA d s p,pB d s p])),.sh (.int (l)),.sh (.int 0)]= [.lt (Al p s m T kds),.sh d,.sh (.int v),.sh (.tup (zi [pA d s p,pB d s p])),.sh (.int (l)),.sh (.int 0)] from rfl,k] <;> (generalize goR 0 true _ _=r;cases r <;> rfl)
  rw[if_neg hz];unfold ce_2 at q6
  by_cases hb:pB d s p∈bK B1
  ·rw[if_pos hb]at q6⊢;unfold Ag;rw[q5,q6];rfl
  ·rw[if_neg hb]at q6⊢
   by_cases hl:B1.length<=B2.length
   ·rw[if_pos hl]at q6⊢;rw[Be ((q5 _).trans q6)];exact fin _ _
   ·rw[if_neg hl]at q6⊢;rw[Be ((q5 _).trans q6)];exact fin _ _
end
section
variable{kds:List (Af×D)}{ks:List D}{d:D}{v:Int}
def KOk.has(h:KOk kds ks)(hd:Bq d):Db kds (Bg d)=true↔d∈ks:=by
 constructor
 ·intro e;unfold Db at e;obtain⟨w,e⟩:=L6.mp e;have:Bg d∈kds.map (·.1):=F7.mpr ⟨_,be_6 e,rfl⟩;rw[h.eq]at this;obtain⟨x,hx,e⟩:=F7.mp this
  rwa[<-ad_7 (h.key x hx) hd e]
 ·intro hm;obtain⟨w,e,_⟩:=bk_5 (kds:=kds) (k:=Bg d) (by rw[h.eq];exact W9 hm);unfold Db;rw[e];rfl
def cw_2(k:Af)(w:D)(hh:Db kds k=true):(Di kds k w).map (·.1)=kds.map (·.1):=by
 unfold Di;rw[bk_7,hh,if_pos rfl,L8];refine List.map_congr_left λq _=> ?_;show(if q.1=k then(q.1,w) else q).1=q.1
 split <;> rfl
def dg_4{k:Af}{w:D}{q:Af×D}(hq:q∈Di kds k w):q∈kds\/q.2=w:=by
 unfold Di at hq
 split at hq
 ·obtain⟨y,hy,e⟩:=F7.mp hq
  split at e
  ·subst e;exact .inr rfl
  ·subst e;exact .inl hy
 ·rcases F2.mp hq with h|h
  ·exact .inl h
  ·rw[C9.mp h];exact .inr rfl
def KOk.put(h:KOk kds ks)(hd:Bq d)(hl:ks.length < 40):KOk (Di kds (Bg d) (.int v)) (if Db kds (Bg d)=true then ks else ks ++ [d]):=by
 have hv:∀q∈Di kds (Bg d) (.int v),∃n:Int,q.2=.int n:=λq hq=>by
  rcases dg_4 hq with h'|h'
  ·exact h.val q h'
  ·exact⟨v,h'⟩
 cases hh:Db kds (Bg d) with
 |true=>
  rw[if_pos rfl];exact⟨h.key,h.nd,(cw_2 _ _ hh).trans h.eq,hv,h.len⟩
 |false=>
  rw[if_neg A6];have hn:d∉ks:=λhm=>by rw[(h.has hd).mpr hm]at hh;cases hh
  refine⟨λk hk=> ?_, ?_, ?_,hv,by rw[B7];simp only[A9,F9];omega⟩
  ·rcases F2.mp hk with h'|h'
   ·exact h.key k h'
   ·rw[C9.mp h'];exact hd
  ·refine List.nodup_append.mpr ⟨h.nd,by simp,λa ha b hb e=> ?_⟩;rw[C9.mp hb]at e;subst e;exact hn ha
  ·rw[ay_1 hh,E9,E9,h.eq];rfl
def KOk.drop(h:KOk kds ks):KOk (Eo kds (Bg d)) (ks.filter λx=>decide (Bg x≠Bg d)):=by
 refine⟨λk hk=>h.key k (O7.mp hk).1,h.nd.filter _, ?_,λq hq=>h.val q (O7.mp hq).1,D4 (L4 _ _) h.len⟩;have e:=K5 (List.filter λx=>decide (x≠Bg d)) h.eq;rw[List.filter_map,List.filter_map]at e;exact e
end
section
variable{p s m:Int}{T:List Int}{kds:List (Af×D)}{ks:List D}{d:D}{v:Int}
def putS:RR->RR
 | .ex _ t=> .ok (.str "stuck") t
 |r=>r
def bx_3{t:Tn}{r:RR}(e:r_0 0 2 "put" "Living" i_8 (Ce (Aa 1) (Ce (Aa 2) Ex)) [.lt t,.sh d,.sh (.int v),.no]=goR 0 true [.lt t,.sh d,.sh (.int v),.no] r)(hr:(∃c t',r=.ok (.int c) t')\/∃t',r=.ex ah_1 t'):m_1 t [d,.int v]=putS r:=by
 unfold m_1 w_3 be_0;rw[show ab_3 4 t [d,.int v]= [.lt t,.sh d,.sh (.int v),.no] from rfl];have q0:p_9 [.lt t,.sh d,.sh (.int v),.no]=(match goR 0 true [.lt t,.sh d,.sh (.int v),.no] r with
   | .ok d Δ1=>Fl.nx (Δ1.set 3 (.sh d))
   | .ex x Δ1=> .ex x Δ1
   | .no=> .no):=by
  unfold p_9 Dr Ge;rw[show gsome [1,2] [.lt t,.sh d,.sh (.int v),.no]= [.lt t,.sh d,.sh (.int v),.no] from rfl,e] <;> (generalize goR 0 true _ _=r;cases r <;> rfl)
 rcases hr with⟨c,t',rfl⟩|⟨t',rfl⟩
 ·have q1:av_8 p_9 [⟨none, L51,ac_1⟩] [.lt t,.sh d,.sh (.int v),.no]=.nx [.lt t',.sh d,.sh (.int v),.sh (.int c)]:=by
   unfold av_8;rw[q0];rfl
  rw[Be q1];rfl
 ·have q1:av_8 p_9 [⟨none, L51,ac_1⟩] [.lt t,.sh d,.sh (.int v),.no]=.nx [.lt t',.sh d,.sh (.int v),.sh (.str "stuck")]:=by
   unfold av_8;rw[q0];rfl
  rw[Be q1];rfl
def dg_5(B1 B2:Bs):(∃(c:Int) (T':List Int),T'.length=T.length/\Dz p s m v T kds d B1 B2=.ok (.int c) (Al p s m T' (Di kds (Bg d) (.int v))))\/Dz p s m v T kds d B1 B2=.ex ah_1 (Al p s m T kds):=by
 unfold Dz
 split
 ·exact .inl ⟨_,_,rfl,rfl⟩
 ·split
  ·exact .inr rfl
  ·split
   ·exact .inl ⟨_,_,s_3 _ _ _ _ _ _,rfl⟩
   ·exact .inl ⟨_,_,s_3 _ _ _ _ _ _,rfl⟩
def bx_4(z:Szs p s m T)(h:KOk kds ks)(hd:Bq d)(v0:0<=v)(v1:v < m):∃B1 B2,Srch (Bv (Cg ks d s p)) (pA d s p) (2 * p).toNat B1/\Srch (Bv (Cg ks d s p)) (pB d s p) (2 * p).toNat B2/\m_1 (Al p s m T kds) [d,.int v]=putS (Dz p s m v T kds d B1 B2):=by
 obtain⟨B1,B2,s1,s2,e⟩:=cw_1 z h hd v0 v1;refine⟨B1,B2,s1,s2,bx_3 ?_ ?_⟩
 ·have:=at_0 (n:=2) (p:=p) (s:=s) (m:=m) (T:=T) (kds:=kds) (M:=i_8) (ga:=Ce (Aa 1) (Ce (Aa 2) Ex)) (Δ:=[.sh d,.sh (.int v),.no]) (ds:=[d,.int v]) (mn:= "put") nofun rfl rfl;rw[e]at this;exact this
 ·rcases dg_5 (p:=p) (s:=s) (m:=m) (T:=T) (kds:=kds) (d:=d) (v:=v) B1 B2 with⟨c,T',_,e⟩|e
  ·exact .inl ⟨c,_,e⟩
  ·exact .inr ⟨_,e⟩
def dg_6(ns:List Int)(k:Int)(hk0:0<=k)(hk1:k<=100)(hn:ns.length<=300)(h:KOk kds ks)(m0:2<=m)(m1:m<=1000000001):∃(b:Int) (d:D) (v:Int),l_1 [.lst (ns.map .int),.int 3,.int k,.dic kds,.tup [.int p,.int s,.int m]]=.ok (.sh (.tup [.int b,d,.int v]))/\(b=0\/b=1)/\Bq d/\0<=v/\v < m:=by
 have mx:0 < max 1 ((ns.length:Int) - 3):=by omega
 have r0:=K3 k (show max 1 ((ns.length:Int) - 3)≠0 by omega);have r1:=J6 k mx;obtain⟨c0,er⟩:=dp_9 ns (3 + k % max 1 ((ns.length:Int) - 3)) () ();have ec:=as_8 ns 0 ⋯ ⋯;have q1:Ak 5 [0,1,2] (Bi 2 p_1 #v[0,Ae Ca (Aa 1) (Ae Bu (Aa 2) (At maxD #v[eC (.int 1),Ae Ds (At x_8 #v[0]) (Aa 1)]))]) (Ba 10 [.lst (ns.map .int),.int 3,.int k,.dic kds,.tup [.int p,.int s,.int m]])=.nx [.sh (.lst (ns.map .int)),.sh (.int 3),.sh (.int k),.sh (.dic kds),.sh (.tup [.int p,.int s,.int m]),.sh (.int c0),.no,.no,.no,.no]:=by
  simp![An,o_0,A3,v_0,cq_3,Cy mx,Fz,er]
 have q2:∃c:Int,Bl [0] (Ah (Ae Cm (Ae Bu (Bi 2 j_0 #v[0,eC (.int 0)]) (eC (.int 2))) (eC (.int 1)))) (Ak 5 [2,5] (Bi 2 g_5 #v[Ae Bu (Aa 5) (eC (.int 2147483647)),2])) Ar [.sh (.lst (ns.map .int)),.sh (.int 3),.sh (.int k),.sh (.dic kds),.sh (.tup [.int p,.int s,.int m]),.sh (.int c0),.no,.no,.no,.no]=.nx [.sh (.lst (ns.map .int)),.sh (.int 3),.sh (.int k),.sh (.dic kds),.sh (.tup [.int p,.int s,.int m]),.sh (.int c),.no,.no,.no,.no]:=by
  by_cases hz:aq_1 ns 0 % 2=1
  ·exact⟨mixZ (c0 % 2147483647) k,by simp![An,ec,Cy (show(0:Int) < 2 by decide),i_7,hz,W1,Cy (show(0:Int) < 2147483647 by decide),ag_5 _ k () ()]⟩
  ·exact⟨c0,by simp![An,ec,Cy (show(0:Int) < 2 by decide),i_7,hz,X1]⟩
 obtain⟨c,q2⟩:=q2;have ix2:Bf (.tup [.int p,.int s,.int m]) (.int 2)=.ok (.sh (.int m)):=rfl;have hm:0 < m:=by omega
 have dm:∀x:Int,Gg (.int x) (.int m)=.ok (.sh (.int (x / m))):=λx=>ab_2 hm ();obtain⟨kd,hkd,ekd⟩:=dq_0 (c / 8 / m);have w0:=K3 c (show(8:Int)≠0 by decide);have w1:=J6 c (show(0:Int) < 8 by decide);obtain⟨b,hb,eb⟩:=cd_4 (ds:=[.int 0,.int 0,.int 0,.int 0,.int 0,.int 0,.int 1,.int 1]) (i:=c % 8) w0 w1;have hb:b=.int 0\/b=.int 1:=by
  simp only[C6,S7,or_false]at hb;rcases hb with h|h|h|h|h|h|h|h <;> simp[h]
 have q6:∃k',Bq k'/\Bl [3,6] (Cj (Ah (Ae gtD (Aa 6) (eC (.int 4)))) (Ah (Ae br_3 (Aa 3) ai_6))) (Ak 9 [3,4,7] (Ae Bf (eKL (Aa 3)) (Ae Bu (Ae Gg (Aa 7) (Ae Bf (Aa 4) (eC (.int 2)))) (At Cw #v[3])))) Ar [.sh (.lst (ns.map .int)),.sh (.int 3),.sh (.int k),.sh (.dic kds),.sh (.tup [.int p,.int s,.int m]),.sh (.int c),.sh (.int (c % 8)),.sh (.int (c / 8)),.sh (.int (c / 8 % m)),.sh kd]=.nx [.sh (.lst (ns.map .int)),.sh (.int 3),.sh (.int k),.sh (.dic kds),.sh (.tup [.int p,.int s,.int m]),.sh (.int c),.sh (.int (c % 8)),.sh (.int (c / 8)),.sh (.int (c / 8 % m)),.sh k']:=by
  have ht:Cj (Ah (Ae gtD (Aa 6) (eC (.int 4)))) (Ah (Ae br_3 (Aa 3) ai_6)) [some (.lst (ns.map .int)),some (.int 3),some (.int k),some (.dic kds),some (.tup [.int p,.int s,.int m]),some (.int c),some (.int (c % 8)),some (.int (c / 8)),some (.int (c / 8 % m)),some kd]=.ok (decide (4 < c % 8) && !kds.isEmpty):=by
   have h1:br_3 (.dic kds) (.dic [])=.ok (.sh (.bl (!kds.isEmpty))):=rfl
   simp![Cj,Ah,Ae,Aa,eC,ai_6,An,h1,di_0]
   cases decide (4 < c % 8) <;> rfl
  by_cases hc:(decide (4 < c % 8) && !kds.isEmpty)=true
  ·have hne:0 < kds.length:=by
    cases kds with
    |nil=>simp at hc
    |cons a b=>simp
   have zk:=h.length;obtain⟨k',hm',ek⟩:=cd_4 (ds:=ks) (i:=c / 8 / m % (kds.length:Int)) (K3 _ ()) (by have:=J6 (c / 8 / m) (show(0:Int) < (kds.length:Int) by omega);omega);refine⟨k',h.key k' hm', ?_⟩;unfold Bl;rw[show Bj [.sh (.lst (ns.map .int)),.sh (.int 3),.sh (.int k),.sh (.dic kds),.sh (.tup [.int p,.int s,.int m]),.sh (.int c),.sh (.int (c % 8)),.sh (.int (c / 8)),.sh (.int (c / 8 % m)),.sh kd]= [some (.lst (ns.map .int)),some (.int 3),some (.int k),some (.dic kds),some (.tup [.int p,.int s,.int m]),some (.int c),some (.int (c % 8)),some (.int (c / 8)),some (.int (c / 8 % m)),some kd] from rfl,ht,hc];simp only[if_true];have hkl:eKL (Aa 3) [some (.lst (ns.map .int)),some (.int 3),some (.int k),some (.dic kds),some (.tup [.int p,.int s,.int m]),some (.int c),some (.int (c % 8)),some (.int (c / 8)),some (.int (c / 8 % m)),some kd]=.ok (.ow (.lst ks)):=by
    show R.ok (W.ow (.lst (kds.map λp=>kD p.1)))=_;rw[h.ds]
   simp![An,Sl.pub,hkl,Cw,ix2,dm,Cy (show(0:Int) < (kds.length:Int) by omega),o_8 ek]
  ·refine⟨kd,hkd, ?_⟩;unfold Bl;rw[show Bj [.sh (.lst (ns.map .int)),.sh (.int 3),.sh (.int k),.sh (.dic kds),.sh (.tup [.int p,.int s,.int m]),.sh (.int c),.sh (.int (c % 8)),.sh (.int (c / 8)),.sh (.int (c / 8 % m)),.sh kd]= [some (.lst (ns.map .int)),some (.int 3),some (.int k),some (.dic kds),some (.tup [.int p,.int s,.int m]),some (.int c),some (.int (c % 8)),some (.int (c / 8)),some (.int (c / 8 % m)),some kd] from rfl,ht];simp only[hc,Q6,S9];rfl
 obtain⟨k',hk',q6⟩:=q6;have q3:Ak 6 [5] (Ae Bu (Aa 5) (eC (.int 8))) [.sh (.lst (ns.map .int)),.sh (.int 3),.sh (.int k),.sh (.dic kds),.sh (.tup [.int p,.int s,.int m]),.sh (.int c),.no,.no,.no,.no]=.nx [.sh (.lst (ns.map .int)),.sh (.int 3),.sh (.int k),.sh (.dic kds),.sh (.tup [.int p,.int s,.int m]),.sh (.int c),.sh (.int (c % 8)),.no,.no,.no]:=by
  simp![An,Cy (show(0:Int) < 8 by decide)]
 have q4:Ak 7 [5] (Ae Gg (Aa 5) (eC (.int 8))) [.sh (.lst (ns.map .int)),.sh (.int 3),.sh (.int k),.sh (.dic kds),.sh (.tup [.int p,.int s,.int m]),.sh (.int c),.sh (.int (c % 8)),.no,.no,.no]=.nx [.sh (.lst (ns.map .int)),.sh (.int 3),.sh (.int k),.sh (.dic kds),.sh (.tup [.int p,.int s,.int m]),.sh (.int c),.sh (.int (c % 8)),.sh (.int (c / 8)),.no,.no]:=by
  simp![An,ab_2 (i:=c) (show(0:Int) < 8 by decide) ⋯]
 have q5:Ak 8 [4,7] (Ae Bu (Aa 7) (Ae Bf (Aa 4) (eC (.int 2)))) [.sh (.lst (ns.map .int)),.sh (.int 3),.sh (.int k),.sh (.dic kds),.sh (.tup [.int p,.int s,.int m]),.sh (.int c),.sh (.int (c % 8)),.sh (.int (c / 8)),.no,.no]=.nx [.sh (.lst (ns.map .int)),.sh (.int 3),.sh (.int k),.sh (.dic kds),.sh (.tup [.int p,.int s,.int m]),.sh (.int c),.sh (.int (c % 8)),.sh (.int (c / 8)),.sh (.int (c / 8 % m)),.no]:=by
  simp![An,ix2,Cy hm]
 have q5':Ak 9 [4,7] (Bi 1 l_7 #v[Ae Gg (Aa 7) (Ae Bf (Aa 4) (eC (.int 2)))]) [.sh (.lst (ns.map .int)),.sh (.int 3),.sh (.int k),.sh (.dic kds),.sh (.tup [.int p,.int s,.int m]),.sh (.int c),.sh (.int (c % 8)),.sh (.int (c / 8)),.sh (.int (c / 8 % m)),.no]=.nx [.sh (.lst (ns.map .int)),.sh (.int 3),.sh (.int k),.sh (.dic kds),.sh (.tup [.int p,.int s,.int m]),.sh (.int c),.sh (.int (c % 8)),.sh (.int (c / 8)),.sh (.int (c / 8 % m)),.sh kd]:=by
  simp![An,ix2,dm,ekd]
 have v0:=K3 (c / 8) (show m≠0 by omega);have v1:=J6 (c / 8) hm;have fin:∀bi:Int,b=.int bi->l_1 [.lst (ns.map .int),.int 3,.int k,.dic kds,.tup [.int p,.int s,.int m]]=.ok (.sh (.tup [.int bi,k',.int (c / 8 % m)])):=λbi e=>by
  subst e;refine k_6 ?_;unfold ax_3;rw[Be q1,Be q2,Be q3,Be q4,Be q5,Be q5',Be q6]
  simp![An,o_8 eb]
 rcases hb with hb|hb
 ·exact⟨0,k',_,fin 0 hb,.inl rfl,hk',v0,v1⟩
 ·exact⟨1,k',_,fin 1 hb,.inr rfl,hk',v0,v1⟩
end
def bs_0{α:Type}(l:List (Af×α))(k k':Af)(v:α):Bh (Di l k v) k'=if k'=k then some v else Bh l k':=by
 cases hh:Db l k with
 |false=>
  rw[ay_1 hh,ak_4,Ef,ac_2]
  by_cases e:k'=k
  ·subst e;rw[if_pos rfl,if_pos rfl];unfold Db at hh;cases h:Bh l k' with
   |none=>rfl
   |some x=>rw[h]at hh;cases hh
  ·rw[if_neg e,if_neg λz=>e z.symm];cases Bh l k' <;> rfl
 |true=>
  have e0:Di l k v=l.map λkv=>if kv.1=k then(kv.1,v) else kv:=by
   unfold Di;rw[bk_7,hh,if_pos rfl]
  rw[e0];clear e0;have gen:∀l:List (Af×α),Bh (l.map λkv=>if kv.1=k then(kv.1,v) else kv) k'=if k'=k then(Bh l k).map (λ_=>v) else Bh l k':=λl=>by
   induction l with
   |nil=>
    rw[N7,ac_2,ac_2]
    split <;> rfl
   |cons q l ih=>
    obtain⟨x,u⟩:=q;rw[B3]
    by_cases hx:x=k
    ·rw[if_pos hx,Ef,Ef,Ef,if_pos hx,ih]
     by_cases e:k'=k
     ·rw[if_pos e,if_pos (hx.trans e.symm),if_pos e];rfl
     ·have nx:¬x=k':=λz=>e (z.symm.trans hx);simp only[nx,e,S9]
    ·rw[if_neg hx,Ef,Ef,Ef,if_neg hx,ih]
     by_cases e:k'=k
     ·have nx:¬x=k':=λz=>hx (z.trans e);simp only[nx,e,if_true,S9,hx]
     ·simp only[e,S9]
  rw[gen];unfold Db at hh;cases h:Bh l k with
  |none=>rw[h]at hh;cases hh
  |some x=>rfl
theorem be_8{α:Type}(k k':Af)(h:k'≠k):∀l:List (Af×α),Bh (Eo l k) k'=Bh l k'
 | []=>rfl
 |(x,u)::l=>by
  have ih:=be_8 k k' h l;unfold Eo at ih⊢;rw[Q0]
  by_cases hx:x=k
  ·rw[if_neg (by simp[hx]),ih,Ef,if_neg λz=>h (z.symm.trans hx)]
  ·rw[if_pos (by simp[hx]),Ef,Ef,ih]
theorem ac_3{α:Type}(k:Af):∀l:List (Af×α),Bh (Eo l k) k=none
 | []=>rfl
 |(x,u)::l=>by
  have ih:=ac_3 k l;unfold Eo at ih⊢;rw[Q0]
  by_cases hx:x=k
  ·rw[if_neg (by simp[hx]),ih]
  ·rw[if_pos (by simp[hx]),Ef,if_neg hx,ih]
section
variable{p s m:Int}{T:List Int}{kds:List (Af×D)}{ks:List D}{d:D}{v:Int}
structure Told(p s m:Int)(T:List Int)(kds:List (Af×D)):Prop where
 rng:∀t∈T,0<=t/\t < m
 val:∀d n,Bq d->Bh kds (Bg d)=some (.int n)->Ck T [pA d s p,pB d s p] % m=n
def dg_7{i:Nat}(h:i < T.length):T[i]? =some (Cq T i):=by
 unfold Cq;rw[N5,B9 h];rfl
def s_4(S:List Nat)(l1 l2:Int){i:Nat}(h:i < T.length):Cq (Ei T S p m l1 l2) i=if i∈S then(Cq T i + if(i:Int) < p then l1 else l2) % m else Cq T i:=by
 have e:=ao_3 T S p m l1 l2 i;rw[dg_7 h]at e;unfold Cq at e⊢;rw[N5,e];rfl
def be_9(S:List Nat)(l1 l2:Int)(hm:0 < m)(h:∀t∈T,0<=t/\t < m):∀t∈Ei T S p m l1 l2,0<=t/\t < m:=λt ht=>by
 obtain⟨i,hi⟩:=List.mem_iff_getElem?.mp ht;rw[ao_3]at hi;obtain⟨n,hn,e⟩:=E7.mp hi;subst e
 split
 ·exact⟨K3 _ (),J6 _ hm⟩
 ·exact h n (M6 hn)
def r_8(a b:Nat):Ck T [a,b]=Cq T a + Cq T b:=by
 unfold Ck;simp
def bk_8{E:List Ed}{q:Nat}{x:D×Nat}(h:x∈Bv E q):(x.1,q)∈Bv E x.2:=by
 obtain⟨e,he,hx⟩:=ae_2 h;unfold Bv;refine Q3.mpr ⟨e,he,F2.mpr ?_⟩;rcases hx with⟨h1,rfl⟩|⟨h1,rfl⟩
 ·right;rw[if_pos rfl];exact C9.mpr (by rw[h1])
 ·left;rw[if_pos rfl];exact C9.mpr (by rw[h1])
def ce_3{x:D}(hx:x∈ks)(hd:Bq d)(h:KOk kds ks)(hn:x≠d):(x,pB x s p)∈Bv (Cg ks d s p) (pA x s p)/\(x,pA x s p)∈Bv (Cg ks d s p) (pB x s p):=by
 have he:(x,pA x s p,pB x s p)∈Cg ks d s p:=by
  unfold Cg;refine F7.mpr ⟨x,O7.mpr ⟨hx, ?_⟩,rfl⟩;have:Bg x≠Bg d:=λz=>hn (ad_7 (h.key x hx) hd z);simp[this]
 unfold Bv;refine⟨Q3.mpr ⟨_,he,F2.mpr (.inl ?_)⟩,Q3.mpr ⟨_,he,F2.mpr (.inr ?_)⟩⟩
 ·rw[if_pos rfl];exact C9.mpr rfl
 ·rw[if_pos rfl];exact C9.mpr rfl
def apart{N:Nat->Nb}(sym:∀q,∀x∈N q,(x.1,q)∈N x.2){a b M:Nat}{B1 B2:Bs}(s1:Srch N a M B1)(s2:Srch N b M B2)(hb:b∉bK B1):∀q∈bK B2,q∉bK B1:=
 s2.g.all (λq=>q∉bK B1) hb λq hq x hx h=>hq (s1.cl _ h _ (sym q x hx))
def bs_1(z:Szs p s m T)(S:List Nat)(l:Int)(x:D)(hab:pA x s p∈S↔pB x s p∈S):Ck (Ei T S p m l (-l)) [pA x s p,pB x s p] % m=Ck T [pA x s p,pB x s p] % m:=by
 have a:=t_9 x s z.p0;have b:=z_7 x s z.p0;have tl:=z.tl;rw[r_8,r_8,s_4 S _ _ (),s_4 S _ _ ()]
 by_cases h:pA x s p∈S
 ·rw[if_pos h,if_pos (hab.mp h),if_pos a,if_neg (),<-Int.add_emod]
  congr 1
  omega
 ·rw[if_neg h,if_neg λz=>h (hab.mpr z)]
def cw_3(z:Szs p s m T)(h:KOk kds ks)(hd:Bq d)(v0:0<=v)(v1:v < m)(t:Told p s m T kds){B1 B2:Bs}(s1:Srch (Bv (Cg ks d s p)) (pA d s p) (2 * p).toNat B1)(s2:Srch (Bv (Cg ks d s p)) (pB d s p) (2 * p).toNat B2):
  (∃(c:Int) (T':List Int),T'.length=T.length/\Told p s m T' (Di kds (Bg d) (.int v))/\Dz p s m v T kds d B1 B2=.ok (.int c) (Al p s m T' (Di kds (Bg d) (.int v))))\/Dz p s m v T kds d B1 B2=.ex ah_1 (Al p s m T kds):=by
 have hm:0 < m:=by have:=z.m0;omega
 have a:=t_9 d s z.p0;have b:=z_7 d s z.p0;have tl:=z.tl;have sv:v % m=v:=Int.emod_eq_of_lt v0 v1;have oth:∀T',(∀t∈T',0<=t/\t < m)->(∀x∈ks,x≠d->Ck T' [pA x s p,pB x s p] % m=Ck T [pA x s p,pB x s p] % m)->Ck T' [pA d s p,pB d s p] % m=v->Told p s m T' (Di kds (Bg d) (.int v)):=λT' hr hs hv=>by
  refine⟨hr,λx n hx e=> ?_⟩;rw[bs_0]at e
  by_cases ex:x=d
  ·subst ex;rw[if_pos rfl]at e;cases e;exact hv
  ·have ne:Bg x≠Bg d:=λq=>ex (ad_7 hx hd q);rw[if_neg ne]at e;have mem:x∈ks:=(h.has hx).mp (by unfold Db;rw[e];rfl);rw[hs x mem ex];exact t.val x n hx e
 unfold Dz;generalize hl:o_4 T d s p m v=l;unfold o_4 at hl
 split
 ·rename_i h0;refine .inl ⟨_,_,rfl,oth T t.rng (λ_ _ _=>rfl) ?_,rfl⟩;omega
 ·split
  ·exact .inr rfl
  ·rename_i hb;have em:=Int.emod_add_mul_ediv (Ck T [pA d s p,pB d s p]) m
   split
   ·refine .inl ⟨_,_,s_3 _ _ _ _ _ _,oth _ (be_9 _ _ _ hm t.rng) (λx hx hn=> ?_) ?_,rfl⟩
    ·have e:=ce_3 (s:=s) (p:=p) hx hd h hn;exact bs_1 z _ l x ⟨λq=>s1.cl _ q _ e.1,λq=>s1.cl _ q _ e.2⟩
    ·rw[r_8,s_4 _ _ _ (),s_4 _ _ _ (),if_pos s1.g.start,if_neg hb,if_pos a,Int.emod_add_emod];rw[r_8]at hl em;rw[show Cq T (pA d s p) + l + Cq T (pB d s p)=v + m * ((Cq T (pA d s p) + Cq T (pB d s p)) / m) by omega,R8,sv]
   ·have ap:=apart (λq x hx=>bk_8 hx) s1 s2 hb;have na:pA d s p∉bK B2:=λq=>ap _ q s1.g.start;refine .inl ⟨_,_,s_3 _ _ _ _ _ _,oth _ (be_9 _ _ _ hm t.rng) (λx hx hn=> ?_) ?_,rfl⟩
    ·have e:=ce_3 (s:=s) (p:=p) hx hd h hn;have:=bs_1 z (bK B2) (-l) x ⟨λq=>s2.cl _ q _ e.1,λq=>s2.cl _ q _ e.2⟩
     rwa[Int.neg_neg]at this
    ·rw[r_8,s_4 _ _ _ (),s_4 _ _ _ (),if_neg na,if_pos s2.g.start,if_neg (),Int.add_emod_emod];rw[r_8]at hl em;rw[show Cq T (pA d s p) + (Cq T (pB d s p) + l)=v + m * ((Cq T (pA d s p) + Cq T (pB d s p)) / m) by omega,R8,sv]
def ck_5(t:Told p s m T kds):Told p s m T (Eo kds (Bg d)):=⟨t.rng,λx n hx e=>by
 by_cases ex:Bg x=Bg d
 ·rw[ex,ac_3]at e;cases e
 ·rw[be_8 _ _ ex]at e;exact t.val x n hx e⟩
end
def ak_6{d:D}(h:Bq d):l_2 [d]=.ok (.sh (.int (Cs d))):=by
 have m2:=λj:Int=>k_5 (n_9 (j:=j) (show(-18446744073709551616:Int) < 2 by decide) ⋯);rcases h with⟨n,rfl,h0,h1⟩|⟨l,rfl,hl,hc⟩
 ·simp![l_2,ab_6,An,m2,Cs]
 ·obtain⟨Δ',e,a2,rfl⟩:=s_1 (gV 2) v_1 (λk Δ=>∃a2,Δ= [.sh (.str (Br l)),.sh (.int (Ey (l.take k))),a2]) (ds:=u_6 (Br l)) (Δ:=[.sh (.str (Br l)),.sh (.int 0),.no]) ⟨.no,rfl⟩ (λk d Δ hk hI=>by
   obtain⟨a2,rfl⟩:=hI;rw[q_0,A8]at hk;cases q:l[k]? with
   |none=>rw[q]at hk;cases hk
   |some c=>
    rw[q]at hk;cases hk;refine⟨_,rfl,[.sh (.str (Br l)),.sh (.int (Ey (l.take (k + 1)))),.sh (.str ⟨#[c]⟩)],.inl ?_,_,rfl⟩;rw[aq_2 l k c q,show 40 * Ey (l.take k) + (sgI c:Int) + 1=40 * Ey (l.take k) + 1 + (sgI c:Int) by omega]
    simp![v_1,An,k_5 (n_9 (show(-18446744073709551616:Int) < 40 by decide) ⋯),M8,cu_5 (hc c (M6 q)),Fz])
  rw[q_0,A3,S6]at e
  simp![l_2,ab_6,An,y_1,q_0,e,m2,Fz,Cs,m_8]
section
variable{p s m:Int}{T:List Int}{kds:List (Af×D)}{ks:List D}{d:D}
abbrev Av(p s m:Int):D:=.tup [.int p,.int s,.int m]
def k_4(z:Szs p s m T)(h:Bq d):c_7 [d,Av p s m]=.ok (.sh (.tup (zi [pA d s p,pB d s p]))):=by
 have p0:=z.p0;have s0:=z.s0;have s1:=z.s1;have m1:=k_5 (n_9 (i:=4) (j:=s) ⋯ ⋯);have e1:=(ax_6 (Cs d) (4 * s) p () () p0).2;have e2:=(ax_6 (Cs d) (4 * s + 1) p () () p0).2;have a0:=s_2 (Cs d) (4 * s + 0) p0;have b0:=s_2 (Cs d) (4 * s + 1) p0;have ea:t_8 (Cs d) (4 * s) p=((pA d s p:Nat):Int):=by unfold pA;rw[Int.add_zero]at a0⊢;omega
 have eb:p + t_8 (Cs d) (4 * s + 1) p=((pB d s p:Nat):Int):=by unfold pB;omega
 rw[ea]at e1
 simp![c_7,aj_5,An,Av,Dw,bd_1,gNs,ak_6 h,m1,Fz,e1,e2,eb,zi]
end
theorem ay_4{α:Type}:∀{l:List (Af×α)} {k:Af} {v:α},(l.map (·.1)).Nodup->(k,v)∈l->Bh l k=some v
 | [],_,_,_,h=>by cases h
 |(x,u)::l,k,v,nd,h=>by
  rw[B3,K1]at nd;rw[Ef];rcases C6.mp h with e|e
  ·cases e;rw[if_pos rfl]
  ·have:x≠k:=λz=>nd.1 (F7.mpr ⟨_,e,z.symm⟩);rw[if_neg this];exact ay_4 nd.2 e
section
variable{p s m:Int}{T:List Int}{kds:List (Af×D)}{ks:List D}{d x:D}
def KOk.fst(h:KOk kds ks):(kds.map (·.1)).Nodup:=by
 rw[h.eq];exact ae_1 (λx hx y hy e=>ad_7 (h.key x hx) (h.key y hy) e) h.nd
def KOk.row(h:KOk kds ks){q:Af×D}(hq:q∈kds):∃d n,d∈ks/\Bq d/\kD q.1=d/\q.1=Bg d/\q.2=.int n/\Bh kds (Bg d)=some (.int n):=by
 have hm:q.1∈ks.map Bg:=by rw[<-h.eq];exact F7.mpr ⟨q,hq,rfl⟩
 obtain⟨d,hd,e⟩:=F7.mp hm;obtain⟨n,en⟩:=h.val q hq;refine⟨d,n,hd,h.key d hd,by rw[<-e,cv_0 (h.key d hd)],e.symm,en, ?_⟩;rw[e,<-en];exact ay_4 h.fst hq
end
def bk_9(n:Nat)(l:List Nat):Cv (.int (n:Int)) (zi l)=decide (n∈l):=by
 unfold Cv zi;rw[List.any_map,Q9,Z5,decide_eq_true_iff];constructor
 ·rintro ⟨m,hm,h⟩
  have:((m:Nat):Int)=(n:Int):=by
   have h':((m:Int) ==(n:Int))=true:=h;exact eq_of_beq h'
  have:m=n:=by omega
  exact this▸hm
 ·intro h;exact⟨n,h,show((n:Int) ==(n:Int))=true from M8 _⟩
def at_2(l:List Nat):(zi l).all Bb=true:=by
 unfold zi;rw[List.all_map,K7];intro x _;rfl
def bx_5(n:Nat)(l:List Nat):Ep true (.int (n:Int)) (.lst (zi l))=.ok (.sh (.bl (!decide (n∈l)))):=by
 have h:Ep true (.int (n:Int)) (.lst (zi l))=if(Bb (.int (n:Int)) && (zi l).all Bb)=true then .ok (.sh (.bl (!Cv (.int (n:Int)) (zi l)))) else .no:=rfl
 rw[h,at_2,if_pos (show(Bb (.int (n:Int)) && true)=true from rfl),bk_9]
def dv_5(n:Nat)(l:List Nat):Ep false (.int (n:Int)) (.lst (zi l))=.ok (.sh (.bl (decide (n∈l)))):=by
 have h:Ep false (.int (n:Int)) (.lst (zi l))=if(Bb (.int (n:Int)) && (zi l).all Bb)=true then .ok (.sh (.bl (Cv (.int (n:Int)) (zi l)))) else .no:=rfl
 rw[h,at_2,if_pos (show(Bb (.int (n:Int)) && true)=true from rfl),bk_9]
def dv_6(n:Nat)(l:List Nat):Ep false (.int (n:Int)) (.tup (zi l))=.ok (.sh (.bl (decide (n∈l)))):=by
 have h:Ep false (.int (n:Int)) (.tup (zi l))=if(Bb (.int (n:Int)) && (zi l).all Bb)=true then .ok (.sh (.bl (Cv (.int (n:Int)) (zi l)))) else .no:=rfl
 rw[h,at_2,if_pos (show(Bb (.int (n:Int)) && true)=true from rfl),bk_9]
def dq_4(n:Nat)(l:List Nat):Ep true (.int (n:Int)) (.tup (zi l))=.ok (.sh (.bl (!decide (n∈l)))):=by
 have h:Ep true (.int (n:Int)) (.tup (zi l))=if(Bb (.int (n:Int)) && (zi l).all Bb)=true then .ok (.sh (.bl (!Cv (.int (n:Int)) (zi l)))) else .no:=rfl
 rw[h,at_2,if_pos (show(Bb (.int (n:Int)) && true)=true from rfl),bk_9]
def ay_5{N:Nat->Nb}{a M M':Nat}{B B':Bs}(s:Srch N a M B)(s':Srch N a M' B')(q:Nat):q∈bK B↔q∈bK B':=
 ⟨λh=>s.g.all (λq=>q∈bK B') s'.g.start (λq hq x hx=>s'.cl q hq x hx) q h,λh=>s'.g.all (λq=>q∈bK B) s.g.start (λq hq x hx=>s.cl q hq x hx) q h⟩
def dv_7(R:List Nat){i:Nat}(h:i < R.length):Bf (.lst (zi R)) (.int (i:Int))=.ok (.sh (.int ((R.getD i 0:Nat):Int))):=by
 refine o_8 (di_7 ?_);unfold zi;rw[A8,B9 h,N5,B9 h];rfl
abbrev Dh(e:Ed):D:=.tup (zi [e.2.1,e.2.2])
section
variable{E:List Ed}{a:Nat}
def dg_8{D0 D1 D2 D3:D}{s5:Sl}{at_ q:Nat}{R:List Nat}(hq:R[at_]? =some q)(hl:R.length<=10000)(e:Ed)(hne:e.2.1≠e.2.2)(a8:Sl):∃a8':Sl,f_0 [.sh D0,.sh D1,.sh D2,.sh D3,.ow (.lst (zi R)),s5,.sh (.int (at_:Int)),.sh (Dh e),a8]=.nx [.sh D0,.sh D1,.sh D2,.sh D3,.ow (.lst (zi (if q=e.2.1/\e.2.2∉R then R ++ [e.2.2] else if q=e.2.2/\e.2.1∉R then R ++ [e.2.1] else R))),s5,.sh (.int (at_:Int)),.sh (Dh e),a8']:=by
 obtain⟨k,x,y⟩:=e;simp only at hne⊢;have hi:at_ < R.length:=(B4.mp hq).1;have eg:R.getD at_ 0=q:=by rw[N5,hq];rfl
 have i0:Bf (Dh (k,x,y)) (.int 0)=.ok (.sh (.int (x:Int))):=rfl;have i1:Bf (Dh (k,x,y)) (.int 1)=.ok (.sh (.int (y:Int))):=rfl;have ia:=dv_7 R hi;rw[eg]at ia;have it:Ep false (.int (q:Int)) (Dh (k,x,y))=.ok (.sh (.bl (decide (q∈ [x,y])))):=dv_6 q [x,y];have q1:Ak 8 [4,6,7] (Ae Ds (Ae Ca (Ae Bf (Aa 7) (eC (.int 0))) (Ae Bf (Aa 7) (eC (.int 1)))) (Ae Bf (Aa 4) (Aa 6))) [.sh D0,.sh D1,.sh D2,.sh D3,.ow (.lst (zi R)),s5,.sh (.int (at_:Int)),.sh (Dh (k,x,y)),a8]=.nx [.sh D0,.sh D1,.sh D2,.sh D3,.ow (.lst (zi R)),s5,.sh (.int (at_:Int)),.sh (Dh (k,x,y)),.sh (.int ((x:Int) + (y:Int) - (q:Int)))]:=by
  simp![An,Sl.any,Sl.pub,i0,i1,ia,Fz,v_0]
 refine⟨.sh (.int ((x:Int) + (y:Int) - (q:Int))), ?_⟩;unfold f_0;rw[Be q1];have hz:(zi R).length < 16777216:=by unfold zi;rw[A3];omega
 have app:∀o:Nat,Ee 4 (Aa 8) [.sh D0,.sh D1,.sh D2,.sh D3,.ow (.lst (zi R)),s5,.sh (.int (at_:Int)),.sh (Dh (k,x,y)),.sh (.int (o:Int))]=.nx [.sh D0,.sh D1,.sh D2,.sh D3,.ow (.lst (zi (R ++ [o]))),s5,.sh (.int (at_:Int)),.sh (Dh (k,x,y)),.sh (.int (o:Int))]:=λo=>by
  have eo:zi (R ++ [o])=zi R ++ [.int (o:Int)]:=by unfold zi;rw[E9];rfl
  rw[eo];unfold Ee
  simp![An,if_pos hz]
 have tst:∀(o:Nat) (h:q∈ [x,y]),(x:Int) + (y:Int) - (q:Int)=(o:Int)->Bl [4,6,7,8] (Cj (Ah (Ae (Ep false) (Ae Bf (Aa 4) (Aa 6)) (Aa 7))) (Ah (Ae (Ep true) (Aa 8) (Aa 4)))) (Ee 4 (Aa 8)) Ar [.sh D0,.sh D1,.sh D2,.sh D3,.ow (.lst (zi R)),s5,.sh (.int (at_:Int)),.sh (Dh (k,x,y)),.sh (.int ((x:Int) + (y:Int) - (q:Int)))]=.nx [.sh D0,.sh D1,.sh D2,.sh D3,.ow (.lst (zi (if o∉R then R ++ [o] else R))),s5,.sh (.int (at_:Int)),.sh (Dh (k,x,y)),.sh (.int ((x:Int) + (y:Int) - (q:Int)))]:=λo h eo=>by
  rw[eo];rw[D6 h]at it;have ni:=bx_5 o R
  by_cases ho:o∈R
  ·rw[D6 ho]at ni;rw[if_neg (λz=>z ho)]
   simp![An,Sl.any,ia,it,ni]
  ·rw[C1 ho]at ni;rw[if_pos ho];unfold Bl
   simp![An,Sl.any,ia,it,ni]
   exact app o
 by_cases h1:q=x
 ·have:=tst y (by simp[h1]) ();rw[this];subst h1
  by_cases hy:y∈R
  ·rw[if_neg (λz=>z hy),if_neg (λz=>z.2 hy),if_neg (λz=>hne z.1)]
  ·rw[if_pos hy,if_pos ⟨rfl,hy⟩]
 ·by_cases h2:q=y
  ·have:=tst x (by simp[h2]) ();rw[this];subst h2
   by_cases hx:x∈R
   ·rw[if_neg (λz=>z hx),if_neg (λz=>h1 z.1),if_neg (λz=>z.2 hx)]
   ·rw[if_pos hx,if_neg (λz=>h1 z.1),if_pos ⟨rfl,hx⟩]
  ·have hn:q∉ [x,y]:=by simp[h1,h2]
   rw[C1 hn]at it;rw[if_neg (λz=>h1 z.1),if_neg (λz=>h2 z.1)]
   simp![An,Sl.any,ia,it]
variable{D0 D1 D2 D3:D}{s5:Sl}
theorem at_3{N:Nat->Nb}{at_ q:Nat}:∀(l:List Ed) (B:Bs) (a7 a8:Sl),(∀e∈l,(e.1,e.2.2)∈N e.2.1/\(e.1,e.2.1)∈N e.2.2/\e.2.1≠e.2.2)->Grown N a B->(bK B)[at_]? =some q->B.length + l.length<=10000->
  ∃C a7' a8',Cu (gV 7) f_0 (l.map Dh) [.sh D0,.sh D1,.sh D2,.sh D3,.ow (.lst (zi (bK B))),s5,.sh (.int (at_:Int)),a7,a8]=.nx [.sh D0,.sh D1,.sh D2,.sh D3,.ow (.lst (zi (bK (B ++ C)))),s5,.sh (.int (at_:Int)),a7',a8']/\Grown N a (B ++ C)/\(∀e∈l,(e.2.1=q->e.2.2∈bK (B ++ C))/\(e.2.2=q->e.2.1∈bK (B ++ C)))
 | [],B,a7,a8,_,g,_,_=>⟨[],a7,a8,by rw[D8];rfl,by rw[D8];exact g,λe h=>by cases h⟩
 |e::l,B,a7,a8,hl,g,hq,hn=>by
  obtain⟨n1,n2,ne⟩:=hl e C8;have hl':=λy hy=>hl y (C4 _ hy);rw[A9]at hn;have hB:(bK B).length=B.length:=A3 ..;obtain⟨a8',e1⟩:=dg_8 (D0:=D0) (D1:=D1) (D2:=D2) (D3:=D3) (s5:=s5) hq () e ne a8;have qm:q∈bK B:=M6 hq;have one:∀Δ2,f_0 [.sh D0,.sh D1,.sh D2,.sh D3,.ow (.lst (zi (bK B))),s5,.sh (.int (at_:Int)),.sh (Dh e),a8]=.nx Δ2->Cu (gV 7) f_0 ((e::l).map Dh) [.sh D0,.sh D1,.sh D2,.sh D3,.ow (.lst (zi (bK B))),s5,.sh (.int (at_:Int)),a7,a8]=Cu (gV 7) f_0 (l.map Dh) Δ2:=λ Δ2 h=>by
   show(match f_0 [.sh D0,.sh D1,.sh D2,.sh D3,.ow (.lst (zi (bK B))),s5,.sh (.int (at_:Int)),.sh (Dh e),a8] with
    | .nx Δ2=>Cu (gV 7) f_0 (l.map Dh) Δ2
    | .ct Δ2=>Cu (gV 7) f_0 (l.map Dh) Δ2
    | .bk Δ2=> .nx Δ2
    |r=>r)=_
   rw[h]
  have grow:∀(o:Nat) (k:D),o∉bK B->(k,o)∈N q->((bK B) ++ [o]=bK (B ++ [(o,some (k,q))]))/\Grown N a (B ++ [(o,some (k,q))])/\(bK (B ++ [(o,some (k,q))]))[at_]? =some q:=λo k ho hk=>by
   refine⟨by rw[k_1];rfl,g.more qm hk ho, ?_⟩;rw[k_1,E4 (B4.mp hq).1];exact hq
  by_cases c1:q=e.2.1/\e.2.2∉bK B
  ·obtain⟨c1a,c1b⟩:=c1;obtain⟨x1,x2,x3⟩:=grow e.2.2 e.1 c1b (by rw[c1a];exact n1);rw[if_pos ⟨c1a,c1b⟩,x1]at e1;obtain⟨C,b7,b8,e2,g2,h2⟩:=at_3 l _ (.sh (Dh e)) a8' hl' x2 x3 (by rw[B7];simp only[A9,F9];omega);refine⟨(e.2.2,some (e.1,q))::C,b7,b8,(one _ e1).trans (e2.trans ?_), ?_,λy hy=> ?_⟩
   ·rw[J8];rfl
   ·rw[J8]at g2;exact g2
   ·rw[J8]at h2;rcases C6.mp hy with rfl|hy
    ·refine⟨λ_=>by rw[k_1];exact B6 _ C8,λz=>absurd (c1a.symm.trans z.symm) ne⟩
    ·exact h2 y hy
  ·rw[if_neg c1]at e1
   by_cases c2:q=e.2.2/\e.2.1∉bK B
   ·obtain⟨c2a,c2b⟩:=c2;obtain⟨x1,x2,x3⟩:=grow e.2.1 e.1 c2b (by rw[c2a];exact n2);rw[if_pos ⟨c2a,c2b⟩,x1]at e1;obtain⟨C,b7,b8,e2,g2,h2⟩:=at_3 l _ (.sh (Dh e)) a8' hl' x2 x3 (by rw[B7];simp only[A9,F9];omega);refine⟨(e.2.1,some (e.1,q))::C,b7,b8,(one _ e1).trans (e2.trans ?_), ?_,λy hy=> ?_⟩
    ·rw[J8];rfl
    ·rw[J8]at g2;exact g2
    ·rw[J8]at h2;rcases C6.mp hy with rfl|hy
     ·refine⟨λz=>absurd (z.trans c2a) ne,λ_=>by rw[k_1];exact B6 _ C8⟩
     ·exact h2 y hy
   ·rw[if_neg c2]at e1;obtain⟨C,b7,b8,e2,g2,h2⟩:=at_3 l B (.sh (Dh e)) a8' hl' g hq ();refine⟨C,b7,b8,(one _ e1).trans e2,g2,λy hy=> ?_⟩;rcases C6.mp hy with rfl|hy
    ·refine⟨λz=> ?_,λz=> ?_⟩
     ·rw[k_1];refine E8 _ ?_
      by_cases h:y.2.2∈bK B
      ·exact h
      ·exact absurd ⟨z.symm,h⟩ c1
     ·rw[k_1];refine E8 _ ?_
      by_cases h:y.2.1∈bK B
      ·exact h
      ·exact absurd ⟨z.symm,h⟩ c2
    ·exact h2 y hy
end
section
variable{E:List Ed}{a:Nat}{D0 D1 D2 D3:D}
def cw_4{M:Nat}(hM:M<=1000)(hE:E.length<=100)(hN:∀e∈E,e.2.1 < M/\e.2.2 < M/\e.2.1≠e.2.2)(ha:a < M):∀(n at_:Nat) (B:Bs) (s5 a7 a8:Sl),(s5=.ow (.lst (E.map Dh))\/s5=.sh (.lst (E.map Dh)))->Grown (Bv E) a B->at_<=B.length->(∀i q,i < at_->(bK B)[i]? =some q->∀x∈Bv E q,x.2∈bK B)->M < n + at_->
  ∃B' Δ',m_3 [4,6] r_3 r_4 n [.sh D0,.sh D1,.sh D2,.sh D3,.ow (.lst (zi (bK B))),s5,.sh (.int (at_:Int)),a7,a8]=.nx Δ'/\Δ'[4]? =some (.ow (.lst (zi (bK B'))))/\Srch (Bv E) a M B':=by
 have nl:∀q,∀x∈Bv E q,x.2 < M:=λq x hx=>by
  obtain⟨e,he,hx⟩:=ae_2 hx;obtain⟨h1,h2,_⟩:=hN e he;rcases hx with⟨_,rfl⟩|⟨_,rfl⟩
  ·exact h2
  ·exact h1
 have small:∀B,Grown (Bv E) a B->B.length<=M:=λB g=>by
  have:=ay_0 M (bK B) g.nd (g.all (· < M) ha λq _ x hx=>nl q x hx)
  rwa[A3]at this
 have ine:∀e∈E,(e.1,e.2.2)∈Bv E e.2.1/\(e.1,e.2.1)∈Bv E e.2.2/\e.2.1≠e.2.2:=λe he=>by
  unfold Bv;refine⟨Q3.mpr ⟨e,he,F2.mpr (.inl ?_)⟩,Q3.mpr ⟨e,he,F2.mpr (.inr ?_)⟩,(hN e he).2.2⟩
  ·rw[if_pos rfl];exact C9.mpr rfl
  ·rw[if_pos rfl];exact C9.mpr rfl
 intro n
 induction n with
 |zero=>
  intro at_ B s5 a7 a8 _ g hat _ hm;have:=small B g;omega
 |succ n ih=>
  intro at_ B s5 a7 a8 h5 g hat hc hm;have hB:=small B g;have zl:(zi (bK B)).length=B.length:=by unfold zi;rw[A3,A3]
  have ht:r_3 (Bj [.sh D0,.sh D1,.sh D2,.sh D3,.ow (.lst (zi (bK B))),s5,.sh (.int (at_:Int)),a7,a8])=.ok (decide ((at_:Int) < (B.length:Int))):=by
   simp![r_3,An,o_0,ai_8,zl]
  unfold m_3;rw[ht]
  by_cases hlt:at_ < B.length
  ·rw[D6 (show(at_:Int) < (B.length:Int) by omega)];have hi:at_ < (bK B).length:=by rw[A3];exact hlt
   have hq:(bK B)[at_]? =some (bK B)[at_]:=B9 hi;generalize (bK B)[at_]=q at hq;obtain⟨C,b7,b8,e,g',h'⟩:=at_3 (N:=Bv E) (a:=a) (D0:=D0) (D1:=D1) (D2:=D2) (D3:=D3) (s5:=.sh (.lst (E.map Dh))) (at_:=at_) (q:=q) E B a7 a8 ine g hq ();have p1:y_1 [5] (Ez (Aa 5)) (gV 7) f_0 [.sh D0,.sh D1,.sh D2,.sh D3,.ow (.lst (zi (bK B))),s5,.sh (.int (at_:Int)),a7,a8]=.nx [.sh D0,.sh D1,.sh D2,.sh D3,.ow (.lst (zi (bK (B ++ C)))),.sh (.lst (E.map Dh)),.sh (.int (at_:Int)),b7,b8]:=by
    rcases h5 with rfl|rfl
    ·exact e
    ·exact e
   have p2:r_4 [.sh D0,.sh D1,.sh D2,.sh D3,.ow (.lst (zi (bK B))),s5,.sh (.int (at_:Int)),a7,a8]=.nx [.sh D0,.sh D1,.sh D2,.sh D3,.ow (.lst (zi (bK (B ++ C)))),.sh (.lst (E.map Dh)),.sh (.int ((at_ + 1:Nat):Int)),b7,b8]:=by
    unfold r_4;rw[Be p1]
    simp![An,Sl.pub,Fz]
    rfl
   simp only[if_true,p2];refine ih (at_ + 1) (B ++ C) _ b7 b8 (.inr rfl) g' (by rw[B7];omega) (λi q' hi' hq' x hx=> ?_) ();have hiB:i < (bK B).length:=by rw[A3];omega
   rw[k_1,E4 hiB]at hq'
   by_cases ei:i=at_
   ·subst ei;rw[hq]at hq';cases hq';obtain⟨e2,he2,hx⟩:=ae_2 hx;rcases hx with⟨h1,rfl⟩|⟨h1,rfl⟩
    ·exact(h' e2 he2).1 h1
    ·exact(h' e2 he2).2 h1
   ·rw[k_1];exact E8 _ (hc i q' () hq' x hx)
  ·rw[C1 (show¬(at_:Int) < (B.length:Int) by omega)];refine⟨B,_,rfl,rfl,g,λq hq x hx=> ?_,hB⟩;obtain⟨i,hi⟩:=List.mem_iff_getElem?.mp hq;have:i < (bK B).length:=(B4.mp hi).1;rw[A3]at this;exact hc i q () hi x hx
end
section
variable{p s m:Int}{T:List Int}{kds:List (Af×D)}{ks:List D}{d:D}
def bl_0(z:Szs p s m T)(h:KOk kds ks)(hd:Bq d){a:Nat}(ha:(a:Int) < 2 * p):∃B,l_3 [.dic kds,.int (a:Int),d,Av p s m]=.ok (.ow (.lst (zi (bK B))))/\Srch (Bv (Cg ks d s p)) a (2 * p).toNat B:=by
 have p0:=z.p0;have p1:=z.p1;have zk:=h.len;have ec:=o_9 (fg:=gC 9) (p:=l_9) (f:=l_8) (δ:=[some (.dic kds),some (.int (a:Int)),some d,some (Av p s m),none,none,none,none,none,none]) (λx=> !decide (Bg x=Bg d)) (λx=>Dh (x,pA x s p,pB x s p)) ks (λx hx=>by
  refine⟨[some (.dic kds),some (.int (a:Int)),some d,some (Av p s m),none,none,none,none,none,some x],rfl, ?_,λ_=> ?_⟩
  ·simp![l_9,An,cv_7 (h.key x hx) hd]
  ·have hp:=k_4 z (h.key x hx);exact⟨.sh (.tup (zi [pA x s p,pB x s p])),by simp![l_8,An,hp],rfl⟩)
 have ei:∀a4:Option D,Fk (Aa 0) [some (.dic kds),some (.int (a:Int)),some d,some (Av p s m),a4,none,none,none,none]=.ok ks:=λa4=>by
  show R.ok (kds.map λq=>kD q.1)=_;rw[h.ds]
 have e3:=t_0 (m:=1) (fg:=gC 9) (p:=l_9) (f:=l_8) (ei none) () ec;have ee:((ks.filter λx=> !decide (Bg x=Bg d)).map λx=>Dh (x,pA x s p,pB x s p))=(Cg ks d s p).map Dh:=by
  unfold Cg;rw[L8];rfl
 rw[ee]at e3;obtain⟨B,Δ',ew,e4,sr⟩:=cw_4 (E:=Cg ks d s p) (a:=a) (D0:=.dic kds) (D1:=.int (a:Int)) (D2:=d) (D3:=Av p s m) (M:=(2 * p).toNat) () (by unfold Cg;rw[A3];exact D4 (L4 _ _) ()) (λe he=>by
  obtain⟨y,hy,rfl⟩:=F7.mp he;have a:=t_9 y s p0;have b:=z_7 y s p0;exact⟨by simp only;omega,by simp only;omega,by simp only;omega⟩) () 3000 0 [(a,none)] (.ow (.lst ((Cg ks d s p).map Dh))) .no .no (.inl rfl) .base (K6 _) (λi q hi=>absurd hi (Nat.not_lt_zero _)) ()
 refine⟨B, ?_,sr⟩;have q1:Ak 4 [1] (By #v[1]) (Ba 9 [.dic kds,.int (a:Int),d,Av p s m])=.nx [.sh (.dic kds),.sh (.int (a:Int)),.sh d,.sh (Av p s m),.ow (.lst (zi [a])),.no,.no,.no,.no]:=rfl;have q2:Ak 5 [0,2,3] (Ci 1 (Fk (Aa 0)) (gC 9) l_9 l_8) [.sh (.dic kds),.sh (.int (a:Int)),.sh d,.sh (Av p s m),.ow (.lst (zi [a])),.no,.no,.no,.no]=.nx [.sh (.dic kds),.sh (.int (a:Int)),.sh d,.sh (Av p s m),.ow (.lst (zi [a])),.ow (.lst ((Cg ks d s p).map Dh)),.no,.no,.no]:=by
  have e5:Ci 1 (Fk (Aa 0)) (gC 9) l_9 l_8 (Aw [.sh (.dic kds),.sh (.int (a:Int)),.sh d,.sh (Av p s m),.ow (.lst (zi [a])),.no,.no,.no,.no])=.ok (.ow (.lst ((Cg ks d s p).map Dh))):=e3;unfold Ak;rw[e5];rfl
 have q3:Ak 6 [] (eC (.int 0)) [.sh (.dic kds),.sh (.int (a:Int)),.sh d,.sh (Av p s m),.ow (.lst (zi [a])),.ow (.lst ((Cg ks d s p).map Dh)),.no,.no,.no]=.nx [.sh (.dic kds),.sh (.int (a:Int)),.sh d,.sh (Av p s m),.ow (.lst (zi [a])),.ow (.lst ((Cg ks d s p).map Dh)),.sh (.int ((0:Nat):Int)),.no,.no]:=rfl;have q4:ag_3 (Ba 9 [.dic kds,.int (a:Int),d,Av p s m])=Cb 4 Δ':=by
  unfold ag_3;rw[Be q1,Be q2,Be q3];exact Be ew
 refine k_6 (q4.trans ?_);unfold Cb;rw[e4]
end
inductive Way(N:Nat->Nb):Nat->List (D×Nat)->Nat->Prop
 |nil (q:Nat):Way N q [] q
 |cons {q r:Nat} {x:D×Nat} {l:List (D×Nat)}:x∈N q->Way N x.2 l r->Way N q (x::l) r
def LkB(B:Bs):Nat->List (D×Nat)->Prop
 |o,[]=>Bh (bD B) (.inl (o:Int))=some .non
 |o,x::w=>Bh (bD B) (.inl (o:Int))=some (.tup [x.1,.int (x.2:Int)])/\LkB B x.2 w
def ce_4{B:Bs}{e:Nat×Option (D×Nat)}{o:Nat}(h:o∈bK B):Bh (bD (B ++ [e])) (.inl (o:Int))=Bh (bD B) (.inl (o:Int)):=by
 have hb:=ao_2 B o;rw[D6 h]at hb;unfold Db at hb;have:bD (B ++ [e])=bD B ++ bD [e]:=by unfold bD;rw[E9]
 rw[this,ak_4];cases q:Bh (bD B) (.inl (o:Int)) with
 |none=>rw[q]at hb;cases hb
 |some v=>rfl
def dg_9{B:Bs}{o:Nat}{v:Option (D×Nat)}(h:o∉bK B):Bh (bD (B ++ [(o,v)])) (.inl (o:Int))=some (bV v):=by
 have hb:=ao_2 B o;rw[C1 h]at hb;unfold Db at hb;have:bD (B ++ [(o,v)])=bD B ++ bD [(o,v)]:=by unfold bD;rw[E9]
 rw[this,ak_4];cases q:Bh (bD B) (.inl (o:Int)) with
 |some v=>rw[q]at hb;cases hb
 |none=>
  show Bh [((.inl (o:Int):Af),bV v)] (.inl (o:Int))=_;rw[Ef,if_pos rfl]
theorem LkB.old{B:Bs}{e:Nat×Option (D×Nat)}:∀{w:List (D×Nat)} {o:Nat},o∈bK B->(∀q∈w.map (·.2),q∈bK B)->LkB B o w->LkB (B ++ [e]) o w
 | [],o,h,_,l=>by unfold LkB at l⊢;rw[ce_4 h];exact l
 |x::w,o,h,hw,l=>by
  unfold LkB at l⊢;rw[ce_4 h];exact⟨l.1,LkB.old (hw x.2 C8) (λq hq=>hw q (C4 _ hq)) l.2⟩
def Grown.way{N:Nat->Nb}{s:Nat}{B:Bs}(sym:∀q,∀x∈N q,(x.1,q)∈N x.2)(g:Grown N s B):∀o∈bK B,∃w,Way N o w s/\(o::w.map (·.2)).Nodup/\(∀q∈w.map (·.2),q∈bK B)/\LkB B o w:=by
 induction g with
 |base=>
  intro o ho;have:o=s:=C9.mp ho;subst this;refine⟨[],.nil _,by simp,λq h=>(by cases h), ?_⟩;unfold LkB;show Bh [((.inl (o:Int):Af),D.non)] (.inl (o:Int))=_;rw[Ef,if_pos rfl]
 |more g hq hx hn ih=>
  rename_i B q x;intro o ho;rw[k_1]at ho;rcases F2.mp ho with h|h
  ·obtain⟨w,h1,h2,h3,h4⟩:=ih o h;exact⟨w,h1,h2,λr hr=>by rw[k_1];exact E8 _ (h3 r hr),h4.old h h3⟩
  ·have:o=x.2:=C9.mp h;subst this;obtain⟨w,h1,h2,h3,h4⟩:=ih q hq;have all:∀r∈q::w.map (·.2),r∈bK B:=λr hr=>by
    rcases C6.mp hr with rfl|hr
    ·exact hq
    ·exact h3 r hr
   refine⟨(x.1,q)::w,.cons (sym q x hx) h1, ?_,λr hr=> ?_, ?_⟩
   ·rw[B3,K1];exact⟨λhm=>hn (all _ hm),h2⟩
   ·rw[k_1];exact E8 _ (all r hr)
   ·unfold LkB;exact⟨dg_9 hn,h4.old hq h3⟩
theorem cw_5{B:Bs}{a0:D}:∀(w:List (D×Nat)) (n o:Nat) (F:List D) (v:D),w.length < n->F.length + w.length<=10000->LkB B o w->Bh (bD B) (.inl (o:Int))=some v->
  m_3 [3] m_5 j_3 n [.sh a0,.sh (.dic (bD B)),.ow (.lst F),.sh v]=.nx [.sh a0,.sh (.dic (bD B)),.ow (.lst (F ++ w.map (·.1))),.sh .non]
 | [],n + 1,o,F,v,_,_,l,hv=>by
  unfold LkB at l;rw[l]at hv;cases hv;rw[N7,D8];rfl
 |x::w,n + 1,o,F,v,hn,hF,l,hv=>by
  unfold LkB at l;rw[l.1]at hv;cases hv;rw[A9]at hn hF;have hz:F.length < 16777216:=by omega
  obtain⟨v2,hv2⟩:∃v2,Bh (bD B) (.inl (x.2:Int))=some v2:=by
   cases w with
   |nil=>exact⟨_,l.2⟩
   |cons y w=>exact⟨_,l.2.1⟩
  have ht:m_5 (Bj [.sh a0,.sh (.dic (bD B)),.ow (.lst F),.sh (.tup [x.1,.int (x.2:Int)])])=.ok true:=rfl;have i0:Bf (.tup [x.1,.int (x.2:Int)]) (.int 0)=.ok (.sh x.1):=rfl;have i1:Bf (.tup [x.1,.int (x.2:Int)]) (.int 1)=.ok (.sh (.int (x.2:Int))):=rfl;have p1:Ee 2 (Ae Bf (Aa 3) (eC (.int 0))) [.sh a0,.sh (.dic (bD B)),.ow (.lst F),.sh (.tup [x.1,.int (x.2:Int)])]=.nx [.sh a0,.sh (.dic (bD B)),.ow (.lst (F ++ [x.1])),.sh (.tup [x.1,.int (x.2:Int)])]:=by
   unfold Ee
   simp![An,i0,if_pos hz]
  have p2:j_3 [.sh a0,.sh (.dic (bD B)),.ow (.lst F),.sh (.tup [x.1,.int (x.2:Int)])]=.nx [.sh a0,.sh (.dic (bD B)),.ow (.lst (F ++ [x.1])),.sh v2]:=by
   unfold j_3;rw[Be p1]
   simp![An,Sl.pub,i1,Eh,Dv,hv2]
  unfold m_3;rw[ht];simp only[if_true,p2];rw[cw_5 w n x.2 (F ++ [x.1]) v2 () (by rw[B7];simp only[A9,F9];omega) l.2 hv2,J8];rfl
def cw_6{B:Bs}{o:Nat}{w:List (D×Nat)}(hw:w.length < 2000)(l:LkB B o w):k_7 [.int (o:Int),.dic (bD B)]=.ok (.ow (.lst (w.map (·.1)))):=by
 obtain⟨v,hv⟩:∃v,Bh (bD B) (.inl (o:Int))=some v:=by
  cases w with
  |nil=>exact⟨_,l⟩
  |cons y w=>exact⟨_,l.1⟩
 have e:=cw_5 (B:=B) (a0:=.int (o:Int)) w 3000 o [] v () (by simp only[F9];omega) l hv;have q1:Ak 3 [0,1] (Ae Eh (Aa 1) (Aa 0)) [.sh (.int (o:Int)),.sh (.dic (bD B)),.ow (.lst []),.no]=.nx [.sh (.int (o:Int)),.sh (.dic (bD B)),.ow (.lst []),.sh v]:=by
  simp![An,Eh,Dv,hv]
 refine k_6 ?_;unfold u_7;rw[show Ba 4 [.int (o:Int),.dic (bD B)]= [.sh (.int (o:Int)),.sh (.dic (bD B)),.no,.no] from rfl];refine(Be (Δ':=[.sh (.int (o:Int)),.sh (.dic (bD B)),.ow (.lst []),.no]) rfl).trans ?_;rw[Be q1,Be e];rfl
section
variable{p s m:Int}{T:List Int}{kds:List (Af×D)}{ks:List D}{d:D}
def dh_0(z:Szs p s m T)(h:KOk kds ks)(hd:Bq d):∃B2,Srch (Bv (Cg ks d s p)) (pB d s p) (2 * p).toNat B2/\((pA d s p∉bK B2/\e_5 [Bm p s m T kds,d]=.ok (.sh .non))\/(pA d s p∈bK B2/\∃w,Way (Bv (Cg ks d s p)) (pA d s p) w (pB d s p)/\(pA d s p::w.map (·.2)).Nodup/\w.length<=(2 * p).toNat/\e_5 [Bm p s m T kds,d]=.ok (.ow (.lst (w.map (·.1)))))):=by
 have p0:=z.p0;have p1:=z.p1;have b:=z_7 d s p0;have a:=t_9 d s p0;obtain⟨w,wk,ew,pw,dw,wd⟩:=ax_9 z h hd;have hN:∀q,∀x∈Bv (Cg ks d s p) q,x.2 < (2 * p).toNat:=λq x hx=>by
  obtain⟨e,he,hx⟩:=ae_2 hx;obtain⟨y,hy,rfl⟩:=F7.mp he;have a:=t_9 y s p0;have b:=z_7 y s p0;rcases hx with⟨_,rfl⟩|⟨_,rfl⟩
  ·show pB y s p < _;omega
  ·show pA y s p < _;omega
 have hn:∀q,(Bv (Cg ks d s p) q).length<=1000:=λq=>by
  have h1:=bk_6 (Cg ks d s p) q;have h2:(Cg ks d s p).length<=ks.length:=by unfold Cg;rw[A3];exact L4 _ _
  have:=h.len;omega
 obtain⟨B,f2,g2,c2,l2⟩:=ay_3 (s:=pB d s p) wd (M:=(2 * p).toNat) () hN hn ();refine⟨B,⟨g2,c2,l2⟩, ?_⟩;have hp:=ad_8 (m:=m) (T:=T) (kds:=kds) hd z.s0 z.s1 z.p0 ();rw[z_0 d s p0]at hp;have e2:∀a2 a3:Option D,Bo "places" 1 [("Living",b_6)] (Aa 0) #v[1] [some (Bm p s m T kds),some d,a2,a3]=.ok (.sh (.tup (zi [pA d s p,pB d s p]))):=λ_ _=>(Fp (w:=.sh d) rfl rfl nofun).trans hp;have e5:∀a2 a3:Option D,Bo "ways_without" 1 [("Living",b_1)] (Aa 0) #v[1] [some (Bm p s m T kds),some d,a2,a3]=.ok w:=λ_ _=>(Fp (w:=.sh d) rfl rfl nofun).trans ew;have i0:Bf (.tup (zi [pA d s p,pB d s p])) (.int 0)=.ok (.sh (.int (pA d s p:Int))):=rfl;have i1:Bf (.tup (zi [pA d s p,pB d s p])) (.int 1)=.ok (.sh (.int (pB d s p:Int))):=rfl;have q1:Ak 2 [0,1] (Bo "places" 1 [("Living",b_6)] (Aa 0) #v[1]) (Ba 4 [Bm p s m T kds,d])=.nx [.sh (Bm p s m T kds),.sh d,.sh (.tup (zi [pA d s p,pB d s p])),.no]:=by
  simp![An,e2]
 have q2:Ak 3 [0,1,2] (Bi 2 i_5 #v[Ae Bf (Aa 2) (eC (.int 1)),Bo "ways_without" 1 [("Living",b_1)] (Aa 0) #v[1]]) [.sh (Bm p s m T kds),.sh d,.sh (.tup (zi [pA d s p,pB d s p])),.no]=.nx [.sh (Bm p s m T kds),.sh d,.sh (.tup (zi [pA d s p,pB d s p])),.ow (.dic (bD B))]:=by
  simp![An,i1,e5,dw,f2]
 have hb:=ao_2 B (pA d s p)
 by_cases hin:pA d s p∈bK B
 ·right;rw[D6 hin]at hb;obtain⟨w',h1,h2,h3,h4⟩:=g2.way (λq x hx=>bk_8 hx) _ hin;have hl:w'.length<=(2 * p).toNat:=by
   have h5:=ay_0 (2 * p).toNat (w'.map (·.2)) (K1.mp h2).2 λq hq=>g2.all (· < (2 * p).toNat) () (λq _ x hx=>hN q x hx) q (h3 q hq)
   rwa[A3]at h5
  have ek:=cw_6 (w:=w') () h4;refine⟨hin,w',h1,h2,hl,k_6 ?_⟩;have q3:Bl [2,3] (Ah (Ae (Dq true) (Ae Bf (Aa 2) (eC (.int 0))) (Aa 3))) (As [] (eC .non)) Ar [.sh (Bm p s m T kds),.sh d,.sh (.tup (zi [pA d s p,pB d s p])),.ow (.dic (bD B))]=.nx [.sh (Bm p s m T kds),.sh d,.sh (.tup (zi [pA d s p,pB d s p])),.ow (.dic (bD B))]:=by
   simp![An,Sl.any,i0,Dq,Dv,hb,if_true]
  unfold v_2;rw[Be q1,Be q2,Be q3]
  simp![An,Sl.any,i0,ek]
 ·left;rw[C1 hin]at hb;refine⟨hin,k_6 ?_⟩;have q3:Bl [2,3] (Ah (Ae (Dq true) (Ae Bf (Aa 2) (eC (.int 0))) (Aa 3))) (As [] (eC .non)) Ar [.sh (Bm p s m T kds),.sh d,.sh (.tup (zi [pA d s p,pB d s p])),.ow (.dic (bD B))]=.rt (.sh .non):=by
   simp![An,Sl.any,i0,Dq,Dv,hb,if_true]
  unfold v_2;rw[Be q1,Be q2];unfold Ag;rw[q3]
end
def dh_1{a b:D}(ha:Bq a)(hb:Bq b):Cm a b=.ok (.sh (.bl (decide (Bg a=Bg b)))):=by
 have hc:Gh a b=true:=by unfold Gh;rw[(ad_6 ha).1,(ad_6 hb).1,(ad_6 ha).2];rfl
 have he:Fq a b=decide (Bg a=Bg b):=by
  have q:=cd_6 ha hb
  by_cases e:a=b
  ·rw[show Fq a b=true from q.mpr e,e];simp
  ·have:Fq a b=false:=by
    cases h:Fq a b with
    |false=>rfl
    |true=>exact absurd (q.mp h) e
   rw[this,C1 λz=>e (ad_7 ha hb z)]
 rcases ha with⟨n,rfl,_⟩|⟨l,rfl,_⟩ <;> rcases hb with⟨n',rfl,_⟩|⟨l',rfl,_⟩
 ·show(if Gh (.int n) (.int n')=true then R.ok (W.sh (.bl (Fq (.int n) (.int n')))) else .no)=_;rw[if_pos hc,he]
 ·show(if Gh (.int n) (.str (Br l'))=true then R.ok (W.sh (.bl (Fq (.int n) (.str (Br l'))))) else .no)=_;rw[if_pos hc,he]
 ·show(if Gh (.str (Br l)) (.int n')=true then R.ok (W.sh (.bl (Fq (.str (Br l)) (.int n')))) else .no)=_;rw[if_pos hc,he]
 ·rw[cb_3]
  by_cases e:Br l=Br l'
  ·rw[e];simp
  ·rw[C1 e,C1 λz=>e (by injection z)]
theorem bs_2:∀(l σ:List Int),l.Nodup->(∀x∈l,x∉σ)->l.foldl PyProof.Rows.step_dedup σ=σ ++ l
 | [],σ,_,_=>by simp
 |a::l,σ,h,hd=>by
  rw[K1]at h;have ha:(σ.any (· ==a))=false:=by
   cases q:σ.any (· ==a) with
   |false=>rfl
   |true=>
    obtain⟨x,hx,e⟩:=Z5.mp q;have:x=a:=by simpa using e
    subst this;exact absurd hx (hd x C8)
  rw[ZA6];have e1:PyProof.Rows.step_dedup σ a=σ ++ [a]:=by
   unfold PyProof.Rows.step_dedup;rw[ha];rfl
  rw[e1,bs_2 l (σ ++ [a]) h.2 λx hx hs=> ?_]
  ·simp
  ·rcases F2.mp hs with hs|hs
   ·exact hd x (C4 _ hx) hs
   ·have:x=a:=by simpa using hs
    subst this;exact h.1 hx
def ck_6{is:List Int}(h:is.Nodup):met is=is:=by
 unfold met PyProof.Rows.firstMet;have e:(List.range is.length).map (λi=>is.getD i 0)=is:=by
  refine U1 λi=> ?_;rw[A8]
  by_cases hi:i < is.length
  ·rw[W8 hi,B9 hi];simp[List.getD,hi]
  ·rw[L5 (by simp;omega),L5 ()];rfl
 rw[e,bs_2 is [] h (λx _ hx=>absurd hx (by simp))];simp
section
variable{p s m:Int}{T:List Int}{kds:List (Af×D)}{ks:List D}{d:D}
def z_2{q:Nat}{x:D×Nat}(h:x∈Bv (Cg ks d s p) q):x.1∈ks/\Bg x.1≠Bg d/\((pA x.1 s p=q/\x.2=pB x.1 s p)\/(pB x.1 s p=q/\x.2=pA x.1 s p)):=by
 obtain⟨e,he,hx⟩:=ae_2 h;obtain⟨y,hy,rfl⟩:=F7.mp he;obtain⟨hy1,hy2⟩:=O7.mp hy;have ne:Bg y≠Bg d:=by simpa using hy2
 rcases hx with⟨h1,rfl⟩|⟨h1,rfl⟩
 ·exact⟨hy1,ne,.inl ⟨h1,rfl⟩⟩
 ·exact⟨hy1,ne,.inr ⟨h1,rfl⟩⟩
def bx_6{N:Nat->Nb}{q r:Nat}{w:List (D×Nat)}(hw:Way N q w r):∀y∈w,∃q'∈q::w.map (·.2),y∈N q'/\y.2∈w.map (·.2):=by
 induction hw with
 |nil q=>intro y hy;cases hy
 |cons hx _ ih=>
  intro y hy;rcases C6.mp hy with rfl|hy
  ·exact⟨_,C8,hx,C8⟩
  ·obtain⟨q',h1,h2,h3⟩:=ih y hy;exact⟨q',C4 _ h1,h2,C4 _ h3⟩
def cw_7{q r:Nat}{w:List (D×Nat)}(hw:Way (Bv (Cg ks d s p)) q w r)(nd:(q::w.map (·.2)).Nodup):(w.map (·.1)).Nodup:=by
 induction hw with
 |nil q=>exact List.nodup_nil
 |cons hx hr ih=>
  rename_i q r x l;rw[B3]at nd⊢;obtain⟨n1,n2⟩:=K1.mp nd;refine K1.mpr ⟨λhm=> ?_,ih n2⟩;obtain⟨y,hy,ey⟩:=F7.mp hm;obtain⟨q',h1,h2,h3⟩:=bx_6 hr y hy;have ex:=(z_2 hx).2.2;have eyy:=(z_2 h2).2.2;rw[ey]at eyy;have hq:q=q'\/q=y.2:=by
   rcases ex with⟨a1,a2⟩|⟨a1,a2⟩ <;> rcases eyy with⟨b1,b2⟩|⟨b1,b2⟩
   ·exact .inl (a1.symm.trans b1)
   ·exact .inr (a1.symm.trans b2.symm)
   ·exact .inr (a1.symm.trans b2.symm)
   ·exact .inl (a1.symm.trans b1)
  rcases hq with e|e
  ·exact n1 (by rw[e];exact h1)
  ·exact n1 (by rw[e];exact C4 _ h3)
def dh_2(p0:0 < p){q r:Nat}{w:List (D×Nat)}(hw:Way (Bv (Cg ks d s p)) q w r):((q:Int) < p↔(r:Int) < p)↔w.length % 2=0:=by
 induction hw with
 |nil q=>simp
 |cons hx hr0 ih=>
  rename_i q r x l;have fl:(q:Int) < p↔¬(x.2:Int) < p:=by
   have a:=t_9 x.1 s p0;have b:=z_7 x.1 s p0;rcases(z_2 hx).2.2 with⟨a1,a2⟩|⟨a1,a2⟩
   ·rw[<-a1,a2];omega
   ·rw[<-a1,a2];omega
  rw[A9,fl];constructor
  ·intro h;have:¬(l.length % 2=0):=λz=>by
    have:=ih.mpr z
    by_cases hx2:(x.2:Int) < p
    ·exact(h.mpr (this.mp hx2)) hx2
    ·exact hx2 (this.mpr (h.mp hx2))
   omega
  ·intro h;have:¬((x.2:Int) < p↔(r:Int) < p):=λz=>by have:=ih.mp z;omega
   by_cases hx2:(x.2:Int) < p
   ·exact⟨λz=>absurd hx2 z,λz=>absurd ⟨λ_=>z,λ_=>hx2⟩ this⟩
   ·refine⟨λ_=> ?_,λ_=>hx2⟩
    by_cases hr:(r:Int) < p
    ·exact hr
    ·exact absurd ⟨λz=>absurd z hx2,λz=>absurd z hr⟩ this
theorem bf_0(z:Szs p s m T)(h:KOk kds ks)(hd:Bq d){ring f5 f7:D}{r:Nat}:∀(w:List (D×Nat)) (q:Nat) (a6 a8:Sl),Way (Bv (Cg ks d s p)) q w r->
  ∃b6 b8,Cu (gV 6) d_8 (w.map (·.1)) [.sh ring,.sh (.dic kds),.sh d,.sh (Av p s m),.sh (.int (q:Int)),.sh f5,a6,.sh f7,a8]=.nx [.sh ring,.sh (.dic kds),.sh d,.sh (Av p s m),.sh (.int (r:Int)),.sh f5,b6,.sh f7,b8]
 | [],q,a6,a8,hw=>by cases hw;exact⟨a6,a8,rfl⟩
 |x::w,q,a6,a8,hw=>by
  cases hw with
  |cons hx hr=>
   obtain⟨h1,h2,h3⟩:=z_2 hx;have hk:=h.key _ h1;have hh:=(h.has hk).mpr h1;have hkd:=q_1 hk;have el:=k_4 z hk;have eq:=dh_1 hk hd;rw[C1 h2]at eq;have i0:Bf (.tup (zi [pA x.1 s p,pB x.1 s p])) (.int 0)=.ok (.sh (.int (pA x.1 s p:Int))):=rfl;have i1:Bf (.tup (zi [pA x.1 s p,pB x.1 s p])) (.int 1)=.ok (.sh (.int (pB x.1 s p:Int))):=rfl;have ni:=dq_4 q [pA x.1 s p,pB x.1 s p];have hm:q∈ [pA x.1 s p,pB x.1 s p]:=by
    rcases h3 with⟨a1,_⟩|⟨a1,_⟩ <;> simp[a1]
   rw[D6 hm]at ni;have es:(pA x.1 s p:Int) + (pB x.1 s p:Int) - (q:Int)=(x.2:Int):=by
    rcases h3 with⟨a1,a2⟩|⟨a1,a2⟩ <;> omega
   have one:d_8 [.sh ring,.sh (.dic kds),.sh d,.sh (Av p s m),.sh (.int (q:Int)),.sh f5,.sh x.1,.sh f7,a8]=.nx [.sh ring,.sh (.dic kds),.sh d,.sh (Av p s m),.sh (.int (x.2:Int)),.sh f5,.sh x.1,.sh f7,.sh (.tup (zi [pA x.1 s p,pB x.1 s p]))]:=by
    have q1:Bl [1,2,6] (El (Ah (Ae (Dq true) (Aa 6) (Aa 1))) (Ah (Ae Cm (Aa 6) (Aa 2)))) (As [] (eC (.bl false))) Ar [.sh ring,.sh (.dic kds),.sh d,.sh (Av p s m),.sh (.int (q:Int)),.sh f5,.sh x.1,.sh f7,a8]=.nx [.sh ring,.sh (.dic kds),.sh d,.sh (Av p s m),.sh (.int (q:Int)),.sh f5,.sh x.1,.sh f7,a8]:=by
     simp![An,Sl.any,Dq,hkd,hh,if_true,eq]
    have q2:Ak 8 [3,6] (Bi 2 c_7 #v[6,3]) [.sh ring,.sh (.dic kds),.sh d,.sh (Av p s m),.sh (.int (q:Int)),.sh f5,.sh x.1,.sh f7,a8]=.nx [.sh ring,.sh (.dic kds),.sh d,.sh (Av p s m),.sh (.int (q:Int)),.sh f5,.sh x.1,.sh f7,.sh (.tup (zi [pA x.1 s p,pB x.1 s p]))]:=by
     simp![An,Sl.pub,el]
    have q3:Bl [4,8] (Ah (Ae (Ep true) (Aa 4) (Aa 8))) (As [] (eC (.bl false))) Ar [.sh ring,.sh (.dic kds),.sh d,.sh (Av p s m),.sh (.int (q:Int)),.sh f5,.sh x.1,.sh f7,.sh (.tup (zi [pA x.1 s p,pB x.1 s p]))]=.nx [.sh ring,.sh (.dic kds),.sh d,.sh (Av p s m),.sh (.int (q:Int)),.sh f5,.sh x.1,.sh f7,.sh (.tup (zi [pA x.1 s p,pB x.1 s p]))]:=by
     simp![An,Sl.any,ni]
    unfold d_8;rw[Be q1,Be q2,Be q3]
    simp![An,Sl.pub,i0,i1,Fz,v_0,es]
   obtain⟨b6,b8,e⟩:=bf_0 z h hd (ring:=ring) (f5:=f5) (f7:=f7) w x.2 (.sh x.1) (.sh (.tup (zi [pA x.1 s p,pB x.1 s p]))) hr;refine⟨b6,b8,Eq.trans ?_ e⟩;show(match d_8 [.sh ring,.sh (.dic kds),.sh d,.sh (Av p s m),.sh (.int (q:Int)),.sh f5,.sh x.1,.sh f7,a8] with
    | .nx Δ2=>Cu (gV 6) d_8 (w.map λx:D×Nat=>x.1) Δ2
    | .ct Δ2=>Cu (gV 6) d_8 (w.map λx:D×Nat=>x.1) Δ2
    | .bk Δ2=> .nx Δ2
    |r=>r)=_
   rw[one]
end
section
variable{p s m:Int}{T:List Int}{kds:List (Af×D)}{ks:List D}{d:D}
def ck_7{N:Nat->Nb}(sym:∀q,∀x∈N q,(x.1,q)∈N x.2){a b M:Nat}{B1 B2:Bs}(s1:Srch N a M B1)(s2:Srch N b M B2):b∈bK B1↔a∈bK B2:=by
 constructor
 ·intro h
  by_cases h2:a∈bK B2
  ·exact h2
  ·exact absurd s2.g.start (apart sym s2 s1 h2 b h)
 ·intro h
  by_cases h2:b∈bK B1
  ·exact h2
  ·exact absurd s1.g.start (apart sym s1 s2 h2 a h)
def bf_1(z:Szs p s m T)(hd:Bq d)(K:D):e_7 [Bm p s m T kds,K,d,Av p s m]=.ok (.sh (.int (Ck T [pA d s p,pB d s p] % m))):=by
 have a:=t_9 d s z.p0;have b:=z_7 d s z.p0;have tl:=z.tl;have p1:=z.p1;have hm:0 < m:=by have:=z.m0;omega
 have el:c_7 [d,Av p s m]=.ok (.sh (.tup [.int (pA d s p:Int),.int (pB d s p:Int)])):=k_4 z hd;have e1:∀δ,Bo "table" 0 [("Living",b_7)] (Aa 0) Ac (some (Bm p s m T kds)::δ)=.ok (.ow (.lst (T.map .int))):=λ δ=>(met0 rfl nofun).trans (br_8 ());have i2:Bf (Av p s m) (.int 2)=.ok (.sh (.int m)):=rfl;have ia:Bf (.lst (T.map .int)) (.int (pA d s p:Int))=.ok (.sh (.int (Cq T (pA d s p)))):=o_8 (bw_9 ());have ib:Bf (.lst (T.map .int)) (.int (pB d s p:Int))=.ok (.sh (.int (Cq T (pB d s p)))):=o_8 (bw_9 ());rw[r_8]
 simp![e_7,w_6,An,e1,Dw,el,gP,Sl.any,Sl.pub,ia,ib,i2,Fz,Cy hm]
def Fy(kds:List (Af×D)):List D->Int
 | []=>0
 |d::l=>(match Bh kds (Bg d) with|some (.int n)=>n|_=>0) - Fy kds l
theorem aq_3(h:KOk kds ks){ring M:D}:∀(l:List D) (i:Nat) (t:Int) (a4 a5:Sl),(∀x∈l,x∈ks)->∃b4 b5,Cu (Gi 4 5) g_0 (s_8 i l) [.sh ring,.sh (.dic kds),.sh M,.sh (.int t),a4,a5]=.nx [.sh ring,.sh (.dic kds),.sh M,.sh (.int (if i % 2=0 then t + Fy kds l else t - Fy kds l)),b4,b5]
 | [],i,t,a4,a5,_=>⟨a4,a5,by
  have:(if i % 2=0 then t + Fy kds [] else t - Fy kds [])=t:=by unfold Fy;split <;> omega
  rw[this];rfl⟩
 |x::l,i,t,a4,a5,hl=>by
  have hx:=hl x C8;have hk:=h.key x hx;obtain⟨n,en⟩:=h.get hx;have hkd:=q_1 hk;have gk:Eh (.dic kds) x=.ok (.sh (.int n)):=by
   unfold Eh;simp only[hkd,en]
  obtain⟨v,ev,hv⟩:∃v:Int,atI [D.int n,D.int (0 - n)] ((i:Int) % 2)=some (.int v)/\v=if i % 2=0 then n else - n:=by
   rcases R9 i with e|e
   ·have e':(i:Int) % 2=0:=by omega
    exact⟨n,by rw[e'];rfl,by rw[if_pos e]⟩
   ·have e':(i:Int) % 2=1:=by omega
    exact⟨0 - n,by rw[e'];rfl,by rw[if_neg ()];omega⟩
  have one:g_0 [.sh ring,.sh (.dic kds),.sh M,.sh (.int t),.sh (.int (i:Int)),.sh x]=.nx [.sh ring,.sh (.dic kds),.sh M,.sh (.int (t + v)),.sh (.int (i:Int)),.sh x]:=by
   simp![g_0,An,gk,v_0,Cy (show(0:Int) < 2 by decide),o_8 ev,Fz]
  obtain⟨b4,b5,e⟩:=aq_3 h (ring:=ring) (M:=M) l (i + 1) (t + v) (.sh (.int (i:Int))) (.sh x) λy hy=>hl y (C4 _ hy);have ea:(if(i + 1) % 2=0 then t + v + Fy kds l else t + v - Fy kds l)=if i % 2=0 then t + Fy kds (x::l) else t - Fy kds (x::l):=by
   have:Fy kds (x::l)=n - Fy kds l:=by
    show(match Bh kds (Bg x) with|some (.int n)=>n|_=>0) - Fy kds l=_;rw[en]
   rw[this,hv];rcases R9 i with e|e
   ·rw[if_neg (),if_pos e,if_pos e];omega
   ·rw[if_pos (),if_neg (),if_neg ()];omega
  rw[ea]at e;refine⟨b4,b5,Eq.trans ?_ e⟩;show(match g_0 [.sh ring,.sh (.dic kds),.sh M,.sh (.int t),.sh (.int (i:Int)),.sh x] with
   | .nx Δ2=>Cu (Gi 4 5) g_0 (s_8 (i + 1) l) Δ2
   | .ct Δ2=>Cu (Gi 4 5) g_0 (s_8 (i + 1) l) Δ2
   | .bk Δ2=> .nx Δ2
   |r=>r)=_
  rw[one]
def ck_8(h:KOk kds ks)(hm:0 < m)(l:List D)(hl:∀x∈l,x∈ks):o_3 [.lst l,.dic kds,.int m]=.ok (.sh (.int (Fy kds l % m))):=by
 obtain⟨b4,b5,e⟩:=aq_3 h (ring:=.lst l) (M:=.int m) l 0 0 .no .no hl;rw[if_pos rfl,Int.zero_add]at e;have q2:y_1 [0] (ca_2 (Aa 0)) (Gi 4 5) g_0 [.sh (.lst l),.sh (.dic kds),.sh (.int m),.sh (.int 0),.no,.no]=.nx [.sh (.lst l),.sh (.dic kds),.sh (.int m),.sh (.int (Fy kds l)),b4,b5]:=e;refine k_6 ?_;unfold aj_6;refine(Be (Δ':=[.sh (.lst l),.sh (.dic kds),.sh (.int m),.sh (.int 0),.no,.no]) rfl).trans ?_;rw[Be q2]
 simp![An,Sl.any,Cy hm]
def dh_3(h:KOk kds ks)(t:Told p s m T kds){q r:Nat}{w:List (D×Nat)}(hw:Way (Bv (Cg ks d s p)) q w r):∃k:Int,Fy kds (w.map (·.1))=Cq T q - (if w.length % 2=0 then Cq T r else - Cq T r) + m * k:=by
 induction hw with
 |nil q=>exact⟨0,by simp[Fy]⟩
 |cons hx hr ih=>
  rename_i q r x l;obtain⟨k,ek⟩:=ih;obtain⟨h1,h2,h3⟩:=z_2 hx;obtain⟨n,en⟩:=h.get h1;have tv:=t.val x.1 n (h.key _ h1) en;rw[r_8]at tv;have em:=Int.emod_add_mul_ediv (Cq T (pA x.1 s p) + Cq T (pB x.1 s p)) m;refine⟨- k - (Cq T (pA x.1 s p) + Cq T (pB x.1 s p)) / m, ?_⟩;have ea:Fy kds ((x::l).map (·.1))=n - Fy kds (l.map (·.1)):=by
   show(match Bh kds (Bg x.1) with|some (.int n)=>n|_=>0) - Fy kds (l.map (·.1))=_;rw[en]
  have es:Cq T (pA x.1 s p) + Cq T (pB x.1 s p)=Cq T q + Cq T x.2:=by
   rcases h3 with⟨a1,a2⟩|⟨a1,a2⟩
   ·rw[a1,<-a2]
   ·rw[a1,<-a2,Int.add_comm]
  rw[ea,ek,A9,Int.mul_sub,Int.mul_neg];rw[es]at tv em⊢;rcases R9 l.length with e|e
  ·rw[if_pos e,if_neg ()];omega
  ·rw[if_neg (),if_pos ()];omega
def cw_8(z:Szs p s m T)(h:KOk kds ks)(t:Told p s m T kds){w:List (D×Nat)}(hw:Way (Bv (Cg ks d s p)) (pA d s p) w (pB d s p)):w.length % 2=1/\Fy kds (w.map (·.1)) % m=Ck T [pA d s p,pB d s p] % m:=by
 have a:=t_9 d s z.p0;have b:=z_7 d s z.p0;have par:=dh_2 z.p0 hw;have ho:w.length % 2=1:=by
  have:¬(w.length % 2=0):=λq=>by
   have:=par.mpr q;have:=this.mp a;omega
  omega
 obtain⟨k,ek⟩:=dh_3 h t hw;rw[if_neg ()]at ek;refine⟨ho, ?_⟩;rw[ek,r_8,show Cq T (pA d s p) - - Cq T (pB d s p)=Cq T (pA d s p) + Cq T (pB d s p) by omega,R8]
def ba_6(z:Szs p s m T)(h:KOk kds ks)(hd:Bq d){B1:Bs}(s1:Srch (Bv (Cg ks d s p)) (pA d s p) (2 * p).toNat B1)(hn:pB d s p∉bK B1):f_6 [.non,.dic kds,d,Av p s m]=.ok (.sh (.bl true)):=by
 have a:=t_9 d s z.p0;obtain⟨B,et,sr⟩:=bl_0 z h hd (a:=pA d s p) ();have ni:=bx_5 (pB d s p) (bK B);rw[C1 (λq=>hn ((ay_5 sr s1 _).mp q))]at ni;have el:c_7 [d,Av p s m]=.ok (.sh (.tup [.int (pA d s p:Int),.int (pB d s p:Int)])):=k_4 z hd;have q1:Dw (gP 5 7) [2,3] (Bi 2 c_7 #v[2,3]) (Ba 9 [.non,.dic kds,d,Av p s m])=.nx [.sh .non,.sh (.dic kds),.sh d,.sh (Av p s m),.no,.sh (.int (pA d s p:Int)),.no,.sh (.int (pB d s p:Int)),.no]:=by
  simp![Dw,An,el,gP]
 refine k_6 ?_;unfold p_2;rw[Be q1];unfold Ag;have q2:Bl [1,2,3,5,7] (Ah (Ae (Ep true) (Aa 7) (Bi 4 l_3 #v[1,5,2,3]))) (As [0] (Ae (Fm false) (Aa 0) (eC .non))) Ar [.sh .non,.sh (.dic kds),.sh d,.sh (Av p s m),.no,.sh (.int (pA d s p:Int)),.no,.sh (.int (pB d s p:Int)),.no]=.rt (.sh (.bl true)):=by
  simp![An,et,ni]
 rw[q2]
def ay_6(z:Szs p s m T)(h:KOk kds ks)(hd:Bq d){B1:Bs}(s1:Srch (Bv (Cg ks d s p)) (pA d s p) (2 * p).toNat B1)(hn:pB d s p∈bK B1){w:List (D×Nat)}(hw:Way (Bv (Cg ks d s p)) (pA d s p) w (pB d s p))(nd:(pA d s p::w.map (·.2)).Nodup)(hl:w.length<=(2 * p).toNat):f_6 [.lst (w.map (·.1)),.dic kds,d,Av p s m]=.ok (.sh (.bl true)):=by
 have a:=t_9 d s z.p0;have p1:=z.p1;obtain⟨B,et,sr⟩:=bl_0 z h hd (a:=pA d s p) ();have ni:=bx_5 (pB d s p) (bK B);rw[D6 ((ay_5 sr s1 _).mpr hn)]at ni;have el:c_7 [d,Av p s m]=.ok (.sh (.tup [.int (pA d s p:Int),.int (pB d s p:Int)])):=k_4 z hd;have kk:∀x∈w.map (·.1),x∈ks:=λx hx=>by
  obtain⟨y,hy,rfl⟩:=F7.mp hx;obtain⟨q',_,h2,_⟩:=bx_6 hw y hy;exact(z_2 h2).1
 have kn:=cw_7 hw nd;have sn:((w.map (·.1)).map Cs).Nodup:=ae_1 (λx hx y hy e=>be_4 (h.key x (kk x hx)) (h.key y (kk y hy)) e) kn;obtain⟨b6,b8,eL⟩:=bf_0 z h hd (ring:=.lst (w.map (·.1))) (f5:=.int (pA d s p:Int)) (f7:=.int (pB d s p:Int)) w (pA d s p) .no .no hw;generalize hK:w.map (·.1)=kl at *
 have wl:kl.length=w.length:=by rw[<-hK,A3]
 have hc:=o_9 (fg:=gC 9) (p:=λ_=> .ok true) (f:=f_5) (δ:=[some (.lst kl),some (.dic kds),some d,some (Av p s m),none,some (.int (pA d s p:Int)),none,some (.int (pB d s p:Int)),none,none]) (λ_=>true) (λx=> .int (Cs x)) kl λx hx=>by
  refine⟨[some (.lst kl),some (.dic kds),some d,some (Av p s m),none,some (.int (pA d s p:Int)),none,some (.int (pB d s p:Int)),none,some x],rfl,rfl,λ_=>⟨.sh (.int (Cs x)), ?_,rfl⟩⟩
  simp![f_5,An,ak_6 (h.key x (kk x hx))]
 rw[S8.mpr λ_ _=>rfl]at hc;have ec:=t_0 (m:=1) (fi:=Ez (Aa 0)) (fg:=gC 9) (p:=λ_=> .ok true) (f:=f_5) (δ:=[some (.lst kl),some (.dic kds),some d,some (Av p s m),none,some (.int (pA d s p:Int)),none,some (.int (pB d s p:Int)),none]) (ds:=kl) (by simp![An]) () hc;have els:ai_5 (Ci 1 (Ez (Aa 0)) (gC 9) (λ_=> .ok true) f_5) [some (.lst kl),some (.dic kds),some d,some (Av p s m),none,some (.int (pA d s p:Int)),none,some (.int (pB d s p:Int)),none]=.ok (.sh (.int (kl.length:Int))):=by
  unfold ai_5;rw[ec,R.bind_ok,W.d_ow];show(match Fh (kl.map λx=> .int (Cs x)) with
   |some is=>if is.length<=4000 then R.ok (W.sh (.int (met is).length)) else .no
   |none=> .no)=_
  rw[an_8 Cs kl];simp only[A3,show kl.length<=4000 by omega,if_true,ck_6 sn]
 have ne:Dt (.int (kl.length:Int)) (.int (kl.length:Int))=.ok (.sh (.bl false)):=by rw[y_4,D6 rfl];rfl
 have q1:Dw (gP 5 7) [2,3] (Bi 2 c_7 #v[2,3]) (Ba 9 [.lst kl,.dic kds,d,Av p s m])=.nx [.sh (.lst kl),.sh (.dic kds),.sh d,.sh (Av p s m),.no,.sh (.int (pA d s p:Int)),.no,.sh (.int (pB d s p:Int)),.no]:=by
  simp![Dw,An,el,gP]
 have q2:Bl [1,2,3,5,7] (Ah (Ae (Ep true) (Aa 7) (Bi 4 l_3 #v[1,5,2,3]))) (As [0] (Ae (Fm false) (Aa 0) (eC .non))) Ar [.sh (.lst kl),.sh (.dic kds),.sh d,.sh (Av p s m),.no,.sh (.int (pA d s p:Int)),.no,.sh (.int (pB d s p:Int)),.no]=.nx [.sh (.lst kl),.sh (.dic kds),.sh d,.sh (Av p s m),.no,.sh (.int (pA d s p:Int)),.no,.sh (.int (pB d s p:Int)),.no]:=by
  simp![An,et,ni]
 have q3:Bl [0] (El (Cd (Ay (eIs "list" (Aa 0)))) (Ah (Ae Dt (ai_5 (Ci 1 (Ez (Aa 0)) (gC 9) (λ_=> .ok true) f_5)) (At x_8 #v[0])))) (As [] (eC (.bl false))) Ar [.sh (.lst kl),.sh (.dic kds),.sh d,.sh (Av p s m),.no,.sh (.int (pA d s p:Int)),.no,.sh (.int (pB d s p:Int)),.no]=.nx [.sh (.lst kl),.sh (.dic kds),.sh d,.sh (Av p s m),.no,.sh (.int (pA d s p:Int)),.no,.sh (.int (pB d s p:Int)),.no]:=by
  simp![An,els,o_0,ne]
 have q4:Ak 4 [5] (Aa 5) [.sh (.lst kl),.sh (.dic kds),.sh d,.sh (Av p s m),.no,.sh (.int (pA d s p:Int)),.no,.sh (.int (pB d s p:Int)),.no]=.nx [.sh (.lst kl),.sh (.dic kds),.sh d,.sh (Av p s m),.sh (.int (pA d s p:Int)),.sh (.int (pA d s p:Int)),.no,.sh (.int (pB d s p:Int)),.no]:=rfl;have q5:y_1 [0] (Ez (Aa 0)) (gV 6) d_8 [.sh (.lst kl),.sh (.dic kds),.sh d,.sh (Av p s m),.sh (.int (pA d s p:Int)),.sh (.int (pA d s p:Int)),.no,.sh (.int (pB d s p:Int)),.no]=.nx [.sh (.lst kl),.sh (.dic kds),.sh d,.sh (Av p s m),.sh (.int (pB d s p:Int)),.sh (.int (pA d s p:Int)),b6,.sh (.int (pB d s p:Int)),b8]:=eL;have eq:Cm (.int (pB d s p:Int)) (.int (pB d s p:Int))=.ok (.sh (.bl true)):=by rw[i_7];simp
 refine k_6 ?_;unfold p_2;rw[Be q1,Be q2,Be q3,Be q4,Be q5]
 simp![An,Sl.any,eq]
end
section
variable{p s m:Int}{T:List Int}{kds:List (Af×D)}{ks:List D}{d:D}{v:Int}
def ak_7(z:Szs p s m T)(h:KOk kds ks)(t:Told p s m T kds)(hd:Bq d):g_9 [Bm p s m T kds,.dic kds,d,Av p s m]=.ok (.sh (.bl true)):=by
 have hm:0 < m:=by have:=z.m0;omega
 have p1:=z.p1;obtain⟨B1,_,s1,_,_⟩:=cw_1 z h hd (v:=0) (Int.le_refl _) hm;obtain⟨B2,s2,hr⟩:=dh_0 z h hd;have iff:=ck_7 (λq x hx=>bk_8 hx) s1 s2;have eo:=bf_1 (kds:=kds) z hd (.dic kds);have i2:Bf (Av p s m) (.int 2)=.ok (.sh (.int m)):=rfl;have er:∀(r:R W) a3 a4 a5,e_5 [Bm p s m T kds,d]=r->Bo "ring" 1 [("Living",e_5)] (Aa 0) #v[2] [some (Bm p s m T kds),some (.dic kds),some d,a3,a4,a5]=r:=λr _ _ _ e=>(Fp (w:=.sh d) rfl rfl nofun).trans e;rcases hr with⟨hn,e⟩|⟨hn,w,hw,nd,hl,e⟩
 ·have e1:=λa3 a4 a5=>er _ a3 a4 a5 e;have e2:=ba_6 z h hd s1 λq=>hn (iff.mp q);generalize Bm p s m T kds=L at *
  have q1:Ak 4 [0,2] (Bo "ring" 1 [("Living",e_5)] (Aa 0) #v[2]) (Ba 6 [L,.dic kds,d,Av p s m])=.nx [.sh L,.sh (.dic kds),.sh d,.sh (Av p s m),.sh .non,.no]:=by
   simp![An,e1]
  have q2:Bl [1,2,3,4] (Cd (Ay (Bi 4 f_6 #v[4,1,2,3]))) (As [] (eC (.bl false))) Ar [.sh L,.sh (.dic kds),.sh d,.sh (Av p s m),.sh .non,.no]=.nx [.sh L,.sh (.dic kds),.sh d,.sh (Av p s m),.sh .non,.no]:=by
   simp![An,e2]
  have q3:Bl [4] (Ah (Ae (Fm false) (Aa 4) (eC .non))) (As [] (eC (.bl true))) Ar [.sh L,.sh (.dic kds),.sh d,.sh (Av p s m),.sh .non,.no]=.rt (.sh (.bl true)):=rfl;refine k_6 ?_;unfold q_7;rw[Be q1,Be q2];unfold Ag;rw[q3]
 ·have e1:=λa3 a4 a5=>er _ a3 a4 a5 e;have e2:=ay_6 z h hd s1 (iff.mpr hn) hw nd hl;obtain⟨ho,hs⟩:=cw_8 z h t hw;have kk:∀x∈w.map (·.1),x∈ks:=λx hx=>by
   obtain⟨y,hy,rfl⟩:=F7.mp hx;obtain⟨q',_,h2,_⟩:=bx_6 hw y hy;exact(z_2 h2).1
  have e3:=ck_8 h hm (w.map (·.1)) kk;rw[hs]at e3;have wl:((w.map (·.1)).length:Int) % 2=1:=by rw[A3];omega
  have n1:Dt (.int (((w.map (·.1)).length:Int) % 2)) (.int 1)=.ok (.sh (.bl false)):=by rw[wl];rw[y_4,D6 rfl];rfl
  have n2:Dt (.int (Ck T [pA d s p,pB d s p] % m)) (.int (Ck T [pA d s p,pB d s p] % m))=.ok (.sh (.bl false)):=by rw[y_4,D6 rfl];rfl
  generalize w.map (·.1)=kl at *
  generalize Bm p s m T kds=L at *
  have q1:Ak 4 [0,2] (Bo "ring" 1 [("Living",e_5)] (Aa 0) #v[2]) (Ba 6 [L,.dic kds,d,Av p s m])=.nx [.sh L,.sh (.dic kds),.sh d,.sh (Av p s m),.ow (.lst kl),.no]:=by
   simp![An,e1]
  have q2:Bl [1,2,3,4] (Cd (Ay (Bi 4 f_6 #v[4,1,2,3]))) (As [] (eC (.bl false))) Ar [.sh L,.sh (.dic kds),.sh d,.sh (Av p s m),.ow (.lst kl),.no]=.nx [.sh L,.sh (.dic kds),.sh d,.sh (Av p s m),.ow (.lst kl),.no]:=by
   simp![An,e2]
  have q3:Bl [4] (Ah (Ae (Fm false) (Aa 4) (eC .non))) (As [] (eC (.bl true))) Ar [.sh L,.sh (.dic kds),.sh d,.sh (Av p s m),.ow (.lst kl),.no]=.nx [.sh L,.sh (.dic kds),.sh d,.sh (Av p s m),.ow (.lst kl),.no]:=rfl;have q4:Ak 5 [0,1,2,3] (Bi 4 e_7 #v[0,1,2,3]) [.sh L,.sh (.dic kds),.sh d,.sh (Av p s m),.ow (.lst kl),.no]=.nx [.sh L,.sh (.dic kds),.sh d,.sh (Av p s m),.ow (.lst kl),.sh (.int (Ck T [pA d s p,pB d s p] % m))]:=by
   simp![An,eo]
  have q5:Bl [1,3,4,5] (El (Ah (Ae Dt (Ae Bu (At x_8 #v[4]) (eC (.int 2))) (eC (.int 1)))) (Ah (Ae Dt (Bi 3 o_3 #v[4,1,Ae Bf (Aa 3) (eC (.int 2))]) (Aa 5)))) (As [] (eC (.bl false))) Ar [.sh L,.sh (.dic kds),.sh d,.sh (Av p s m),.ow (.lst kl),.sh (.int (Ck T [pA d s p,pB d s p] % m))]=.nx [.sh L,.sh (.dic kds),.sh d,.sh (Av p s m),.ow (.lst kl),.sh (.int (Ck T [pA d s p,pB d s p] % m))]:=by
   simp![An,Sl.any,o_0,Cy (show(0:Int) < 2 by decide),n1,i2,e3,n2]
  have q6:bj_8 4 [.sh L,.sh (.dic kds),.sh d,.sh (Av p s m),.ow (.lst kl),.sh (.int (Ck T [pA d s p,pB d s p] % m))]=.nx [.sh L,.sh (.dic kds),.sh d,.sh (Av p s m),.ow (.lst []),.sh (.int (Ck T [pA d s p,pB d s p] % m))]:=rfl;refine k_6 ?_;unfold q_7;rw[Be q1,Be q2,Be q3,Be q4,Be q5,Be q6];rfl
theorem ah_2(js:List Nat):∀(Δ:SE) (n:Nat),(∀j∈js,j < n)->t_2 js n Δ=Aw Δ
 | [],_,_=>rfl
 |x::Δ,n,h=>by
  have hc:js.contains n=false:=by
   cases q:js.contains n with
   |false=>rfl
   |true=>exact absurd (h n (R5.mp q)) (F4 _)
  simp only[t_2,hc,Q6,S9,ah_2 js Δ (n + 1) λj hj=>U5 (h j hj)];rfl
def ao_4:(Tn.of (.dic kds)).lends=true:=by
 show Tn.lends (.dic (kds.map λp=>(p.1,.sh p.2)))=true;simp only[Tn.lends,an_9]
def dv_8{t:Tn}{Δ:SE}{f:FE}{w:W}(h:f (none::some (.dic kds)::Aw Δ)=.ok w)(hp:t_1 w=true):Dl [1] f (.lt t:: .lt (Tn.of (.dic kds))::Δ)=.ok w.d (.lt t:: .lt (Tn.of (.dic kds))::Δ):=by
 have hl:k_3 [1] (.lt t:: .lt (Tn.of (.dic kds))::Δ)=true:=by
  show((Tn.of (.dic kds)).lends && true)=true;rw[ao_4];rfl
 have hv:Dp [1] (.lt t:: .lt (Tn.of (.dic kds))::Δ)=none::some (.dic kds)::Aw Δ:=by
  show none::some (Tn.of (.dic kds)).d::t_2 [1] 2 Δ=_;rw[Tn.of_d,ah_2 [1] Δ 2 (by simp)]
 unfold Dl;rw[hl,if_pos rfl,hv,h];simp only[hp,if_true]
def cw_9{Δ:SE}{f:FE}{w:W}(h:f (some (Bm p s m T kds)::some (.dic kds)::Aw Δ)=.ok w)(hp:t_1 w=true):Dl [0,1] f (.lt (Al p s m T kds):: .lt (Tn.of (.dic kds))::Δ)=.ok w.d (.lt (Al p s m T kds):: .lt (Tn.of (.dic kds))::Δ):=by
 have hl:k_3 [0,1] (.lt (Al p s m T kds):: .lt (Tn.of (.dic kds))::Δ)=true:=by
  show((Al p s m T kds).lends && ((Tn.of (.dic kds)).lends && true))=true;rw[ao_4,ag_6];rfl
 have hv:Dp [0,1] (.lt (Al p s m T kds):: .lt (Tn.of (.dic kds))::Δ)=some (Bm p s m T kds)::some (.dic kds)::Aw Δ:=by
  show some (Al p s m T kds).d::some (Tn.of (.dic kds)).d::t_2 [0,1] 2 Δ=_;rw[Tn.of_d,v_4,ah_2 [0,1] Δ 2 (by simp)]
 unfold Dl;rw[hl,if_pos rfl,hv,h];simp only[hp,if_true]
def cx_0(c:Int):Cm (.int c) (.str "stuck")=.ok (.sh (.bl false)):=by
 show(if Gh (.int c) (.str "stuck")=true then R.ok (W.sh (.bl (Fq (.int c) (.str "stuck")))) else .no)=_;have h1:PyData.canLay0 (Ec (.str "stuck"))=true:=by decide +kernel
 have h2:PyData.canLay0 (Ec (.int c))=true:=rfl;have h3:PyData.depth (Ec (.int c))=0:=rfl;rw[if_pos (by unfold Gh;rw[h1,h2,h3];rfl)];rfl
def bl_1(z:Szs p s m T)(h:KOk kds ks)(t:Told p s m T kds)(hd:Bq d)(v0:0<=v)(v1:v < m)(hl:ks.length < 40):∃(T':List Int) (aa:List (Af×D)) (ks':List D),h_0 (Al p s m T kds) kds [d,.int v,Av p s m]=.ok (.bl true) (Al p s m T' aa) aa/\Szs p s m T'/\KOk aa ks'/\Told p s m T' aa/\ks'.length<=ks.length + 1:=by
 have hm:0 < m:=by have:=z.m0;omega
 have p1:=z.p1;have tl:=z.tl;have a:=t_9 d s z.p0;obtain⟨B1,B2,s1,s2,ep⟩:=bx_4 z h hd v0 v1;obtain⟨B,et,sr⟩:=bl_0 z h hd (a:=pA d s p) ();have iz:=dv_5 (pB d s p) (bK B);have dd:decide (pB d s p∈bK B)=decide (pB d s p∈bK B1):=Z7.mpr (ay_5 sr s1 (pB d s p));rw[dd]at iz;have el:c_7 [d,Av p s m]=.ok (.sh (.tup [.int (pA d s p:Int),.int (pB d s p:Int)])):=k_4 z hd;have eo:=bf_1 (kds:=kds) z hd (.dic kds);have hT:T.length<=1000:=by omega
 let w0:=Es T kds ks
 have q1:Dr 5 (Dl [0] (By #v[Bo "table" 0 [("Living",b_7)] (Aa 0) Ac,Bo "kept" 0 [("Living",b_9)] (Aa 0) Ac])) (as_5 11 (Al p s m T kds) kds [d,.int v,Av p s m])=.nx [.lt (Al p s m T kds),.lt (Tn.of (.dic kds)),.sh d,.sh (.int v),.sh (Av p s m),.sh w0,.no,.no,.no,.no,.no]:=by
  show Dr 5 _ (.lt (Al p s m T kds):: [.lt (Tn.of (.dic kds)),.sh d,.sh (.int v),.sh (Av p s m),.no,.no,.no,.no,.no,.no])=_;unfold Dr;rw[ck_0 h hT];rfl
 have q2:Dw (gP 9 10) [2,4] (Bi 2 c_7 #v[2,4]) [.lt (Al p s m T kds),.lt (Tn.of (.dic kds)),.sh d,.sh (.int v),.sh (Av p s m),.sh w0,.no,.no,.no,.no,.no]=.nx [.lt (Al p s m T kds),.lt (Tn.of (.dic kds)),.sh d,.sh (.int v),.sh (Av p s m),.sh w0,.no,.no,.no,.sh (.int (pA d s p:Int)),.sh (.int (pB d s p:Int))]:=by
  simp![Dw,An,Sl.pub,el,gP]
 have q3:Dr 6 (Dl [1] (Ae (Ep false) (Aa 10) (Bi 4 l_3 #v[1,9,2,4]))) [.lt (Al p s m T kds),.lt (Tn.of (.dic kds)),.sh d,.sh (.int v),.sh (Av p s m),.sh w0,.no,.no,.no,.sh (.int (pA d s p:Int)),.sh (.int (pB d s p:Int))]=.nx [.lt (Al p s m T kds),.lt (Tn.of (.dic kds)),.sh d,.sh (.int v),.sh (Av p s m),.sh w0,.sh (.bl (decide (pB d s p∈bK B1))),.no,.no,.sh (.int (pA d s p:Int)),.sh (.int (pB d s p:Int))]:=by
  unfold Dr;rw[dv_8 (w:=.sh (.bl (decide (pB d s p∈bK B1)))) (by simp![An,Sl.pub,et,iz]) rfl];rfl
 have ne:Dt (.int (Ck T [pA d s p,pB d s p] % m)) (.int v)=.ok (.sh (.bl (!decide (Ck T [pA d s p,pB d s p] % m=v)))):=y_4 _ _;have q4:Dr 7 (Dl [0,1] (Ae Dt (Bi 4 e_7 #v[0,1,2,4]) (Aa 3))) [.lt (Al p s m T kds),.lt (Tn.of (.dic kds)),.sh d,.sh (.int v),.sh (Av p s m),.sh w0,.sh (.bl (decide (pB d s p∈bK B1))),.no,.no,.sh (.int (pA d s p:Int)),.sh (.int (pB d s p:Int))]=.nx [.lt (Al p s m T kds),.lt (Tn.of (.dic kds)),.sh d,.sh (.int v),.sh (Av p s m),.sh w0,.sh (.bl (decide (pB d s p∈bK B1))),.sh (.bl (!decide (Ck T [pA d s p,pB d s p] % m=v))),.no,.sh (.int (pA d s p:Int)),.sh (.int (pB d s p:Int))]:=by
  unfold Dr;rw[cw_9 (w:=.sh (.bl (!decide (Ck T [pA d s p,pB d s p] % m=v)))) (by simp![An,Sl.pub,eo,ne]) rfl];rfl
 have g1:=cv_4 (n:=2) (p:=p) (s:=s) (m:=m) (T:=T) (kds:=kds) (M:=m_1) (ga:=Ce (Aa 2) (Ce (Aa 3) Ex)) (Δ:=[.lt (Tn.of (.dic kds)),.sh d,.sh (.int v),.sh (Av p s m),.sh w0,.sh (.bl (decide (pB d s p∈bK B1))),.sh (.bl (!decide (Ck T [pA d s p,pB d s p] % m=v))),.no,.sh (.int (pA d s p:Int)),.sh (.int (pB d s p:Int))]) (ds:=[d,.int v]) rfl rfl;rw[ep]at g1;have q5:∀(x:D) (t':Tn),putS (Dz p s m v T kds d B1 B2)=.ok x t'->Dr 8 (Ge [2,3] (an_3 0 2 m_1 (Ce (Aa 2) (Ce (Aa 3) Ex)))) [.lt (Al p s m T kds),.lt (Tn.of (.dic kds)),.sh d,.sh (.int v),.sh (Av p s m),.sh w0,.sh (.bl (decide (pB d s p∈bK B1))),.sh (.bl (!decide (Ck T [pA d s p,pB d s p] % m=v))),.no,.sh (.int (pA d s p:Int)),.sh (.int (pB d s p:Int))]=.nx [.lt t',.lt (Tn.of (.dic kds)),.sh d,.sh (.int v),.sh (Av p s m),.sh w0,.sh (.bl (decide (pB d s p∈bK B1))),.sh (.bl (!decide (Ck T [pA d s p,pB d s p] % m=v))),.sh x,.sh (.int (pA d s p:Int)),.sh (.int (pB d s p:Int))]:=λx t' e1=>by
  rw[e1]at g1;unfold Dr Ge;rw[show gsome [2,3] [.lt (Al p s m T kds),.lt (Tn.of (.dic kds)),.sh d,.sh (.int v),.sh (Av p s m),.sh w0,.sh (.bl (decide (pB d s p∈bK B1))),.sh (.bl (!decide (Ck T [pA d s p,pB d s p] % m=v))),.no,.sh (.int (pA d s p:Int)),.sh (.int (pB d s p:Int))]= [.lt (Al p s m T kds),.lt (Tn.of (.dic kds)),.sh d,.sh (.int v),.sh (Av p s m),.sh w0,.sh (.bl (decide (pB d s p∈bK B1))),.sh (.bl (!decide (Ck T [pA d s p,pB d s p] % m=v))),.no,.sh (.int (pA d s p:Int)),.sh (.int (pB d s p:Int))] from rfl,g1];rfl
 have pt:=cw_3 z h hd v0 v1 t s1 s2;unfold h_0 aw_9 z_6;rw[Be q1,Be q2,Be q3,Be q4]
 by_cases hst:pB d s p∈bK B1/\¬Ck T [pA d s p,pB d s p] % m=v
 ·obtain⟨h1,h2⟩:=hst;have er:Dz p s m v T kds d B1 B2=.ex ah_1 (Al p s m T kds):=by
   unfold Dz;rw[if_neg (by unfold o_4;omega),if_pos h1]
  have q5':=q5 (.str "stuck") _ (by rw[er];rfl);rw[D6 h1,C1 h2]at q5'⊢;rw[Be q5'];have q6:Bl [6,7] (Cj (Ay (Aa 6)) (Ay (Aa 7))) (o_2 (Dl [0] (eAnd (Ae Cm (Aa 8) (eC (.str "stuck"))) (Ae Cm (By #v[Bo "table" 0 [("Living",b_7)] (Aa 0) Ac,Bo "kept" 0 [("Living",b_9)] (Aa 0) Ac]) (Aa 5))))) Ar [.lt (Al p s m T kds),.lt (Tn.of (.dic kds)),.sh d,.sh (.int v),.sh (Av p s m),.sh w0,.sh (.bl true),.sh (.bl (!false)),.sh (.str "stuck"),.sh (.int (pA d s p:Int)),.sh (.int (pB d s p:Int))]=.rv (.bl true) [.lt (Al p s m T kds),.lt (Tn.of (.dic kds)),.sh d,.sh (.int v),.sh (Av p s m),.sh w0,.sh (.bl true),.sh (.bl (!false)),.sh (.str "stuck"),.sh (.int (pA d s p:Int)),.sh (.int (pB d s p:Int))]:=by
   have sm:=ck_1 (p:=p) (s:=s) (m:=m) h hT (δ:=[none,some d,some (.int v),some (Av p s m),some w0,some (.bl true),some (.bl (!false)),some (.str "stuck"),some (.int (pA d s p:Int)),some (.int (pB d s p:Int))]) (i:=5) rfl;have ee:Cm (.str "stuck") (.str "stuck")=.ok (.sh (.bl true)):=by rw[cb_3];simp
   unfold Bl
   simp![An,Sl.any]
   unfold o_2;rw[ad_9 (w:=.sh (.bl true)) (by
    show eAnd (Ae Cm (Aa 8) (eC (.str "stuck"))) (Ae Cm (By #v[Bo "table" 0 [("Living",b_7)] (Aa 0) Ac,Bo "kept" 0 [("Living",b_9)] (Aa 0) Ac]) (Aa 5)) [some (Bm p s m T kds),none,some d,some (.int v),some (Av p s m),some w0,some (.bl true),some (.bl true),some (.str "stuck"),some (.int (pA d s p:Int)),some (.int (pB d s p:Int))]=_;unfold eAnd;rw[show Ae Cm (Aa 8) (eC (.str "stuck")) [some (Bm p s m T kds),none,some d,some (.int v),some (Av p s m),some w0,some (.bl true),some (.bl true),some (.str "stuck"),some (.int (pA d s p:Int)),some (.int (pB d s p:Int))]=.ok (.sh (.bl true)) from ee];exact sm) rfl]
   rfl
  unfold Ag;rw[q6];refine⟨T,kds,ks, ?_,z,h,t,M7 _⟩;show(match unS (kds.map λp=>(p.1,Tn.sh p.2)) with|some k=>RR2.ok (.bl true) (Al p s m T kds) k|none=> .no)=_;rw[ao_0]
 ·have nst:∃c T',T'.length=T.length/\Told p s m T' (Di kds (Bg d) (.int v))/\Dz p s m v T kds d B1 B2=.ok (.int c) (Al p s m T' (Di kds (Bg d) (.int v))):=by
   rcases pt with q|q
   ·exact q
   ·exfalso;unfold Dz at q
    split at q
    ·cases q
    ·rename_i hz
     split at q
     ·rename_i hb;exact hst ⟨hb,λe=>hz (by unfold o_4;omega)⟩
     ·split at q <;> cases q
  obtain⟨c,T',tl',tt,er⟩:=nst;have z':Szs p s m T':=⟨z.p0,z.p1,z.s0,z.s1,z.m0,z.m1,by rw[tl'];exact z.tl⟩;have h':=h.put (v:=v) hd hl;have hv:Bh (Di kds (Bg d) (.int v)) (Bg d)=some (.int v):=by rw[bs_0,if_pos rfl]
  have ev:=tt.val d v hd hv;have q5':=q5 (.int c) _ (by rw[er];rfl);rw[Be q5'];have ht:(decide (pB d s p∈bK B1) && !decide (Ck T [pA d s p,pB d s p] % m=v))=false:=by
   cases hh:(decide (pB d s p∈bK B1) && !decide (Ck T [pA d s p,pB d s p] % m=v)) with
   |false=>rfl
   |true=>
    rw[D9]at hh;exact absurd ⟨N4 hh.1,by simpa using hh.2⟩ hst
  let aa:=Di kds (Bg d) (.int v)
  have q6:∀g:FS,Bl [6,7] (Cj (Ay (Aa 6)) (Ay (Aa 7))) g Ar [.lt (Al p s m T' aa),.lt (Tn.of (.dic kds)),.sh d,.sh (.int v),.sh (Av p s m),.sh w0,.sh (.bl (decide (pB d s p∈bK B1))),.sh (.bl (!decide (Ck T [pA d s p,pB d s p] % m=v))),.sh (.int c),.sh (.int (pA d s p:Int)),.sh (.int (pB d s p:Int))]=.nx [.lt (Al p s m T' aa),.lt (Tn.of (.dic kds)),.sh d,.sh (.int v),.sh (Av p s m),.sh w0,.sh (.bl (decide (pB d s p∈bK B1))),.sh (.bl (!decide (Ck T [pA d s p,pB d s p] % m=v))),.sh (.int c),.sh (.int (pA d s p:Int)),.sh (.int (pB d s p:Int))]:=λg=>by
   generalize decide (pB d s p∈bK B1)=b1 at ht⊢;generalize (!decide (Ck T [pA d s p,pB d s p] % m=v))=b2 at ht⊢;cases b1 <;> cases b2 <;> first|rfl|cases ht
  generalize decide (pB d s p∈bK B1)=b1 at q6⊢;generalize (!decide (Ck T [pA d s p,pB d s p] % m=v))=b2 at q6⊢;rw[Be (q6 _)];have e4:∀a1 a4 a5 a6 a7 a8 a9 a10:Option D,Bo "value" 1 [("Living",b_8)] (Aa 0) #v[2] [some (Bm p s m T' aa),a1,some d,some (.int v),a4,a5,a6,a7,a8,a9,a10]=.ok (.sh (.int v)):=λ_ _ _ _ _ _ _ _=>(Fp (w:=.sh d) rfl rfl nofun).trans (by rw[W.d_sh,ak_1 z' hd,ev]);have nv:Dt (.int v) (.int v)=.ok (.sh (.bl false)):=by rw[y_4,D6 rfl];rfl
  have q7:Bl [0,2,3,8] (El (Ah (Ae Cm (Aa 8) (eC (.str "stuck")))) (Ah (Ae Dt (Bo "value" 1 [("Living",b_8)] (Aa 0) #v[2]) (Aa 3)))) (o_2 (w_4 [] (eC (.bl false)))) Ar [.lt (Al p s m T' aa),.lt (Tn.of (.dic kds)),.sh d,.sh (.int v),.sh (Av p s m),.sh w0,.sh (.bl b1),.sh (.bl b2),.sh (.int c),.sh (.int (pA d s p:Int)),.sh (.int (pB d s p:Int))]=.nx [.lt (Al p s m T' aa),.lt (Tn.of (.dic kds)),.sh d,.sh (.int v),.sh (Av p s m),.sh w0,.sh (.bl b1),.sh (.bl b2),.sh (.int c),.sh (.int (pA d s p:Int)),.sh (.int (pB d s p:Int))]:=by
   simp![An,Sl.any,v_4,cx_0,e4,nv]
  have q8:br_5 1 (Aa 2) (Aa 3) [.lt (Al p s m T' aa),.lt (Tn.of (.dic kds)),.sh d,.sh (.int v),.sh (Av p s m),.sh w0,.sh (.bl b1),.sh (.bl b2),.sh (.int c),.sh (.int (pA d s p:Int)),.sh (.int (pB d s p:Int))]=.nx [.lt (Al p s m T' aa),.lt (Tn.of (.dic aa)),.sh d,.sh (.int v),.sh (Av p s m),.sh w0,.sh (.bl b1),.sh (.bl b2),.sh (.int c),.sh (.int (pA d s p:Int)),.sh (.int (pB d s p:Int))]:=by
   have ax:Sl.dct (.lt (Tn.of (.dic kds)))=some (kds,true):=by
    show(unS (kds.map λp=>(p.1,Tn.sh p.2))).map _=_;rw[ao_0];rfl
   have zk:kds.length < 16777216:=by rw[h.length];omega
   unfold br_5
   simp![O0,M9,Option.bind_some,ax,An,Sl.pub,q_1 hd,zk,if_true]
   rfl
  rw[Be q7,Be q8];have ek:∀δ,Bo "kept" 0 [("Living",b_9)] (Aa 0) Ac (some (Bm p s m T' aa)::δ)=.ok (.ow (.lst (ak_3 aa (if Db kds (Bg d)=true then ks else ks ++ [d])))):=λ δ=>(met0 rfl nofun).trans (cd_7 h');have kl:(ak_3 aa (if Db kds (Bg d)=true then ks else ks ++ [d])).length=aa.length:=cv_3 h';have el2:Cm (.int (aa.length:Int)) (.int (aa.length:Int))=.ok (.sh (.bl true)):=by rw[i_7];simp
  have q9:o_2 (Dl [0,1] (Ae Cm (At x_8 #v[Bo "kept" 0 [("Living",b_9)] (Aa 0) Ac]) (At Cw #v[1]))) [.lt (Al p s m T' aa),.lt (Tn.of (.dic aa)),.sh d,.sh (.int v),.sh (Av p s m),.sh w0,.sh (.bl b1),.sh (.bl b2),.sh (.int c),.sh (.int (pA d s p:Int)),.sh (.int (pB d s p:Int))]=.rv (.bl true) [.lt (Al p s m T' aa),.lt (Tn.of (.dic aa)),.sh d,.sh (.int v),.sh (Av p s m),.sh w0,.sh (.bl b1),.sh (.bl b2),.sh (.int c),.sh (.int (pA d s p:Int)),.sh (.int (pB d s p:Int))]:=by
   unfold o_2;rw[cw_9 (w:=.sh (.bl true)) (by simp![An,ek,o_0,kl,Cw,el2]) rfl];rfl
  rw[q9];refine⟨T',aa,_, ?_,z',h',tt, ?_⟩
  ·show(match unS (aa.map λp=>(p.1,Tn.sh p.2)) with|some k=>RR2.ok (.bl true) (Al p s m T' aa) k|none=> .no)=_;rw[ao_0]
  ·split
   ·omega
   ·rw[B7];simp only[A9,F9];omega
end
section
variable{p s m:Int}{T:List Int}{kds:List (Af×D)}{ks:List D}{d:D}{v:Int}
def dv_9{i n:Nat}{mn:Str}{M:Tn->List D->RR}{ga:SE->R (List D)}{Δ:SE}{ds:List D}(hb:(Δ[i]?).bind Sl.tree=some (Al p s m T kds,false))(hm:lN.contains mn=false)(hg:ga Δ=.ok ds)(hl:ds.length=n):r_0 i n mn "Living" M ga Δ=goR i false Δ (M (Al p s m T kds) ds):=by
 unfold r_0;rw[hb];unfold Al;simp only[hm,Z6,if_true,hg,hl]
def dh_4{i j n:Nat}(hij:i≠j){M:Tn->List (Af×D)->List D->RR2}{ga:SE->R (List D)}{Δ:SE}{ds:List D}{k2:List (Af×D)}(hb:(Δ[i]?).bind Sl.tree=some (Al p s m T kds,false))(hb2:(Δ[j]?).bind Sl.dct=some (k2,false))(hg:ga Δ=.ok ds)(hl:ds.length=n):aj_4 i j n M ga Δ=goR2 i j false false Δ (M (Al p s m T kds) k2 ds):=by
 unfold aj_4;rw[hb,hb2];unfold Al;simp only[hg,hl,if_true,hij,S9]
variable{nsD sz:D}{k:Int}{a5 a6 a7:Sl}
abbrev Ek(nsD sz:D)(t:Tn)(kds:List (Af×D))(k:Int)(a5 a6 a7:Sl):SE:=[.sh nsD,.sh sz,.tr t,.ow (.dic kds),.sh (.int k),a5,a6,a7]
def dq_5{t:Tn}:k_3 [3] (Ek nsD sz t kds k a5 a6 a7)=true:=by
 show((Tn.of (.dic kds)).lends && true)=true;rw[ao_4];rfl
def dq_6:k_3 [2] (Ek nsD sz (Al p s m T kds) kds k a5 a6 a7)=true:=by
 show((Al p s m T kds).lends && true)=true;rw[ag_6];rfl
def cx_1(ns:List Int)(hns:ns.length<=63)(hk0:0<=k)(hk1:k<=40)(z:Szs p s m T)(h:KOk kds ks)(t:Told p s m T kds)(hl:ks.length < 40):
  ∃(T':List Int) (aa:List (Af×D)) (ks':List D) (b5 b6 b7:Sl),as_6 (Ek (.lst (ns.map .int)) (Av p s m) (Al p s m T kds) kds k a5 a6 a7)=.nx (Ek (.lst (ns.map .int)) (Av p s m) (Al p s m T' aa) aa k b5 b6 b7)/\Szs p s m T'/\KOk aa ks'/\Told p s m T' aa/\ks'.length<=ks.length + 1:=by
 have hm:0 < m:=by have:=z.m0;omega
 obtain⟨b,d,v,ed,hb,hd,v0,v1⟩:=dg_6 (p:=p) (s:=s) ns k hk0 () () h z.m0 z.m1;have ed:l_1 [.lst (ns.map .int),.int 3,.int k,.dic kds,Av p s m]=.ok (.sh (.tup [.int b,d,.int v])):=ed;have hkd:=q_1 hd;have r1:=ak_7 z h t hd;have r2:=ak_7 z h t (d:=.int k) (.inl ⟨k,rfl,hk0,by omega⟩);have em:=ag_5 k 5 ⋯ ⋯;have ev:=ak_1 (kds:=kds) z hd;have edr:Db kds (Bg d)=true->f_7 (Al p s m T kds) [d]=.ok .non (Al p s m T (Eo kds (Bg d))):=cu_9 hd;have ld:=v_4 (p:=p) (s:=s) (m:=m) (T:=T) (kds:=kds);have w0:=K3 (Ck T [pA d s p,pB d s p]) (show m≠0 by omega);have w1:=J6 (Ck T [pA d s p,pB d s p]) hm;have pr:=λ(u:Int) (u0:0<=u) (u1:u < m)=>bl_1 z h t hd u0 u1 hl;have em1:∀δ0 δ1 δ3 δ4 δ6 δ7,Bo "value" 1 [("Living",b_8)] (Aa 2) #v[5] [δ0,δ1,some (Bm p s m T kds),δ3,δ4,some d,δ6,δ7]=.ok (.sh (.int (Ck T [pA d s p,pB d s p] % m))):=λ_ _ _ _ _ _=>(Fp (w:=.sh d) rfl rfl nofun).trans ev;generalize hnD:D.lst (ns.map .int)=nD at *
 generalize hsz:Av p s m=sz at *
 have q1:br_0 (bd_1 [7,5,6]) (Dl [3] (Bi 5 l_1 #v[0,eC (.int 3),4,3,1])) (Ek nD sz (Al p s m T kds) kds k a5 a6 a7)=.nx (Ek nD sz (Al p s m T kds) kds k (.sh d) (.sh (.int v)) (.sh (.int b))):=by
  have g1:Bi 5 l_1 #v[0,eC (.int 3),4,3,1] [some nD,some sz,none,some (.dic kds),some (.int k),a5.pub,a6.pub,a7.pub]=.ok (.sh (.tup [.int b,d,.int v])):=by
   simp![An,ed]
  have pd:t_1 (.sh (.tup [.int b,d,.int v]))=true:=by
   show Fa (.tup [.int b,d,.int v])=true;simp only[Fa,Ew,ao_1 hd,L7]
  unfold br_0 Dl;rw[dq_5,if_pos rfl,show Dp [3] (Ek nD sz (Al p s m T kds) kds k a5 a6 a7)= [some nD,some sz,none,some (.dic kds),some (.int k),a5.pub,a6.pub,a7.pub] from rfl,g1];simp only[pd,if_true];rfl
 have q2:Bl [1,2,3,4,5] (El (Cd (Ay (Bi 4 g_9 #v[2,3,5,1]))) (Cd (Ay (Bi 4 g_9 #v[2,3,4,1])))) (As [] (eC (.bl false))) Ar (Ek nD sz (Al p s m T kds) kds k (.sh d) (.sh (.int v)) (.sh (.int b)))=.nx (Ek nD sz (Al p s m T kds) kds k (.sh d) (.sh (.int v)) (.sh (.int b))):=by
  simp![An,Sl.any,ld,r1,r2]
 have q3:∃u,0<=u/\u < m/\Bl [4] (Ah (Ae Cm (Ae Bu (Bi 2 g_5 #v[4,eC (.int 5)]) (eC (.int 3))) (eC (.int 0)))) (Dr 6 (Dl [2] (Bo "value" 1 [("Living",b_8)] (Aa 2) #v[5]))) Ar (Ek nD sz (Al p s m T kds) kds k (.sh d) (.sh (.int v)) (.sh (.int b)))=.nx (Ek nD sz (Al p s m T kds) kds k (.sh d) (.sh (.int u)) (.sh (.int b))):=by
  by_cases h3:mixZ k 5 % 3=0
  ·refine⟨_,w0,w1, ?_⟩;unfold Bl
   simp![An,Sl.any,em,Cy (show(0:Int) < 3 by decide),i_7,h3]
   unfold Dr Dl;rw[dq_6,if_pos rfl];have hv:Dp [2] (Ek nD sz (Al p s m T kds) kds k (.sh d) (.sh (.int v)) (.sh (.int b)))= [some nD,some sz,some (Bm p s m T kds),none,some (.int k),some d,some (.int v),some (.int b)]:=by
    rw[<-ld];rfl
   rw[hv,em1];rfl
  ·refine⟨v,v0,v1, ?_⟩
   simp![An,Sl.any,em,Cy (show(0:Int) < 3 by decide),i_7,h3]
 obtain⟨u,u0,u1,q3⟩:=q3;have ht:∀g1 g2:FS,Bl [3,5,7] (Cj (Ah (Ae Cm (Aa 7) (eC (.int 1)))) (Ah (Ae (Dq false) (Aa 5) (Aa 3)))) g1 g2 (Ek nD sz (Al p s m T kds) kds k (.sh d) (.sh (.int u)) (.sh (.int b)))=if b=1/\Db kds (Bg d)=true then g1 (Ek nD sz (Al p s m T kds) kds k (.sh d) (.sh (.int u)) (.sh (.int b))) else g2 (Ek nD sz (Al p s m T kds) kds k (.sh d) (.sh (.int u)) (.sh (.int b))):=λg1 g2=>by
  rcases hb with rfl|rfl
  ·have:¬(0:Int)=1:=by decide
   simp![An,Sl.any,i_7,this,false_and]
  ·cases hh:Db kds (Bg d) with
   |true=>simp![An,Sl.any,i_7,Dq,hkd,hh,if_true,Z6]
   |false=>simp![An,Sl.any,i_7,Dq,hkd,hh,if_true,true_and]
 unfold as_6;rw[Be q1,Be q2,Be q3,ht]
 by_cases hc:b=1/\Db kds (Bg d)=true
 ·rw[if_pos hc];have g1:=dv_9 (i:=2) (p:=p) (s:=s) (m:=m) (T:=T) (kds:=kds) (n:=1) (M:=f_7) (mn:= "drop") (ga:=Ce (Aa 5) Ex) (Δ:=Ek nD sz (Al p s m T kds) kds k (.sh d) (.sh (.int u)) (.sh (.int b))) (ds:=[d]) rfl nofun rfl rfl;rw[edr hc.2]at g1;have q4:t_3 (Ge [5] (r_0 2 1 "drop" "Living" f_7 (Ce (Aa 5) Ex))) (Ek nD sz (Al p s m T kds) kds k (.sh d) (.sh (.int u)) (.sh (.int b)))=.nx (Ek nD sz (Al p s m T (Eo kds (Bg d))) kds k (.sh d) (.sh (.int u)) (.sh (.int b))):=by
   unfold t_3 Ge;rw[show gsome [5] (Ek nD sz (Al p s m T kds) kds k (.sh d) (.sh (.int u)) (.sh (.int b)))=Ek nD sz (Al p s m T kds) kds k (.sh d) (.sh (.int u)) (.sh (.int b)) from rfl,g1];rfl
  have q5:cc_3 3 (Aa 5) (Ek nD sz (Al p s m T (Eo kds (Bg d))) kds k (.sh d) (.sh (.int u)) (.sh (.int b)))=.nx (Ek nD sz (Al p s m T (Eo kds (Bg d))) (Eo kds (Bg d)) k (.sh d) (.sh (.int u)) (.sh (.int b))):=by
   show(match Dv d with
    |some k'=>if(Bh kds k').isSome=true then Fl.nx (Ek nD sz (Al p s m T (Eo kds (Bg d))) (Eo kds k') k (.sh d) (.sh (.int u)) (.sh (.int b))) else .no
    |none=> .no)=_
   rw[hkd];have:=hc.2;unfold Db at this;simp only[this,if_true]
  exact⟨T,_,_,_,_,_,(Be q4).trans q5,z,h.drop,ck_5 t,D4 (L4 _ _) (M7 _)⟩
 ·rw[if_neg hc];obtain⟨T',aa,ks',e,z',h',t',l'⟩:=pr u u0 u1;have g1:=dh_4 (i:=2) (j:=3) ⋯ (p:=p) (s:=s) (m:=m) (T:=T) (kds:=kds) (k2:=kds) (n:=3) (M:=h_0) (ga:=Ce (Aa 5) (Ce (Aa 6) (Ce (Aa 1) Ex))) (Δ:=Ek nD sz (Al p s m T kds) kds k (.sh d) (.sh (.int u)) (.sh (.int b))) (ds:=[d,.int u,sz]) rfl rfl rfl rfl;rw[e]at g1;refine⟨T',aa,ks',.sh d,.sh (.int u),.sh (.int b), ?_,z',h',t',l'⟩;unfold sIfM mNot cc_2 Ge;rw[show gsome [1,5,6] (Ek nD sz (Al p s m T kds) kds k (.sh d) (.sh (.int u)) (.sh (.int b)))=Ek nD sz (Al p s m T kds) kds k (.sh d) (.sh (.int u)) (.sh (.int b)) from rfl,g1];rfl
end
def cx_2{n k:Nat}{d:D}(e:(q_9 0 n)[k]? =some d):d=.int (k:Int)/\k < n:=by
 unfold q_9 at e;rw[A8]at e;obtain⟨j,hj,rfl⟩:=E7.mp e;obtain⟨hl,ej⟩:=B4.mp hj;rw[List.getElem_range]at ej;rw[U2]at hl;subst ej;exact⟨by rw[Int.zero_add],hl⟩
def dh_5(ns:List Int)(hn:ns.length<=63):∃z:Int,p_0 [.lst (ns.map .int),.int 3,.int 40]=.ok (.sh (.int z))/\0<=z/\z<=40:=by
 have ec:=as_8 ns 2 ⋯ ⋯;refine⟨min 40 (max (max 0 ((ns.length:Int) - 3)) (aq_1 ns 2 % 41)), ?_,by omega,by omega⟩
 simp![p_0,ax_1,An,o_0,A3,v_0,Fz,cq_3,do_1,Cy (show(0:Int) < 41 by decide),ec,show(3:Int) - 1=2 from rfl,show(40:Int) + 1=41 from rfl]
def cx_3(ns:List Int)(hn:ns.length<=63):∃v,di_6 [.lst (ns.map .int)]=.ok v/\v.d=.bl true:=by
 obtain⟨p,s,m,es,p0,p1,s0,s1,m0,m1⟩:=cu_2 ns;have ei:=dg_1 (s:=s) (m:=m) (show 0 < p by omega) p1;obtain⟨w,ew,hw0,hw⟩:=dh_5 ns hn;have z0:Szs p s m (List.replicate (2 * p).toNat 0):=⟨by omega,p1,s0,by omega,m0,m1,by rw[L1];omega⟩;have k0:KOk [] []:=⟨λ_ h=>(S7 h).elim,List.nodup_nil,rfl,λ_ h=>(S7 h).elim,by decide⟩;have t0:Told p s m (List.replicate (2 * p).toNat 0) []:=⟨λt ht=>by rw[List.eq_of_mem_replicate ht];omega,λd n _ e=>by cases e⟩
 let I:Nat->SE->Prop:=λi Δ=>∃(T:List Int) (kds:List (Af×D)) (ks:List D) (a4 a5 a6 a7:Sl),Δ= [.sh (.lst (ns.map .int)),.sh (Av p s m),.tr (Al p s m T kds),.ow (.dic kds),a4,a5,a6,a7]/\Szs p s m T/\KOk kds ks/\Told p s m T kds/\ks.length<=i
 obtain⟨n,hn40,en⟩:∃n:Nat,n<=40/\w.toNat=n:=⟨w.toNat,by omega,rfl⟩;obtain⟨Δ',e,T,kds,ks,a4,a5,a6,a7,rfl,z,h,t,_⟩:=s_1 (gV 4) as_6 I (ds:=q_9 0 n) (Δ:=[.sh (.lst (ns.map .int)),.sh (Av p s m),.tr (Al p s m (List.replicate (2 * p).toNat 0) []),.ow (.dic []),.no,.no,.no,.no])
  ⟨_,[],[],.no,.no,.no,.no,rfl,z0,k0,t0,B5 _⟩ (λi d Δ hd ⟨T,kds,ks,a4,a5,a6,a7,e,z,h,t,hl⟩=>by
   subst e;obtain⟨rfl,hi⟩:=cx_2 hd;obtain⟨T',aa,ks',b5,b6,b7,e,z',h',t',l'⟩:=cx_1 (k:=(i:Int)) (a5:=a5) (a6:=a6) (a7:=a7) ns hn () () z h t ();exact⟨_,rfl,_,.inl e,T',aa,ks',_,b5,b6,b7,rfl,z',h',t',by omega⟩)
 have e1:bk_0 (Ba 8 [.lst (ns.map .int)])=.nx [.sh (.lst (ns.map .int)),.sh (Av p s m),.no,.no,.no,.no,.no,.no]:=by
  simp![bk_0,An,es]
 have i0:Bf (Av p s m) (.int 0)=.ok (.sh (.int p)):=rfl;have i1:Bf (Av p s m) (.int 1)=.ok (.sh (.int s)):=rfl;have i2:Bf (Av p s m) (.int 2)=.ok (.sh (.int m)):=rfl;have e2:bk_1 [.sh (.lst (ns.map .int)),.sh (Av p s m),.no,.no,.no,.no,.no,.no]=.nx [.sh (.lst (ns.map .int)),.sh (Av p s m),.tr (Al p s m (List.replicate (2 * p).toNat 0) []),.no,.no,.no,.no,.no]:=by
  simp![bk_1,An,cs_0,i0,i1,i2,ei]
  rfl
 have e3:cd_0 [.sh (.lst (ns.map .int)),.sh (Av p s m),.tr (Al p s m (List.replicate (2 * p).toNat 0) []),.no,.no,.no,.no,.no]=.nx [.sh (.lst (ns.map .int)),.sh (Av p s m),.tr (Al p s m (List.replicate (2 * p).toNat 0) []),.ow (.dic []),.no,.no,.no,.no]:=rfl;have e4:bk_2 [.sh (.lst (ns.map .int)),.sh (Av p s m),.tr (Al p s m (List.replicate (2 * p).toNat 0) []),.ow (.dic []),.no,.no,.no,.no]=.nx [.sh (.lst (ns.map .int)),.sh (Av p s m),.tr (Al p s m T kds),.ow (.dic kds),a4,a5,a6,a7]:=by
  have hi:Fb rng1 #v[Bi 3 p_0 #v[0,eC (.int 3),eC (.int 40)]] (Aw [.sh (.lst (ns.map .int)),.sh (Av p s m),.tr (Al p s m (List.replicate (2 * p).toNat 0) []),.ow (.dic []),.no,.no,.no,.no])=.ok (q_9 0 n):=by
   have hr:=bi_2 (j:=w) () ()
   simp![An,Sl.pub,ew,hr,en]
  unfold bk_2 y_1;rw[hi];exact e
 have ld:=v_4 (p:=p) (s:=s) (m:=m) (T:=T) (kds:=kds)
 let J:Nat->SE->Prop:=λ_ Δ=>∃b5 b6:Sl,Δ= [.sh (.lst (ns.map .int)),.sh (Av p s m),.tr (Al p s m T kds),.sh (.dic kds),a4,b5,b6,a7]
 obtain⟨Δ'',e5l,b5,b6,rfl⟩:=s_1 (Gi 5 6) as_7 J (ds:=kds.map λq=> .tup [kD q.1,q.2]) (Δ:=[.sh (.lst (ns.map .int)),.sh (Av p s m),.tr (Al p s m T kds),.sh (.dic kds),a4,a5,a6,a7]) ⟨_,_,rfl⟩ (λi d Δ hd ⟨b5,b6,e⟩=>by
  subst e;rw[A8]at hd;obtain⟨q,hq,rfl⟩:=E7.mp hd;obtain⟨d,n,hd,hk,a1,a2,a3,av⟩:=h.row (M6 hq);rw[a1,a3];refine⟨_,rfl,_,.inl ?_,.sh d,.sh (.int n),rfl⟩;have em1:∀δ0 δ1 δ3 δ4 δ6 δ7,Bo "value" 1 [("Living",b_8)] (Aa 2) #v[5] [δ0,δ1,some (Bm p s m T kds),δ3,δ4,some d,δ6,δ7]=.ok (.sh (.int n)):=λ_ _ _ _ _ _=>(Fp (w:=.sh d) rfl rfl nofun).trans (by rw[W.d_sh,ak_1 z hk,t.val d n hk av]);have ne:Dt (.int n) (.int n)=.ok (.sh (.bl false)):=by rw[y_4,D6 rfl];rfl
  simp![as_7,An,Sl.any,ld,em1,ne])
 have e5:cd_1 [.sh (.lst (ns.map .int)),.sh (Av p s m),.tr (Al p s m T kds),.ow (.dic kds),a4,a5,a6,a7]=.nx [.sh (.lst (ns.map .int)),.sh (Av p s m),.tr (Al p s m T kds),.sh (.dic kds),a4,b5,b6,a7]:=by
  show bd_7 (Cu (Gi 5 6) as_7 (kds.map λq=> .tup [kD q.1,q.2]) [.sh (.lst (ns.map .int)),.sh (Av p s m),.tr (Al p s m T kds),.sh (.dic kds),a4,a5,a6,a7])=_;rw[e5l];rfl
 refine⟨.sh (.bl true),k_6 ?_,rfl⟩;unfold di_5;rw[Be e1,Be e2,Be e3,Be e4,Be e5];rfl
end My
set_option maxHeartbeats 20000000
namespace My
open PySem PyProof.Rows L2 L3
local macro_rules|`(#v[])=>`(Ax)|`(#v[$n:num])=>`(Aj (Ad $n) Ax)|`(#v[$x])=>`(Aj $x Ax)|`(#v[$n:num,$xs,*])=>`(Aj (Ad $n) #v[$xs,*])|`(#v[$x,$xs,*])=>`(Aj $x #v[$xs,*])
def Bn(i:Nat):Stmt:=PySem.Challenge.pw_lodge_k73_rings_and_stuck.main.body.getD i (.Pass ⟨0,0,0,0⟩)
def ao_5:Stmt->List Stmt
 | .ClassDef (body:=b) .. =>b
 |_=> []
def Fu(i j:Nat):Stmt:=(ao_5 (Bn i)).getD j (.Pass ⟨0,0,0,0⟩)
abbrev AH(P:Program)(w:World)(K:Frag)(p:Str->Option Value)(r:Heap)(f:Addr)(u:FuncData)(x:Str)(i k:Nat)(ps:List Str)(n:Nat)(g:List D->R W):Prop:=Fun K x x (Bn i) f u->FnX P w K p r true k f u ps (Bx K n g)
abbrev AI(P:Program)(w:World)(K:Frag)(p:Str->Option Value)(r:Heap)(f:Addr)(u:FuncData)(x:Str)(q:Str)(i j k:Nat)(ps:List Str)(n:Nat)(g:List D->R W):Prop:=Fun K x q (Fu i j) f u->FnX P w K p r true k f u ps (Bx K n g)
section
variable{P:Program}{w:World}{K:Frag}{p:AB}{r:Heap}{f:Addr}{u:FuncData}
abbrev TF(c:Bool)(x:Str)(k:Nat)(ps:List Str)(F:AF)(P:Program)(w:World)(K:Frag)(p:AB)(r:Heap):Prop:=FnD P w K p r c x k ps F
abbrev bf_2:=TF true "_law_mix" 1 ["_law_cell_here","_law_k"] g_5
abbrev Lr:List Str:=["_law_script","_law_k"]
abbrev ay_7:=TF true "_law_cell" 2 Lr j_0
abbrev aq_4:=TF true "_law_sizes" 3 ["_law_script","_law_most"] p_7
abbrev Lx:List Str:=["_law_script","_law_start","_law_most"]
abbrev ay_8:=TF true "_law_many" 3 Lx p_0
abbrev bf_3:=TF true "_law_raw" 3 Lr p_1
abbrev ay_9:=TF true "_law_text" 1 ["_law_cell_here"] t_5
abbrev bf_4:=TF true "_law_key" 2 ["_law_cell_here"] l_7
abbrev Lg:List Str:=["_law_script","_law_start","_law_k","_law_kept","_law_sizes_here"]
abbrev az_0:=TF true "_law_deed" 4 Lg l_1
abbrev aq_5:=TF true "_law_stamp" 1 ["_law_key_here"] l_2
abbrev L11:List Str:=["_law_number","_law_salt","_law_size"]
abbrev aq_6:=TF true "_law_mixed" 1 L11 n_2
abbrev ak_8:=TF true "_law_places" 2 ["_law_key_here","_law_sizes_here"] c_7
abbrev Lm:List Str:=["_law_kept","_law_start","_law_without","_law_sizes_here"]
abbrev az_1:=TF true "_law_tied" 3 Lm l_3
abbrev Ln:List Str:=["_law_ring","_law_kept","_law_key_here","_law_sizes_here"]
abbrev w_9:=TF true "_law_ring_right" 4 Ln f_6
abbrev La:List Str:=["_law_living","_law_kept","_law_key_here","_law_sizes_here"]
abbrev x_0:=TF true "_law_others_say" 3 La e_7
abbrev Ly:List Str:=["_law_ring","_law_kept","_law_modulus"]
abbrev ak_9:=TF true "_law_forced" 1 Ly o_3
abbrev az_2:=TF true "steps_to" 1 ["start","ways"] i_5
abbrev u_9:=TF true "keys_on_the_way" 1 ["place","steps"] k_7
abbrev af_5:=TF true "is_key_text" 1 ["text"] m_7
abbrev bs_3:=TF true "is_key" 2 ["thing"] w_7
abbrev ce_5:=TF true "worth" 1 ["text"] aj_7
abbrev ce_6:=TF true "stamp" 3 ["key"] m_0
abbrev ce_7:=TF true "mixed" 1 ["number","salt","size"] aj_8
abbrev aq_7:=TF true "places_of" 4 ["key","salt","kind","part"] p_8
abbrev bf_5:=TF true "ways_at" 1 ["places_by_key"] ad_5
abbrev z_8:=TF true "_law_ring_told" 8 La g_9
abbrev az_3:=TF true "is_below" 1 ["number","limit"] j_1
abbrev L16:List Str:=["number","modulus"]
abbrev aq_8:=TF true "remainder" 1 L16 n_3
abbrev bs_4:=TF true "summed" 2 ["table","places","modulus"] ab_9
def bn1:= @Fun.binds1
def bn2:= @Fun.binds2
def bn3:= @Fun.binds3
def bn4:= @Fun.binds4
def bn5:= @Fun.binds5
abbrev u_0:Stmt:=(ao_5 (Bn 3)).getD 0 (.Pass ⟨0,0,0,0⟩)
abbrev Lz:List Str:=["self","at"]
def ar_2:FnScope Lz Lz (Ch u_0):=⟨rfl,rfl,rfl,by decide +kernel,rfl,by decide +kernel,by decide +kernel⟩
def ar_3{C f:Addr}{u:FuncData}(F:Fun K "__init__" "NoValue.__init__" u_0 f u)(xc:XCls K C)(hn:findIn K (.ref C) "at" =some none):FnX P w K p r false 1 f u Lz (an_0 C "at"):=
 cb_6 (k:=0) F ar_2 λzp A outer s H E=>bf_7 (cb_4 xc hn (Ff rfl (.inl rfl)) (Ff rfl (.inl rfl)))
abbrev z_3:Stmt:=(ao_5 (Bn 2)).getD 0 (.Pass ⟨0,0,0,0⟩)
def ba_7:FnScope Lz Lz (Ch z_3):=⟨rfl,rfl,rfl,by decide +kernel,rfl,by decide +kernel,by decide +kernel⟩
def ba_8{C f:Addr}{u:FuncData}(F:Fun K "__init__" "NoKey.__init__" z_3 f u)(xc:XCls K C)(hn:findIn K (.ref C) "at" =some none):FnX P w K p r false 1 f u Lz (an_0 C "at"):=
 cb_6 (k:=0) F ba_7 λzp A outer s H E=>bf_7 (cb_4 xc hn (Ff rfl (.inl rfl)) (Ff rfl (.inl rfl)))
def bx_7:AH P w K p r f u "_law_mix" 30 1 ["_law_cell_here","_law_k"] 2 g_5:=λF=>Dc (N:=["_law_cell_here","_law_k","_law_first"]) F λzq m d a o=>(Au (Bp (i:=2) [0,1] (Aq Cp (Aq Ej (Aq Cl (Ad 0) Am) (Aq Cl Am (Aq Ej Am (Ad 1)))) Am) a)
  (Bd (Cf [1,2] (Aq Cp (Aq Cl (Aq Cl (Aq Ej (Aq l_4 (Ad 2) Am) Am) (Aq Ej (Ad 2) (Aq Cl (Aq Ej (Ad 1) (Ad 1)) Am))) (Ad 1)) Am))))
variable(f6:bf_2 P w K p r)(d9:p "len" =none)
abbrev Lw:List Str:=["_law_script","_law_k","_law_cell_here"]
def bs_5:AH P w K p r f u "_law_cell" 31 2 Lr 2 j_0:=λF=>Dc (N:= Lw) F λzq m d a o=>(Au (Bp (i:=2) [] Am a)
  (Au (Df [0,1] (Cn au_5 (Ad 1) (Fj i_2 rfl d9 F8 #v[0]) (De _))
   (Bd (Bp (i:=2) [0,1] (Aq Cp (Ct (Ad 0) (Ad 1)) Am) a))
   Dg)
  (Bd (Cf [1,2] (Bw m o f6 #v[2,Aq Cl (Ad 1) Am])))))
variable(g8:ay_7 P w K p r)
def bl_2:AH P w K p r f u "_law_sizes" 38 3 ["_law_script","_law_most"] 2 p_7:=λF=>Dc (N:=["_law_script","_law_most","_law_cell_here","_law_part","_law_salt","_law_other","_law_modulus"]) F λzq m d a o=>(Au (Bp (i:=2) [0] (Bw m o g8 #v[0,Am]) a)
  (Au (Bp (i:=3) [1,2] (Aq Cl Am (Aq Cp (Ad 2) (Ad 1))) a)
  (Au (Bp (i:=4) [2] (Ct (q_3 #v[Am,Am,Aq Cp (Aq l_4 (Ad 2) Am) Am,Aq Cl (Aq bz_5 Am Am) (Ad 2)]) (Aq Cp (Aq l_4 (Ad 2) Am) Am)) a)
  (Au (Bp (i:=5) [2] (Bw m o f6 #v[2,Am]) a)
  (Au (Bp (i:=6) [5] (Ct (q_3 #v[Am,Am,Aq Cl Am (Aq Cp (Aq l_4 (Ad 5) Am) Am),Am,Am,Am,Aq Cl Am (Aq Cp (Aq l_4 (Ad 5) Am) Am),Am]) (Aq Cp (Ad 5) Am)) a)
  (Bd (Cf [3,4,6] (aa_5 #v[3,4,6]))))))))
variable(aa3:p "max" =none)(ae4:p "min" =none)
def bs_6:AH P w K p r f u "_law_many" 39 3 Lx 3 p_0:=λF=>Dc (N:=["_law_script","_law_start","_law_most","_law_cells"]) F λzq m d a o=>(Au (Bp (i:=3) [0,1] (Fj (al_9 zq) rfl aa3 V2 #v[Am,Aq p_3 (Fj i_2 rfl d9 F8 #v[0]) (Ad 1)]) a)
  (Bd (Cf [0,1,2,3] (Fj (ch_1 zq) rfl ae4 PyProof.Rows.boot_min #v[2,Fj (al_9 zq) rfl aa3 V2 #v[3,Aq Cp (Bw m o g8 #v[0,Aq p_3 (Ad 1) Am]) (Aq Cl (Ad 2) Am)]]))))
def bx_8:AH P w K p r f u "_law_raw" 37 3 Lr 2 p_1:=λF=>Dc (N:= Lw) F λzq m d a o=>(Au (Bp (i:=2) [] Am a)
  (Au (Df [0,1] (Cn au_5 (Ad 1) (Fj i_2 rfl d9 F8 #v[0]) (De _))
   (Bd (Bp (i:=2) [0,1] (Ct (Ad 0) (Ad 1)) a))
   Dg)
  (Au (Df [0] (Cn (n_5 d) (Aq Cp (Bw m o g8 #v[0,Am]) Am) Am (De _))
   (Bd (y_0 2))
   Dg)
  (Bd (Cf [1,2] (Bw m o f6 #v[Bw m o f6 #v[Aq Cp (Ad 2) Am,Aq Cl (Ad 1) Am],1]))))))
variable(m8:p "range" =none)
def bs_7:AH P w K p r f u "_law_text" 35 1 ["_law_cell_here"] 1 t_5:=λF=>Dc (N:=["_law_cell_here","_law_found","_law_rest","_law_k"]) F λzq m d a o=>(Au (Bp (i:=1) [] al_5 a)
  (Au (Bp (i:=2) [0] (Aq l_4 (Ad 0) Am) a)
  (Au (y_2 [0] e_9 zq (am_0 m8 #v[Aq Cp (Ad 0) Am]) (ac_6 (i:=3) a)
   (Au (Bp (i:=1) [1,2] (Aq Cl (Ad 1) (Ct al_5 (Aq Cp (Ad 2) Am))) a)
  (Bd (Bp (i:=2) [2] (Aq l_4 (Ad 2) Am) a))))
  (Bd (y_0 1)))))
variable(o5:ay_9 P w K p r)
def bx_9:AH P w K p r f u "_law_key" 36 2 ["_law_cell_here"] 1 l_7:=λF=>Dc (N:=["_law_cell_here","_law_rest"]) F λzq m d a o=>(Au (Bp (i:=1) [0] (Aq l_4 (Ad 0) Am) a)
  (Au (Df [0] (Cn (n_5 d) (Aq Cp (Ad 0) Am) Am (De _))
   (Bd (Cf [1] (Aq Cp (Ad 1) (Aq bz_5 Am Am))))
   Dg)
  (Au (Df [0] (Cn (n_5 d) (Aq Cp (Ad 0) Am) Am (De _))
   (Bd (Cf [1] (Bw m o o5 #v[1])))
   Dg)
  (Bd (Cf [0,1] (Aq Cp (Ad 1) (Ct (q_3 #v[Am,Am]) (Aq p_3 (Aq Cp (Ad 0) Am) Am))))))))
variable(v7:bf_3 P w K p r)(v6:bf_4 P w K p r)(o7:p "list" =none)
def bs_8:AH P w K p r f u "_law_deed" 40 4 Lg 5 l_1:=λF=>Dc (N:=["_law_script","_law_start","_law_k","_law_kept","_law_sizes_here","_law_cell_here","_law_way","_law_rest","_law_value","_law_key_here"]) F λzq m d a o=>(Au (Bp (i:=5) [0,1,2] (Bw m o v7 #v[0,Aq Cl (Ad 1) (Aq Cp (Ad 2) (Fj (al_9 zq) rfl aa3 V2 #v[Am,Aq p_3 (Fj i_2 rfl d9 F8 #v[0]) (Ad 1)]))]) a)
  (Au (Df [0] (Cn (n_5 d) (Aq Cp (Bw m o g8 #v[0,Am]) Am) Am (De _))
   (Bd (Bp (i:=5) [2,5] (Bw m o f6 #v[Aq Cp (Ad 5) Am,2]) a))
   Dg)
  (Au (Bp (i:=6) [5] (Aq Cp (Ad 5) Am) a)
  (Au (Bp (i:=7) [5] (Aq l_4 (Ad 5) Am) a)
  (Au (Bp (i:=8) [4,7] (Aq Cp (Ad 7) (Ct (Ad 4) Am)) a)
  (Au (Bp (i:=9) [4,7] (Bw m o v6 #v[Aq l_4 (Ad 7) (Ct (Ad 4) Am)]) a)
  (Au (Df [3,6] (td_w (bg_6 (Cn cn_9 (Ad 6) Am (De _)) (ar_7 (Cn (cs_3 d) (Ad 3) as_1 (De _)))))
   (Bd (Bp (i:=9) [3,4,7] (Ct (cs_4 zq o7 (Ad 3)) (Aq Cp (Aq l_4 (Ad 7) (Ct (Ad 4) Am)) (Fj s_0 rfl d9 F8 #v[3]))) a))
   Dg)
  (Bd (Cf [6,8,9] (aa_5 #v[Ct (q_3 #v[Am,Am,Am,Am,Am,Am,Am,Am]) (Ad 6),9,8]))))))))))
variable(c6:p "isinstance" =none)(ab2:p "int" =none)(t9:KitT K "int")
def bl_3:AH P w K p r f u "_law_stamp" 32 1 ["_law_key_here"] 1 l_2:=λF=>Dc (N:=["_law_key_here","_law_worth","_law_sign"]) F λzq m d a o=>(Au (Df [0] (j_5 (af_7 t9 (Ad 0) c6 ab2 PyProof.Rows.boot_int))
   (Bd (Cf [0] (Aq Ej Am (Ad 0))))
   Dg)
  (Au (Bp (i:=1) [] Am a)
  (Au (y_2 [0] e_9 zq (Fw (Ad 0)) (ac_6 (i:=2) a)
   (Bd (Bp (i:=1) [1,2] (Aq Cl (Aq Cl (Aq Ej Am (Ad 1)) Am) (bz_9 ZA5 PySem.F.slot_str_index PySem.F.type_str_index ch_7 al_5 #v[2])) a)))
  (Bd (Cf [1] (Aq Cl (Aq Ej Am (Ad 1)) Am))))))
def bl_4:AH P w K p r f u "_law_mixed" 33 1 L11 3 n_2:=λF=>Dc (N:=["_law_number","_law_salt","_law_size","_law_prime","_law_factor","_law_first"]) F λzq m d a o=>(Au (Bp (i:=3) [] Am a)
  (Au (Bp (i:=4) [1,3] (Aq Cl Am (Aq Cp (Aq Cl (Aq Ej Am (Ad 1)) Am) (Aq p_3 (Ad 3) Am))) a)
  (Au (Bp (i:=5) [0,1,3,4] (Aq Cp (Aq Cl (Aq Ej (Ad 4) (Ad 0)) (Aq Cp (Aq Cl (Aq Ej (Aq Ej Am (Ad 1)) (Ad 1)) (Aq Ej Am (Ad 1))) (Ad 3))) (Ad 3)) a)
  (Bd (Cf [2,5] (Aq Cp (Aq Cl (Ad 5) (Aq l_4 (Ad 5) Am)) (Ad 2)))))))
variable(j7:aq_5 P w K p r)(l4:aq_6 P w K p r)
def ba_9:AH P w K p r f u "_law_places" 34 2 ["_law_key_here","_law_sizes_here"] 2 c_7:=λF=>Dc (N:=["_law_key_here","_law_sizes_here","_law_number","_law_part","_law_salt","_law_modulus"]) F λzq m d a o=>(Au (bh_9 [1] (Ad 1) (cb_8 zq (ad_3 (i:=3) a (ad_3 (i:=4) a (ad_3 (i:=5) a cr_2)))))
  (Au (Bp (i:=2) [0] (Bw m o j7 #v[0]) a)
  (Bd (Cf [2,3,4] (aa_5 #v[Bw m o l4 #v[2,Aq Ej Am (Ad 4),3],Aq Cl (Ad 3) (Bw m o l4 #v[2,Aq Cl (Aq Ej Am (Ad 4)) Am,3])])))))
variable(d7:ak_8 P w K p r)
def bs_9:AH P w K p r f u "_law_tied" 41 3 Lm 4 l_3:=λF=>Dc (N:=["_law_kept","_law_start","_law_without","_law_sizes_here","_law_found","_law_ties","_law_at","_law_both","_law_there"]) F λzq m d a o=>(Au (Bp (i:=4) [1] (q_3 #v[1]) a)
  (Au (ct_5 (i:=5) [0,2,3] (N':=["_law_kept","_law_start","_law_without","_law_sizes_here","_law_found","_law_ties","_law_at","_law_both","_law_there","_law_key_here"]) zq (Ad 0) rfl ∅ rfl (λC s0 H0 fp pn=>⟨(gcM (i:=9)),(bv_7 (Cn (x_7 d) (Ad 9) (Ad 2) (De _))),(Bw (w_1 m) ai_1 d7 #v[9,3])⟩) a)
  (Au (Bp (i:=6) [] Am a)
  (Au (au_8 [4,6] 3000 e_9 (Cn au_5 (Ad 6) (Fj i_2 rfl d9 F8 #v[4]) (De _))
   (Au (y_2 [5] e_9 zq (Fw (Ad 5)) (ac_6 (i:=7) a)
   (Au (Bp (i:=8) [4,6,7] (Aq p_3 (Aq Cl (Ct (Ad 7) Am) (Ct (Ad 7) Am)) (Ct (Ad 4) (Ad 6))) a)
  (Bd (Df [4,6,7,8] (td_w (bg_6 (Cn bv_1 (Ct (Ad 4) (Ad 6)) (Ad 7) (by with_unfolding_all rfl)) (ar_7 (Cn al_8 (Ad 8) (Ad 4) (by with_unfolding_all rfl)))))
   (Bd (bh_6 (i:=4) (Ad 8)))
   Dg))))
  (Bd (Bp (i:=6) [6] (Aq Cl (Ad 6) Am) a))))
  (Bd (y_0 4))))))
variable(k6:az_1 P w K p r)(af2:p "set" =none)(z6:KitT K "list")
def al_0:AH P w K p r f u "_law_ring_right" 42 4 Ln 4 f_6:=λF=>Dc (N:=["_law_ring","_law_kept","_law_key_here","_law_sizes_here","_law_here","_law_first","_law_one","_law_second","_law_both"]) F λzq m d a o=>(Au (bh_9 [2,3] (Bw m o d7 #v[2,3]) (bh_8 (i:=5) (j:=7) zq a))
  (Au (Df [1,2,3,5,7] (Cn al_8 (Ad 7) (Bw m o k6 #v[1,5,2,3]) (by with_unfolding_all rfl))
   (Bd (Cf [0] (x_6 ca_6 (Ad 0) au_0 (De _))))
   Dg)
  (Au (Df [0] (td_w (bm_4 (al_6 (j_5 (af_7 z6 (Ad 0) c6 o7 U6))) (au_1 (Cn (x_7 d) (ch_9 zq d9 af2 (as_0 (N':=["_law_ring","_law_kept","_law_key_here","_law_sizes_here","_law_here","_law_first","?6","_law_second","_law_both","_law_one"]) zq (Fw (Ad 0)) rfl ∅ rfl (λC s0 H0 fp pn=>⟨(gcM (i:=9)),bh_7,(Bw (w_1 m) ai_1 j7 #v[9])⟩))) (Fj i_2 rfl d9 F8 #v[0]) (De _)))))
   (Bd (Cf [] v_8))
   Dg)
  (Au (Bp (i:=4) [5] (Ad 5) a)
  (Au (y_2 [0] e_9 zq (Fw (Ad 0)) (ac_6 (i:=6) a)
   (Au (Df [1,2,6] (td_w (bm_4 (Cn (ac_9 d) (Ad 6) (Ad 1) (by with_unfolding_all rfl)) (au_1 (Cn (n_5 d) (Ad 6) (Ad 2) (De _)))))
   (Bd (Cf [] v_8))
   Dg)
  (Au (Bp (i:=8) [3,6] (Bw m o d7 #v[6,3]) a)
  (Au (Df [4,8] (Cn al_8 (Ad 4) (Ad 8) (by with_unfolding_all rfl))
   (Bd (Cf [] v_8))
   Dg)
  (Bd (Bp (i:=4) [4,8] (Aq p_3 (Aq Cl (Ct (Ad 8) Am) (Ct (Ad 8) Am)) (Ad 4)) a))))))
  (Bd (Cf [4,7] (x_6 (n_5 d) (Ad 4) (Ad 7) (De _)))))))))
variable(g9:OFld K ["Living"] "listed")
def ar_4:AI P w K p r f u "table" "Living.table" 28 3 1 ["self"] 1 b_7:=λF=>Dc (N:=["self"]) F λzq m d a o=>(Bd (Cf [0] (bc_2 bn_3 rfl o7 U6 #v[o_7 g9 (Ad 0)])))
variable(f8:MethT P w K p r true 1 0 "table" [("Living",b_7)])
def al_1:AH P w K p r f u "_law_others_say" 46 3 La 4 e_7:=λF=>Dc (N:=["_law_living","_law_kept","_law_key_here","_law_sizes_here","_law_table","_law_first","_law_second"]) F λzq m d a o=>(Au (Bp (i:=4) [0] (w_2 f8 m o (Ad 0)) a)
  (Au (bh_9 [2,3] (Bw m o d7 #v[2,3]) (bh_8 (i:=5) (j:=6) zq a))
  (Bd (Cf [3,4,5,6] (Aq Cp (Aq Cl (Ct (Ad 4) (Ad 5)) (Ct (Ad 4) (Ad 6))) (Ct (Ad 3) Am))))))
variable(j6:p "enumerate" =none)
def bb_0:AH P w K p r f u "_law_forced" 43 1 Ly 3 o_3:=λF=>Dc (N:=["_law_ring","_law_kept","_law_modulus","_law_total","_law_k","_law_one"]) F λzq m d a o=>(Au (Bp (i:=3) [] Am a)
  (Au (y_2 [0] e_9 zq (db_2 j6 (Ad 0)) (au_9 (i:=4) (j:=5) zq a)
   (Bd (Bp (i:=3) [1,3,4,5] (Aq Cl (Ad 3) (Ct (q_3 #v[ai_7 d (Ad 1) (Ad 5),Aq p_3 Am (ai_7 d (Ad 1) (Ad 5))]) (Aq Cp (Ad 4) Am))) a)))
  (Bd (Cf [2,3] (Aq Cp (Ad 3) (Ad 2))))))
def bt_0:AH P w K p r f u "steps_to" 26 1 ["start","ways"] 2 i_5:=λF=>Dc (N:=["start","ways","steps","waiting","place","key","other"]) F λzq m d a o=>(Au (Bp (i:=2) [0] (de_6 (Ad 0) au_0) a)
  (Au (Bp (i:=3) [0] (q_3 #v[0]) a)
  (Au (au_8 [3] 3000 e_9 (Cn cn_9 (Fj i_2 rfl d9 F8 #v[3]) Am (De _))
   (Au (de_7 (i:=4) (j:=3) Am a)
  (Bd (y_2 [1,4] e_9 zq (Fw (db_6 d (Ad 1) (Ad 4) (q_3 Ax))) (au_9 (i:=5) (j:=6) zq a)
   (Bd (Df [2,6] (Cn (ac_9 d) (Ad 6) (Ad 2) (by with_unfolding_all rfl))
   (Au (db_5 (i:=2) [4,5] d (aa_5 #v[5,4]) (Ad 6))
  (Bd (bh_6 (i:=3) (Ad 6))))
   Dg))))))
  (Bd (y_0 2)))))
def ah_3:AH P w K p r f u "keys_on_the_way" 27 1 ["place","steps"] 2 k_7:=λF=>Dc (N:=["place","steps","found","step"]) F λzq m d a o=>(Au (Bp (i:=2) [] (q_3 Ax) a)
  (Au (Bp (i:=3) [0,1] (ai_7 d (Ad 1) (Ad 0)) a)
  (Au (au_8 [3] 3000 e_9 (Cn cp_6 (Ad 3) au_0 (De _))
   (Au (bh_6 (i:=2) (Ct (Ad 3) Am))
  (Bd (Bp (i:=3) [1,3] (ai_7 d (Ad 1) (Ct (Ad 3) Am)) a))))
  (Bd (y_0 2)))))
variable(ae9:p "all" =none){aa4:Tok}(m7:p "MOST_SIGNS" =some (.int 11 aa4)){ag1:Tok}(r9:p "SIGNS" =some (.str "abcdefghijklmnopqrstuvwxyz0123456789-_ " ag1))
def az_4:AH P w K p r f u "is_key_text" 16 1 ["text"] 1 m_7:=λF=>Dc (N:=["text"]) F λzq m d a o=>(Bd (Cf [0] (bg_9 (x_6 au_6 (Fj i_2 rfl d9 F8 #v[0]) (x_5 rfl m7) (De _)) (bg_8 (Fj (ch_6 zq) rfl ae9 PyProof.Rows.boot_all #v[(as_0 (N':=["text","sign"]) zq (Fw (Ad 0)) rfl ∅ rfl (λC s0 H0 fp pn=>⟨(gcM (i:=1)),bh_7,(x_6 bv_1 (Ad 1) (bz_2 rfl r9) (by with_unfolding_all rfl))⟩))])))))
variable(l5:af_5 P w K p r)(aa1:p "bool" =none)(ab1:p "str" =none)(n8:KitT K "bool")(p8:KitT K "str"){p7:Tok}(j3:p "GREATEST_NUMBER" =some (.int 999999999999999999 p7))
def ck_9:AH P w K p r f u "is_key" 17 2 ["thing"] 1 w_7:=λF=>Dc (N:=["thing"]) F λzq m d a o=>(Au (Df [0] (j_5 (af_7 n8 (Ad 0) c6 aa1 bc_8))
   (Bd (Cf [] v_8))
   Dg)
  (Au (Df [0] (j_5 (af_7 t9 (Ad 0) c6 ab2 PyProof.Rows.boot_int))
   (Bd (Cf [0] (bm_3 au_6 au_6 Am (Ad 0) (x_5 rfl j3))))
   Dg)
  (Bd (Cf [0] (bg_9 (af_7 p8 (Ad 0) c6 ab1 PyProof.Rows.boot_str) (bg_8 (Bw m o l5 #v[0])))))))
def cx_4:AH P w K p r f u "worth" 18 1 ["text"] 1 aj_7:=λF=>Dc (N:=["text","total","sign"]) F λzq m d a o=>(Au (Bp (i:=1) [] Am a)
  (Au (y_2 [0] e_9 zq (Fw (Ad 0)) (ac_6 (i:=2) a)
   (Bd (Bp (i:=1) [1,2] (Aq Cl (Aq Cl (Aq Ej Am (Ad 1)) (bz_9 ZA5 PySem.F.slot_str_find PySem.F.type_str_find co_8 (bz_2 rfl r9) #v[2])) Am) a)))
  (Bd (y_0 1))))
variable(z8:bs_3 P w K p r)(aa5:ce_5 P w K p r){n9:Addr}(aa7:XC P w K p r "NoKey" "at" n9)
def cx_5:AH P w K p r f u "stamp" 19 3 ["key"] 1 m_0:=λF=>Dc (N:=["key"]) F λzq m d a o=>(Au (Df [0] (al_6 (j_5 (Bw m o z8 #v[0])))
   (Bd (bp_9 [] aa7 (RoomC.mono m ⋯) as_4 Am))
   Dg)
  (Au (Df [0] (j_5 (af_7 p8 (Ad 0) c6 ab1 PyProof.Rows.boot_str))
   (Bd (Cf [0] (Aq Cl (Aq Ej Am (Bw m o aa5 #v[0])) Am)))
   Dg)
  (Bd (Cf [0] (Aq Ej Am (Ad 0))))))
variable{af7:Tok}(p6:p "PRIME" =some (.int 2305843009213693951 af7))
def cx_6:AH P w K p r f u "mixed" 20 1 ["number","salt","size"] 3 aj_8:=λF=>Dc (N:=["number","salt","size","factor","shift","first"]) F λzq m d a o=>(Au (Df [2] (Cn (n_5 d) (Ad 2) Am (De _))
   (Bd (Cf [] Am))
   Dg)
  (Au (Bp (i:=3) [1] (Aq Cl Am (Aq Cp (Aq Cl (Aq Ej Am (Ad 1)) Am) (Aq p_3 (x_5 rfl p6) Am))) a)
  (Au (Bp (i:=4) [1] (Aq Cp (Aq Cl (Aq Ej (Aq Ej Am (Ad 1)) (Ad 1)) (Aq Ej Am (Ad 1))) (x_5 rfl p6)) a)
  (Au (Bp (i:=5) [0,3,4] (Aq Cp (Aq Cl (Aq Ej (Ad 3) (Ad 0)) (Ad 4)) (x_5 rfl p6)) a)
  (Bd (Cf [2,5] (Aq Cp (Aq Cl (Ad 5) (Aq l_4 (Ad 5) Am)) (Ad 2))))))))
variable(m9:ce_6 P w K p r)(aa8:ce_7 P w K p r)(ab0:p "tuple" =none)
def bl_5:AH P w K p r f u "places_of" 22 4 ["key","salt","kind","part"] 4 p_8:=λF=>Dc (N:=["key","salt","kind","part","number"]) F λzq m d a o=>(Au (Bp (i:=4) [0] (Bw m o m9 #v[0]) a)
  (Bd (Cf [1,2,3,4] (bc_2 bv_3 rfl ab0 PyProof.Rows.boot_tuple #v[(as_0 (N':=["key","salt","kind","part","number","turn"]) zq (am_0 m8 #v[2]) rfl ∅ rfl (λC s0 H0 fp pn=>⟨(gcM (i:=5)),bh_7,(Aq Cl (Aq Ej (Ad 5) (Ad 3)) (Bw (w_1 m) ai_1 aa8 #v[4,Aq Cl (Aq Ej Am (Ad 1)) (Ad 5),3]))⟩))]))))
variable(n5:aq_7 P w K p r)(m6:OFld K ["Living"] "part")(l0:OFld K ["Living"] "by_salt"){ag6:Tok}(y0:p "KIND" =some (.int 2 ag6))
abbrev Ld:List Str:=["self","key"]
def ao_6:AI P w K p r f u "places" "Living.places" 28 4 5 Ld 2 b_6:=λF=>Dc (N:= Ld) F λzq m d a o=>(Bd (Cf [0,1] (Bw m o n5 #v[1,o_7 l0 (Ad 0),x_5 rfl y0,o_7 m6 (Ad 0)])))
def by_0:AH P w K p r f u "ways_at" 25 1 ["places_by_key"] 1 ad_5:=λF=>Dc (N:=["places_by_key","ways","key","places"]) F λzq m d a o=>(Au (Bp (i:=1) [] as_1 a)
  (Au (y_2 [0] e_9 zq (Fw (Ad 0)) (au_9 (i:=2) (j:=3) zq a)
   (Au (cs_1 (i:=1) (Ct (Ad 3) Am) (aa_5 #v[2,Ct (Ad 3) Am]))
  (Bd (cs_1 (i:=1) (Ct (Ad 3) Am) (aa_5 #v[2,Ct (Ad 3) Am])))))
  (Bd (y_0 1))))
variable(u7:bf_5 P w K p r)(b9:MethT P w K p r true 5 1 "places" [("Living",b_6)])(d8:OFld K ["Living"] "by_key")
def z_4:AI P w K p r f u "ways_without" "Living.ways_without" 28 5 6 Ld 2 b_1:=λF=>Dc (N:= Ld) F λzq m d a o=>(Bd (Cf [0,1] (Bw m o u7 #v[(cr_1 (N':=["self","key","other"]) zq (o_7 d8 (Ad 0)) rfl ∅ rfl (λC s0 H0 fp pn=>⟨(gcM (i:=2)),(bv_7 (Cn (x_7 d) (Ad 2) (Ad 1) (De _))),(aa_5 #v[2,n_8 b9 (w_1 m) ai_1 (Ad 0) #v[2]])⟩))])))
variable(j5:az_2 P w K p r)(j2:u_9 P w K p r)(d5:MethT P w K p r true 6 1 "ways_without" [("Living",b_1)])
def az_5:AI P w K p r f u "ring" "Living.ring" 28 6 7 Ld 2 e_5:=λF=>Dc (N:=["self","key","places","steps"]) F λzq m d a o=>(Au (Bp (i:=2) [0,1] (n_8 b9 m o (Ad 0) #v[1]) a)
  (Au (Bp (i:=3) [0,1,2] (Bw m o j5 #v[Ct (Ad 2) Am,n_8 d5 m o (Ad 0) #v[1]]) a)
  (Au (Df [2,3] (Cn (ac_9 d) (Ct (Ad 2) Am) (Ad 3) (by with_unfolding_all rfl))
   (Bd (Cf [] au_0))
   Dg)
  (Bd (Cf [2,3] (Bw m o j2 #v[Ct (Ad 2) Am,3]))))))
variable(j4:w_9 P w K p r)(f9:x_0 P w K p r)(l9:ak_9 P w K p r)(l3:MethT P w K p r true 7 1 "ring" [("Living",e_5)])
def ao_7:AH P w K p r f u "_law_ring_told" 45 8 La 4 g_9:=λF=>Dc (N:=["_law_living","_law_kept","_law_key_here","_law_sizes_here","_law_ring","_law_due"]) F λzq m d a o=>(Au (Bp (i:=4) [0,2] (n_8 l3 m o (Ad 0) #v[2]) a)
  (Au (Df [1,2,3,4] (al_6 (j_5 (Bw m o j4 #v[4,1,2,3])))
   (Bd (Cf [] v_8))
   Dg)
  (Au (Df [4] (Cn ca_6 (Ad 4) au_0 (De _))
   (Bd (Cf [] v_8))
   Dg)
  (Au (Bp (i:=5) [0,1,2,3] (Bw m o f9 #v[0,1,2,3]) a)
  (Au (Df [1,3,4,5] (td_w (bm_4 (Cn (x_7 d) (Aq Cp (Fj i_2 rfl d9 F8 #v[4]) Am) Am (De _)) (au_1 (Cn (x_7 d) (Bw m o l9 #v[4,1,Ct (Ad 3) Am]) (Ad 5) (De _)))))
   (Bd (Cf [] v_8))
   Dg)
  (Au (ct_2 (j:=4))
  (Bd (Cf [] v_8))))))))
def bt_1:AH P w K p r f u "is_below" 7 1 ["number","limit"] 2 j_1:=λF=>Dc (N:=["number","limit"]) F λzq m d a o=>(Bd (Cf [0,1] (bg_9 (dm_3 (af_7 n8 (Ad 0) c6 aa1 bc_8)) (bg_8 (bm_3 au_6 au_5 Am (Ad 0) (Ad 1))))))
def bl_6:AH P w K p r f u "remainder" 9 1 L16 2 n_3:=λF=>Dc (N:= L16) F λzq m d a o=>(Bd (Cf [0,1] (cn_3 (Cn (n_5 d) (Ad 1) Am (De _)) Am (Aq Cp (Ad 0) (Ad 1)))))
variable(j8:aq_8 P w K p r)(g7:OFld K ["Living"] "modulus")
def ar_5(F:Fun K "shift" "Living.shift" (Fu 28 9) f u):FnX P w K p r true 2 f u ["self","tied","in_first_part","in_second_part"] (spR K 3 d_9):=
 br_2 (n:=3) (N:=["self","tied","in_first_part","in_second_part","numbers","place","number","more"]) F ⋯ ⋯ λzq m d a o=>(Au (Bp (i:=4) [] (q_3 Ax) a)
  (Au (de_2 e_9 zq j6 (o_1 [0] (o_7 g9 (Ad 0))) (au_9 (i:=5) (j:=6) zq a)
   (Au (p_4 (i:=7) (o_1 [0] (cn_3 (Cn au_5 (Ad 5) (o_7 m6 (Ad 0)) (De _)) (Ad 2) (Ad 3))) a)
  (Bd (bh_6 (i:=4) (cn_3 (Cn (bw_0 d) (Ad 5) (Ad 1) (by with_unfolding_all rfl)) (Bw m o j8 #v[Aq Cl (Ad 6) (Ad 7),o_7 g7 (Ad 0)]) (Ad 6))))))
  (Bd (dd_7 (i:=0) [4] g9 (Ad 4)))))
variable(i8:MethR P w K p r true 2 3 "shift" "Living" d_9){i7:Addr}(y4:XC0 K p "Stuck" i7)
def az_6(F:Fun K "mend" "Living.mend" (Fu 28 8) f u):FnX P w K p r true 3 f u ["self","places","lacking","ways"] (spR K 3 h_9):=
 br_2 (n:=3) (N:=["self","places","lacking","ways","first","second"]) F ⋯ ⋯ λzq m d a o=>(Au (Bp (i:=4) [1,3] (Bw m o j5 #v[Ct (Ad 1) Am,3]) a)
  (Au (Bp (i:=5) [1,3] (Bw m o j5 #v[Ct (Ad 1) Am,3]) a)
  (Au (Df [1,4] (Cn (bw_0 d) (Ct (Ad 1) Am) (Ad 4) (by with_unfolding_all rfl))
   (Bd (bd_0 y4 (RoomC.mono m ⋯) as_4))
   Dg)
  (Au (Df [4,5] (Cn au_6 (Fj s_0 rfl d9 F8 #v[4]) (Fj s_0 rfl d9 F8 #v[5]) (De _))
   (Au (aw_0 (t_4 [2,4] (aj_1 (i:=0) i8 m o (h_3 (Ad 4) (h_3 (Ad 2) (h_3 (cp_3 (Ad 2)) af_9))))))
  (Bd (y_6 (aj_2 [4] (Fj s_0 rfl d9 F8 #v[4])))))
   Dg)
  (Au (aw_0 (t_4 [2,5] (aj_1 (i:=0) i8 m o (h_3 (Ad 5) (h_3 (cp_3 (Ad 2)) (h_3 (Ad 2) af_9))))))
  (Bd (y_6 (aj_2 [5] (Fj s_0 rfl d9 F8 #v[5])))))))))
variable(k9:az_3 P w K p r)(af3:p "sum" =none)
def cl_0:AH P w K p r f u "summed" 10 2 ["table","places","modulus"] 3 ab_9:=λF=>Dc (N:=["table","places","modulus","found"]) F λzq m d a o=>(Au (db_1 (i:=3) [0,1] (N':=["table","places","modulus","found","place"]) zq (Fw (Ad 1)) rfl ∅ rfl (λC s0 H0 fp pn=>⟨(gcM (i:=4)),(bv_7 (j_5 (Bw (w_1 m) ai_1 k9 #v[4,Fj i_2 rfl d9 F8 #v[0]]))),(Ct (Ad 0) (Ad 4))⟩) a)
  (Bd (Cf [2,3] (Bw m o j8 #v[Fj (ch_8 zq) rfl af3 PyProof.Rows.boot_sum #v[3],2]))))
variable(z9:bs_4 P w K p r)
def ar_6:AI P w K p r f u "value" "Living.value" 28 1 6 Ld 2 b_8:=λF=>Dc (N:= Ld) F λzq m d a o=>(Bd (Cf [0,1] (Bw m o z9 #v[o_7 g9 (Ad 0),n_8 b9 m o (Ad 0) #v[1],o_7 g7 (Ad 0)])))
variable(k7:MethR P w K p r true 3 3 "mend" "Living" h_9)(d6:MethT P w K p r true 6 1 "value" [("Living",b_8)]){k4:Addr}(u4:XC P w K p r "NoValue" "at" k4)
def bb_1(F:Fun K "put" "Living.put" (Fu 28 7) f u):FnX P w K p r true 7 f u ["self","key","value"] (spR K 2 i_8):=
 br_2 (n:=2) (N:=["self","key","value","places","lacking","changed"]) F ⋯ ⋯ λzq m d a o=>(Au (p_4 (i:=3) (o_1 [0] (n_8 b9 m (Lk.lend o) (Ad 0) #v[1])) a)
  (Au (Df [0,2] (al_6 (j_5 (Bw m o k9 #v[2,o_7 g7 (Ad 0)])))
   (Bd (bp_9 [] u4 (RoomC.mono m ⋯) as_4 Am))
   Dg)
  (Au (p_4 (i:=4) (o_1 [0] (Aq p_3 (Ad 2) (n_8 d6 m (Lk.lend o) (Ad 0) #v[1]))) a)
  (Au (Bp (i:=5) [] Am a)
  (Au (Df [4] (Cn (x_7 d) (Ad 4) Am (De _))
   (Bd (p_4 (i:=5) (t_4 [1,3,4] (aj_1 (i:=0) k7 m o (h_3 (Ad 3) (h_3 (Ad 4) (dd_4 [0] (n_8 d5 m (Lk.lend o) (Ad 0) #v[1]) af_9))))) a))
   Dg)
  (Au (dd_5 (i:=0) d d8 (Ad 2) (Ad 1))
  (Bd (y_6 (aj_2 [5] (Ad 5))))))))))
variable(l6:MethR P w K p r true 7 2 "put" "Living" i_8)(r6:p "Stuck" =some (.ref i7))(y7:Catches K i7 L51)
abbrev Lh:List Str:=["_law_living","_law_key_here","_law_value"]
def by_1(F:Fun K "_law_put" "_law_put" (Bn 44) f u):FnX P w K p r true 8 f u Lh (spR K 2 m_1):=
 br_2 (n:=2) (N:=["_law_living","_law_key_here","_law_value","_law_found"]) F ⋯ ⋯ λzq m d a o=>(Au (dc_8 a rfl rfl (λzd W EXB lkB=>(Bd (p_4 (i:=3) (t_4 [1,2] (aj_1 (i:=0) l6 (cq_8 m) lkB (h_3 (Ad 1) (h_3 (Ad 2) af_9)))) a))) (HOk3.bare r6 y7 (λe=>(Bd (Bp (i:=3) [] al_5 a))) .nil))
  (Bd (y_6 (aj_2 [3] (Ad 3)))))
variable(y6:p "sorted" =none)
def az_7:AI P w K p r f u "kept" "Living.kept" 28 2 5 ["self"] 1 b_9:=λF=>Dc (N:=["self"]) F λzq m d a o=>(Bd (Cf [0] (as_0 (N':= Ld) zq (Fw (cs_7 (cq_9 zq) (cq_7 m) y6 m9 (o_7 d8 (Ad 0)))) rfl ∅ rfl (λC s0 H0 fp pn=>⟨(gcM (i:=1)),bh_7,(aa_5 #v[1,ai_7 d (o_7 d8 (Ad 0)) (Ad 1)])⟩))))
variable(u6:FnRd P w K p r true "_law_put" 8 2 Lh m_1)(i6:MethT P w K p r true 5 0 "kept" [("Living",b_9)])
abbrev Lb:List Str:=["_law_living","_law_kept","_law_key_here","_law_value","_law_sizes_here"]
def ao_8(F:Fun K "_law_put_right" "_law_put_right" (Bn 47) f u):FnX P w K p r true 9 f u Lb (spR2 K 3 h_0):=
 dp_7 (n:=3) (N:=["_law_living","_law_kept","_law_key_here","_law_value","_law_sizes_here","_law_before","_law_tied_here","_law_other","_law_found","_law_first","_law_second"]) F ⋯ ⋯ λzq m d a o=>(Au (p_4 (i:=5) (o_1 [0] (q_3 #v[w_2 f8 m (Lk.lend o) (Ad 0),w_2 i6 m (Lk.lend o) (Ad 0)])) a)
  (Au (bh_9 [2,4] (Bw m o d7 #v[2,4]) (bh_8 (i:=9) (j:=10) zq a))
  (Au (p_4 (i:=6) (o_1 [1] (x_6 bv_1 (Ad 10) (Bw m (Lk.lend o) k6 #v[1,9,2,4]) (by with_unfolding_all rfl))) a)
  (Au (p_4 (i:=7) (o_1 [0,1] (x_6 (x_7 d) (Bw m (Lk.lend o) f9 #v[0,1,2,4]) (Ad 3) (De _))) a)
  (Au (p_4 (i:=8) (t_4 [2,3] (cr_9 (i:=0) m o u6 (h_3 (Ad 2) (h_3 (Ad 3) af_9)))) a)
  (Au (Df [6,7] (td_w (bg_6 (j_5 (Ad 6)) (ar_7 (j_5 (Ad 7)))))
   (Bd (y_6 (o_1 [0] (bg_9 (x_6 (n_5 d) (Ad 8) al_5 (De _)) (bg_8 (x_6 (n_5 d) (q_3 #v[w_2 f8 m (Lk.lend o) (Ad 0),w_2 i6 m (Lk.lend o) (Ad 0)]) (Ad 5) (De _)))))))
   Dg)
  (Au (Df [0,2,3,8] (td_w (bm_4 (Cn (n_5 d) (Ad 8) al_5 (De _)) (au_1 (Cn (x_7 d) (n_8 d6 m o (Ad 0) #v[2]) (Ad 3) (De _)))))
   (Bd (y_6 (aj_2 [] v_8)))
   Dg)
  (Au (df_1 (i:=1) d (Ad 3) (Ad 2))
  (Bd (y_6 (o_1 [0,1] (x_6 (n_5 d) (Fj i_2 rfl d9 F8 #v[w_2 i6 m (Lk.lend o) (Ad 0)]) (Fj s_0 rfl d9 F8 #v[1]) (De _)))))))))))))
variable{l7:Addr}(u3:XC0 K p "NoSuch" l7)
def az_8(F:Fun K "drop" "Living.drop" (Fu 28 10) f u):FnX P w K p r true 4 f u Ld (spR K 1 f_7):=
 br_2 (n:=1) (N:= Ld) F ⋯ ⋯ λzq m d a o=>(Au (da_7 [1] (Bw m o m9 #v[1]))
  (Au (Df [0,1] (Cn (ac_9 d) (Ad 1) (o_7 d8 (Ad 0)) (by with_unfolding_all rfl))
   (Bd (bd_0 u3 (RoomC.mono m ⋯) as_4))
   Dg)
  (Bd (dd_6 (i:=0) d8 (Ad 1)))))
def ah_4(F:Fun K "__init__" "Living.__init__" (Fu 28 0) f u){CI:Addr}(hCI:ClsAt K "Living" CI):FnX P w K p r true 1 f u ["self","part","salt","modulus"] (spJ K CI "Living" 3 w_8):=
 du_5 (n:=3) (cn:= "Living") (N:=["self","part","salt","modulus"]) F hCI ⋯ ⋯ λzq m d a o=>(Au (as_3 (i:=0) [1] m6 (Ad 1))
  (Au (as_3 (i:=0) [2] l0 (Ad 2))
  (Au (as_3 (i:=0) [3] g7 (Ad 3))
  (Au (as_3 (i:=0) [1] g9 (dn_7 #v[Am] (Aq Ej (x_5 rfl y0) (Ad 1))))
  (Bd (dd_9 (i:=0) d8 as_1))))))
variable(n6:aq_4 P w K p r)(o6:ay_8 P w K p r)(o8:az_0 P w K p r)(i9:z_8 P w K p r)(j9:cc_7 P w K p r true "_law_put_right" 9 3 Lb h_0)(k8:MethR P w K p r true 4 1 "drop" "Living" f_7)(x4:MakJ P w K p r true "Living" 1 3 w_8)
def dq_7:AH P w K p r f u "law" 48 10 ["_law_script"] 1 di_6:=λF=>Dc (N:=["_law_script","_law_sizes_here","_law_living","_law_kept","_law_k","_law_key_here","_law_value","_law_deed_here"]) F λzq m d a o=>(Au (Bp (i:=1) [0] (Bw m o n6 #v[0,Am]) a)
  (Au (Bp (i:=2) [1] (de_0 m o x4 #v[Ct (Ad 1) Am,Ct (Ad 1) Am,Ct (Ad 1) Am]) a)
  (Au (Bp (i:=3) [] as_1 a)
  (Au (y_2 [0] e_9 zq (am_0 m8 #v[Bw m o o6 #v[0,Am,Am]]) (ac_6 (i:=4) a)
   (Au (de_1 (o_1 [3] (Bw m (Lk.lend o) o8 #v[0,Am,4,3,1])) (cb_8 zq (ad_3 (i:=7) a (ad_3 (i:=5) a (ad_3 (i:=6) a cr_2)))))
  (Au (Df [1,2,3,4,5] (td_w (bm_4 (al_6 (j_5 (Bw m o i9 #v[2,3,5,1]))) (au_1 (al_6 (j_5 (Bw m o i9 #v[2,3,4,1]))))))
   (Bd (Cf [] v_8))
   Dg)
  (Au (Df [4] (Cn (n_5 d) (Aq Cp (Bw m o f6 #v[4,Am]) Am) Am (De _))
   (Bd (p_4 (i:=6) (o_1 [2] (n_8 d6 m (Lk.lend o) (Ad 2) #v[5])) a))
   Dg)
  (Bd (Df [3,5,7] (td_w (bg_6 (Cn (n_5 d) (Ad 7) Am (De _)) (ar_7 (Cn (bw_0 d) (Ad 5) (Ad 3) (by with_unfolding_all rfl)))))
   (Au (aw_0 (t_4 [5] (aj_1 (i:=2) k8 m o (h_3 (Ad 5) af_9))))
  (Bd (de_3 (i:=3) (Ad 5))))
   (Bd (dp_1 (dp_0 (du_4 (t_4 [1,5,6] (cj_3 (i:=2) (j:=3) m o j9 (h_3 (Ad 5) (h_3 (Ad 6) (h_3 (Ad 1) af_9)))))))
   (Bd (Cf [] v_8))
   Dg))))))))
  (Au (df_0 [3] e_9 zq (Ad 3) (au_9 (i:=5) (j:=6) zq a)
   (Bd (Df [2,5,6] (Cn (x_7 d) (n_8 d6 m o (Ad 2) #v[5]) (Ad 6) (De _))
   (Bd (Cf [] v_8))
   Dg)))
  (Bd (Cf [] v_8)))))))
abbrev az_9:Stmt:=Bn 48
end
def dq_8{l:PySem.W.OpenLaw}{w:World}{K:Frag}{h:Heap}{p:AB}{fa:Addr}(X:K.In h)(G:h.Ns mainGlobals p)(hfa:p "law" =some (.ref fa))
  {c9 n9 k4 i7 l7:Addr}
  {f42:Addr} {ai2 ah2:Option Addr} {ai1:Array (Option Value)} {ai0 ah6 ah7 ah5 ag5 ag9:Value}
  {aa2 ae6 o9 af4 af9:Tok}
  (c7:nsIn K mainGlobals "Living" =some (some (.ref c9)))
  (c8:Cls K c9)
  (ae2:makesIn K c9=true)
  (ae0:keepIn K (.ref c9)=true)
  (v9:NoAttr K c9 "listed")
  (y8:NoAttr K c9 "part")
  (p9:NoAttr K c9 "by_salt")
  (x0:NoAttr K c9 "by_key")
  (t7:NoAttr K c9 "modulus")
  (w1:FnTop K "_law_mix" (Bn 30))
  (w2:FnTop K "_law_cell" (Bn 31))
  (w3:FnTop K "_law_sizes" (Bn 38))
  (w4:FnTop K "_law_many" (Bn 39))
  (w5:FnTop K "_law_raw" (Bn 37))
  (w6:FnTop K "_law_text" (Bn 35))
  (w7:FnTop K "_law_key" (Bn 36))
  (w8:FnTop K "_law_deed" (Bn 40))
  (w9:FnTop K "_law_stamp" (Bn 32))
  (w10:FnTop K "_law_mixed" (Bn 33))
  (w11:FnTop K "_law_places" (Bn 34))
  (w12:FnTop K "_law_tied" (Bn 41))
  (w13:FnTop K "_law_ring_right" (Bn 42))
  (w14:FnMet K c9 "table" "Living.table" (Fu 28 3))
  (w15:FnTop K "_law_others_say" (Bn 46))
  (w16:FnTop K "_law_forced" (Bn 43))
  (w17:FnTop K "steps_to" (Bn 26))
  (w18:FnTop K "keys_on_the_way" (Bn 27))
  (w19:FnTop K "is_key_text" (Bn 16))
  (w20:FnTop K "is_key" (Bn 17))
  (w21:FnTop K "worth" (Bn 18))
  (w22:FnTop K "stamp" (Bn 19))
  (w23:FnTop K "mixed" (Bn 20))
  (w24:FnTop K "places_of" (Bn 22))
  (w25:FnMet K c9 "places" "Living.places" (Fu 28 4))
  (w26:FnTop K "ways_at" (Bn 25))
  (w27:FnMet K c9 "ways_without" "Living.ways_without" (Fu 28 5))
  (w28:FnMet K c9 "ring" "Living.ring" (Fu 28 6))
  (w29:FnTop K "_law_ring_told" (Bn 45))
  (w30:FnTop K "is_below" (Bn 7))
  (w31:FnTop K "remainder" (Bn 9))
  (w32:FnMet K c9 "shift" "Living.shift" (Fu 28 9))
  (w33:FnMet K c9 "mend" "Living.mend" (Fu 28 8))
  (w34:FnTop K "summed" (Bn 10))
  (w35:FnMet K c9 "value" "Living.value" (Fu 28 1))
  (w36:FnMet K c9 "put" "Living.put" (Fu 28 7))
  (w37:FnTop K "_law_put" (Bn 44))
  (w38:FnMet K c9 "kept" "Living.kept" (Fu 28 2))
  (w39:FnTop K "_law_put_right" (Bn 47))
  (w40:FnMet K c9 "drop" "Living.drop" (Fu 28 10))
  (w41:FnMet K c9 "__init__" "Living.__init__" (Fu 28 0))
  (a42:nsIn K mainGlobals "law" =some (some (.ref f42))) (l42:K.lookup f42=some ⟨ai0,ai2,.func (fnOf "law" "law" (j_9 az_9) (Ft az_9) (Ch az_9) .none ah6 ah7 ah5 ah2 ag5 ag9),ai1⟩) (c42:codeIn K ag5 "law" =true) (k42:keepIn K (.ref f42)=true)
  (ag7:nsIn K mainGlobals "len" =some none)
  (ah0:nsIn K mainGlobals "max" =some none)
  (ag8:nsIn K mainGlobals "min" =some none)
  (af6:nsIn K mainGlobals "range" =some none)
  (ag4:nsIn K mainGlobals "list" =some none)
  (aa6:nsIn K mainGlobals "isinstance" =some none)
  (ah8:nsIn K mainGlobals "int" =some none)
  (ah3:nsIn K mainGlobals "set" =some none)
  (ab3:nsIn K mainGlobals "enumerate" =some none)
  (ah1:nsIn K mainGlobals "all" =some none)
  (ag2:nsIn K mainGlobals "bool" =some none)
  (ah4:nsIn K mainGlobals "str" =some none)
  (af5:nsIn K mainGlobals "tuple" =some none)
  (ah9:nsIn K mainGlobals "sum" =some none)
  (ae3:nsIn K mainGlobals "sorted" =some none)
  (ad0:kitOne K (.type "NoneType") (.type "int")=some false)
  (ae8:kitOne K (.type "bool") (.type "int")=some true)
  (ad1:kitOne K (.type "int") (.type "int")=some true)
  (ad9:kitOne K (.type "str") (.type "int")=some false)
  (ad8:kitOne K (.type "list") (.type "int")=some false)
  (ac6:kitOne K (.type "tuple") (.type "int")=some false)
  (ac4:kitOne K (.type "NoneType") (.type "list")=some false)
  (ae1:kitOne K (.type "bool") (.type "list")=some false)
  (ab5:kitOne K (.type "int") (.type "list")=some false)
  (ab9:kitOne K (.type "str") (.type "list")=some false)
  (ab4:kitOne K (.type "list") (.type "list")=some true)
  (ac1:kitOne K (.type "tuple") (.type "list")=some false)
  (ac3:kitOne K (.type "NoneType") (.type "bool")=some false)
  (ac8:kitOne K (.type "bool") (.type "bool")=some true)
  (ac5:kitOne K (.type "int") (.type "bool")=some false)
  (ab7:kitOne K (.type "str") (.type "bool")=some false)
  (ac0:kitOne K (.type "list") (.type "bool")=some false)
  (ab6:kitOne K (.type "tuple") (.type "bool")=some false)
  (ad4:kitOne K (.type "NoneType") (.type "str")=some false)
  (af0:kitOne K (.type "bool") (.type "str")=some false)
  (ad6:kitOne K (.type "int") (.type "str")=some false)
  (ac7:kitOne K (.type "str") (.type "str")=some true)
  (ad2:kitOne K (.type "list") (.type "str")=some false)
  (ac9:kitOne K (.type "tuple") (.type "str")=some false)
  (aa9:nsIn K mainGlobals "MOST_SIGNS" =some (some (.int 11 aa2)))
  (af8:nsIn K mainGlobals "SIGNS" =some (some (.str "abcdefghijklmnopqrstuvwxyz0123456789-_ " ae6)))
  (t8:nsIn K mainGlobals "GREATEST_NUMBER" =some (some (.int 999999999999999999 o9)))
  (ag0:nsIn K mainGlobals "PRIME" =some (some (.int 2305843009213693951 af4)))
  (ag3:nsIn K mainGlobals "KIND" =some (some (.int 2 af9)))
  (z7:nsIn K mainGlobals "NoKey" =some (some (.ref n9)))
  (p5:nsIn K mainGlobals "NoValue" =some (some (.ref k4)))
  (y3:nsIn K mainGlobals "Stuck" =some (some (.ref i7)))
  (v5:nsIn K mainGlobals "NoSuch" =some (some (.ref l7)))
  (af1:XB K n9 "NoKey.__init__" "at" z_3)
  (y9:exmOne K (.ref n9) (.ref i7)=some false)
  (ac2:XB K k4 "NoValue.__init__" "at" u_0)
  (u5:exmOne K (.ref k4) (.ref i7)=some false)
  (ae7:XB9 K i7)
  (aa0:exmOne K (.ref i7) (.ref i7)=some true)
  (ad5:XB9 K l7)
  (x5:exmOne K (.ref l7) (.ref i7)=some false):
  ∃u:FuncData,(∀(s:Shared) (v:Value),BindsTo s u ⟨[v],[]⟩ [("_law_script",v)])/\∀r:Heap,K.In r->r.Ns mainGlobals p->FnOk l.prog w K p r CX0 10 fa u ["_law_script"] (av_1 K):=by
 have ad3:=mg_of X G c7;have g9:OFld K ["Living"] "listed" :=(.one c7 c8 v9 .nil);have m6:OFld K ["Living"] "part" :=(.one c7 c8 y8 .nil);have l0:OFld K ["Living"] "by_salt" :=(.one c7 c8 p9 .nil);have d8:OFld K ["Living"] "by_key" :=(.one c7 c8 x0 .nil);have g7:OFld K ["Living"] "modulus" :=(.one c7 c8 t7 .nil);have ae5:=mg_of X G z7;have ab8:=mg_of X G p5;have r6:=mg_of X G y3;have ad7:=mg_of X G v5;have y4:XC0 K p "Stuck" i7:=cr_4 y3 r6 ae7;have u3:XC0 K p "NoSuch" l7:=cr_4 v5 ad7 ad5;have y7:Catches K i7 L51:=(.one z7 y9 (.one v5 x5 (.one p5 u5 (.one y3 aa0 .nil))));have e:=hfa.symm.trans (mg_of X G a42);cases e;have d9:=L9 X G ag7;have aa3:=L9 X G ah0;have ae4:=L9 X G ag8;have m8:=L9 X G af6;have o7:=L9 X G ag4;have c6:=L9 X G aa6;have ab2:=L9 X G ah8;have af2:=L9 X G ah3;have j6:=L9 X G ab3;have ae9:=L9 X G ah1;have aa1:=L9 X G ag2;have ab1:=L9 X G ah4;have ab0:=L9 X G af5;have af3:=L9 X G ah9;have y6:=L9 X G ae3;have t9:KitT K "int" :=⟨ad0,ae8,ad1,ad9,ad8,ac6⟩;have z6:KitT K "list" :=⟨ac4,ae1,ab5,ab9,ab4,ac1⟩;have n8:KitT K "bool" :=⟨ac3,ac8,ac5,ab7,ac0,ab6⟩;have p8:KitT K "str" :=⟨ad4,af0,ad6,ac7,ad2,ac9⟩;have m7:=mg_of X G aa9;have r9:=mg_of X G af8;have j3:=mg_of X G t8;have p6:=mg_of X G ag0;have y0:=mg_of X G ag3;have F42:=bu_7 (st:=az_9) l42 c42 k42;refine⟨fnOf "law" "law" (j_9 az_9) (Ft az_9) (Ch az_9) .none ah6 ah7 ah5 ah2 ag5 ag9,λs v=> .of_eq rfl,λr _ _=> ?_⟩
 let lMd:=MethD l.prog w K p r true
 let lMt:=MethT l.prog w K p r true
 let lMk:=MakD l.prog w K p r true
 let lXC:=XC l.prog w K p r
 let lT:=λt:Program->World->Frag->(AB)->Heap->Prop=>t l.prog w K p r
 have aa7:lXC "NoKey" "at" n9:=di_3 z7 ae5 af1 λF y z=>⟨ba_8 F y z,bn2 F⟩;have u4:lXC "NoValue" "at" k4:=di_3 p5 ab8 ac2 λF y z=>⟨ar_3 F y z,bn2 F⟩;have f6:lT bf_2:=Eb X G w1 λF=>⟨bx_7 F,bn2 F⟩;have g8:lT ay_7:=Eb X G w2 λF=>⟨bs_5 f6 d9 F,bn2 F⟩;have n6:lT aq_4:=Eb X G w3 λF=>⟨bl_2 f6 g8 F,bn2 F⟩;have o6:lT ay_8:=Eb X G w4 λF=>⟨bs_6 d9 g8 aa3 ae4 F,bn3 F⟩;have v7:lT bf_3:=Eb X G w5 λF=>⟨bx_8 f6 d9 g8 F,bn2 F⟩;have o5:lT ay_9:=Eb X G w6 λF=>⟨bs_7 m8 F,bn1 F⟩;have v6:lT bf_4:=Eb X G w7 λF=>⟨bx_9 o5 F,bn1 F⟩;have o8:lT az_0:=Eb X G w8 λF=>⟨bs_8 f6 d9 g8 aa3 v7 v6 o7 F,bn5 F⟩;have j7:lT aq_5:=Eb X G w9 λF=>⟨bl_3 c6 ab2 t9 F,bn1 F⟩;have l4:lT aq_6:=Eb X G w10 λF=>⟨bl_4 F,bn3 F⟩;have d7:lT ak_8:=Eb X G w11 λF=>⟨ba_9 j7 l4 F,bn2 F⟩;have k6:lT az_1:=Eb X G w12 λF=>⟨bs_9 d9 d7 F,bn4 F⟩;have j4:lT w_9:=Eb X G w13 λF=>⟨al_0 d9 o7 c6 j7 d7 k6 af2 z6 F,bn4 F⟩;have x6:lMd 1 0 "table" "Living" b_7:=bd_2 c7 c8 w14 λF=>⟨ar_4 o7 g9 F,bn1 F⟩;have f8:lMt 1 0 "table" [("Living",b_7)]:=(mto x6 mtn);have f9:lT x_0:=Eb X G w15 λF=>⟨al_1 d7 f8 F,bn4 F⟩;have l9:lT ak_9:=Eb X G w16 λF=>⟨bb_0 j6 F,bn3 F⟩;have j5:lT az_2:=Eb X G w17 λF=>⟨bt_0 d9 F,bn2 F⟩;have j2:lT u_9:=Eb X G w18 λF=>⟨ah_3 F,bn2 F⟩;have l5:lT af_5:=Eb X G w19 λF=>⟨az_4 d9 ae9 m7 r9 F,bn1 F⟩;have z8:lT bs_3:=Eb X G w20 λF=>⟨ck_9 c6 ab2 t9 l5 aa1 ab1 n8 p8 j3 F,bn1 F⟩;have aa5:lT ce_5:=Eb X G w21 λF=>⟨cx_4 r9 F,bn1 F⟩;have m9:lT ce_6:=Eb X G w22 λF=>⟨cx_5 c6 ab1 p8 z8 aa5 aa7 F,bn1 F⟩;have aa8:lT ce_7:=Eb X G w23 λF=>⟨cx_6 p6 F,bn3 F⟩;have n5:lT aq_7:=Eb X G w24 λF=>⟨bl_5 m8 m9 aa8 ab0 F,bn4 F⟩;have u9:lMd 5 1 "places" "Living" b_6:=bd_2 c7 c8 w25 λF=>⟨ao_6 n5 m6 l0 y0 F,bn2 F⟩;have u7:lT bf_5:=Eb X G w26 λF=>⟨by_0 F,bn1 F⟩;have b9:lMt 5 1 "places" [("Living",b_6)]:=(mto u9 mtn);have l8:lMd 6 1 "ways_without" "Living" b_1:=bd_2 c7 c8 w27 λF=>⟨z_4 u7 b9 d8 F,bn2 F⟩;have d5:lMt 6 1 "ways_without" [("Living",b_1)]:=(mto l8 mtn);have x9:lMd 7 1 "ring" "Living" e_5:=bd_2 c7 c8 w28 λF=>⟨az_5 b9 j5 j2 d5 F,bn2 F⟩;have l3:lMt 7 1 "ring" [("Living",e_5)]:=(mto x9 mtn);have i9:lT z_8:=Eb X G w29 λF=>⟨ao_7 d9 j4 f9 l9 l3 F,bn4 F⟩;have k9:lT az_3:=Eb X G w30 λF=>⟨bt_1 c6 aa1 n8 F,bn2 F⟩;have j8:lT aq_8:=Eb X G w31 λF=>⟨bl_6 F,bn2 F⟩;have i8:MethR l.prog w K p r true 2 3 "shift" "Living" d_9:=cc_4 c7 c8 w32 λF=>⟨ar_5 g9 j6 m6 j8 g7 F,bn4 F⟩;have k7:MethR l.prog w K p r true 3 3 "mend" "Living" h_9:=cc_4 c7 c8 w33 λF=>⟨az_6 d9 j5 i8 y4 F,bn4 F⟩;have z9:lT bs_4:=Eb X G w34 λF=>⟨cl_0 d9 j8 k9 af3 F,bn3 F⟩;have x8:lMd 6 1 "value" "Living" b_8:=bd_2 c7 c8 w35 λF=>⟨ar_6 g9 b9 g7 z9 F,bn2 F⟩;have d6:lMt 6 1 "value" [("Living",b_8)]:=(mto x8 mtn);have l6:MethR l.prog w K p r true 7 2 "put" "Living" i_8:=cc_4 c7 c8 w36 λF=>⟨bb_1 b9 d8 d5 g7 k9 k7 d6 u4 F,bn3 F⟩;have u6:FnRd l.prog w K p r true "_law_put" 8 2 Lh m_1:=de_4 X G w37 λF=>⟨by_1 l6 r6 y7 F,bn3 F⟩;have y1:lMd 5 0 "kept" "Living" b_9:=bd_2 c7 c8 w38 λF=>⟨az_7 m9 d8 y6 F,bn1 F⟩;have i6:lMt 5 0 "kept" [("Living",b_9)]:=(mto y1 mtn);have j9:cc_7 l.prog w K p r true "_law_put_right" 9 3 Lb h_0:=ct_4 X G w39 λF=>⟨ao_8 d9 d7 k6 f8 f9 d6 u6 i6 F,bn5 F⟩;have k8:MethR l.prog w K p r true 4 1 "drop" "Living" f_7:=cc_4 c7 c8 w40 λF=>⟨az_8 m9 d8 u3 F,bn2 F⟩;have x4:MakJ l.prog w K p r true "Living" 1 3 w_8:=dp_3 c7 ad3 ae2 ae0 w41 λF=>⟨ah_4 g9 m6 l0 y0 d8 g7 F c7,bn4 F⟩;exact dn_5 (dq_7 (P:=l.prog) (w:=w) (r:=r) f6 m8 d6 n6 o6 o8 i9 j9 k8 x4 F42) cx_3
end My


open PySem PySem.W PyProof.Rows
set_option maxRecDepth 100000 in
set_option maxHeartbeats 0 in
theorem PySem.Challenge.cw_lodge_k73_rings_and_stuck_holds : PySem.Challenge.rw_lodge_k73_rings_and_stuck.Holds := by
 w_on; o_law; k_head; (case hw => w_witness2)
 k_fill
 refine L3.du_0 (l := PySem.Challenge.rw_lodge_k73_rings_and_stuck) (x := "_law_script") (k := 10) rfl rfl ⟨rfl, by decide, by decide⟩ (λw h Y => PySem.W.kIn_of Y) ?F
 case F =>
  intro w mg fa h KX G hmg
  refine' My.dq_8 KX G hmg ?c1 ?c2 ?c3 ?c4 ?c5 ?c6 ?c7 ?c8 ?c9 ?c10 ?c11 ?c12 ?c13 ?c14 ?c15 ?c16 ?c17 ?c18 ?c19 ?c20 ?c21 ?c22 ?c23 ?c24 ?c25 ?c26 ?c27 ?c28 ?c29 ?c30 ?c31 ?c32 ?c33 ?c34 ?c35 ?c36 ?c37 ?c38 ?c39 ?c40 ?c41 ?c42 ?c43 ?c44 ?c45 ?c46 ?c47 ?c48 ?c49 ?c50 ?c51 ?c52 ?c53 ?c54 ?c55 ?c56 ?c57 ?c58 ?c59 ?c60 ?c61 ?c62 ?c63 ?c64 ?c65 ?c66 ?c67 ?c68 ?c69 ?c70 ?c71 ?c72 ?c73 ?c74 ?c75 ?c76 ?c77 ?c78 ?c79 ?c80 ?c81 ?c82 ?c83 ?c84 ?c85 ?c86 ?c87 ?c88 ?c89 ?c90 ?c91 ?c92 ?c93 ?c94 ?c95 ?c96 ?c97 ?c98 ?c99 ?c100 ?c101 ?c102 ?c103 ?c104 ?c105 ?c106 ?c107 ?c108 ?c109 ?c110
  (case c1|c3|c4|c51|c52|c53|c54|c55|c56|c57|c58|c59|c60|c61|c62|c63|c64|c65|c66|c67|c68|c69|c94|c95|c96|c97|c98|c99|c100|c101|c102=>k_is)
  (case c2=>(refine' L2.Cls.mk ?z0 ?z1 ?z2 ?z3;(case z0=>k_is);(case z1=>k_is);(case z2=>k_is);(case z3=>k_is)))
  (case c5|c6|c7|c8|c9=>(refine' L3.NoAttr.mk ?z0;(case z0=>k_is)))
  (case c10|c11|c12|c13|c14|c15|c16|c17|c18|c19|c20|c21|c22|c24|c25|c26|c27|c28|c29|c30|c31|c32|c33|c35|c38|c39|c40|c43|c46|c48=>(refine' L3.FnTop.mk ?a ?l ?c ?k;(case a=>k_is);(case l=>k_is);(case c=>k_is);(case k=>k_is)))
  (case c23|c34|c36|c37|c41|c42|c44|c45|c47|c49|c50=>(refine' L3.FnMet.mk ?a ?l ?c ?k ?i;(case a=>k_is);(case l=>k_is);(case c=>k_is);(case k=>k_is);(case i=>k_is)))
  (case c70|c71|c72|c73|c74|c75|c76|c77|c78|c79|c80|c81|c82|c83|c84|c85|c86|c87|c88|c89|c90|c91|c92|c93=>kit_is)
  (case c103|c105=>(refine' L3.XB.mk ?z0 ?z1 ?z2 ?z3 ?z4 ?z5 ?z6 ?z7 ?z8 ?z9 ?z10 ?z11 ?z12 ?z13 ?z14;(case z0=>k_is);(case z1=>k_is);(case z2=>k_is);(case z3=>rfl);(case z4=>rfl);(case z5=>k_is);(case z6=>k_is);(case z7=>rfl);(case z8=>rfl);(case z9=>k_is);(case z10=>k_is);(case z11=>k_is);(case z12=>k_is);(case z13=>k_is);(case z14=>k_is)))
  (case c104|c106|c108|c110=>kts_exm)
  (case c107|c109=>(refine' L3.XB0 ?z0 ?z1 ?z2 ?z3 ?z4 ?z5 ?z6 ?z7 ?z8;(case z0=>k_is);(case z1=>k_is);(case z2=>rfl);(case z3=>rfl);(case z4=>k_is);(case z5=>k_is);(case z6=>rfl);(case z7=>rfl);(case z8=>k_is)))

end
