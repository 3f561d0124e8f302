import PyProof.Rows.All
import Wide.All
import OpenK.AllK
import Wide.FinOn
import Lean
import PyProof.EqAt
import PyProof.EqKinds
import PyProof.TupleCall
import PySem.Challenge.RW_lodge_k83_whole_least_numbers
set_option Elab.async false
set_option linter.all false
set_option maxRecDepth 100000
set_option genSizeOf false
set_option compiler.extract_closed false
set_option bootstrap.genMatcherCode false
def A3:=@List.length_map
def A4:=@PySem.wpAny_bind
def A5:=@PySem.Heap.get?_push_of_some
def A6:=@Bool.false_ne_true
def A7:=@List.length_append
def A8:=@PySem.Heap.lt_size
def A9:=@Nat.le_refl
def B1:=@List.map_cons
def B2:=@List.mem_append_right
def B3:=@List.getElem?_map
def B4:=@List.getElem?_eq_some_iff
def B5:=@List.length_cons
def B6:=@List.getElem?_eq_getElem
def B7:=@List.getElem?_append_left
def B8:=@List.mem_cons
def B9:=@PySem.boot_len
def C1:=@Nat.lt_of_lt_of_le
def C4:=@Nat.ne_of_lt
def C5:=@PySem.Heap.get?_push_size
def C6:=@List.getElem?_set_ne
def C7:=@List.size_toArray
def C8:=@Bool.false_eq_true
def C9:=@Bool.and_eq_true
def D0:=@PySem.wpAny_pure
def D1:=@List.map_congr_left
def D2:=@List.getElem?_append_right
def D3:=@of_decide_eq_true
def D4:=@Nat.le_trans
def D5:=@List.mem_cons_of_mem
def D6:=@PySem.wpAny_mono
def D7:=@List.map_map
def D8:=@List.mem_map
def D9:=@List.append_nil
def E4:=@List.getD_eq_getElem?_getD
def E7:=@List.map_append
def E8:=@decide_eq_true
def E9:=@List.getElem?_range
def F0:=@PySem.sizeLine_eq
def F1:=@Nat.lt_irrefl
def F2:=@List.getElem?_eq_none
def F3:=@if_false
def F4:=@List.length_set
def F5:=@List.getElem?_replicate
def F6:=@decide_true
def F7:=@Int.toNat_natCast
def F8:=@List.all_eq_true
def F9:=@List.mem_append
def G6:=@List.getElem?_set_self
def J6:=@List.length_replicate
def J7:=@List.mem_filter
def J8:=@List.nodup_cons
def J9:=@List.mem_singleton
def K0:=@PyProof.Rows.callWith_type1
def K1:=@PySem.Heap.get?_update_other
def K2:=@decide_eq_false
def K3:=@List.length_nil
def K4:=@List.length_range
def K5:=@decide_false
def K6:=@List.lookup_cons
def K7:=@List.mem_range
def K8:=@Nat.zero_le
def K9:=@List.append_assoc
def L4:=@List.mem_cons_self
def L5:=@PySem.mem_of_lookup
def L6:=@Option.some.inj
def L7:=@Option.map_some
def L8:=@congrArg
def L9:=@PySem.Heap.size_push
def M0:=@PyProof.Rows.boot_max
def M3:=@PyProof.Rows.boot_list
def M4:=@Array.length_toList
def M5:=@beq_iff_eq
def M6:=@List.replicate_succ
def M7:=@List.length_singleton
def M8:=@PySem.Calls.spliced_cons
def M9:=@List.mem_append_left
def N0:=@List.mem_of_getElem?
def N1:=@PySem.W.mg_none_of
def N2:=@PySem.wpAny_loadPart_at
def N3:=@Option.map_eq_some_iff
def N4:=@beq_eq_false_iff_ne
def N5:=@Nat.le_succ
def N6:=@List.find?_cons
def N7:=@PyProof.Rows.boot_min
def N8:=@PySem.wpAny_Call_Name_kw
def N9:=@PySem.wpAny_holding
def O0:=@List.map_nil
def O4:=@PySem.wpAny_truthy_bool
def O5:=@List.nil_append
def O6:=@Nat.le_of_eq
def O7:=@Nat.zero_add
def O8:=@PySem.wpAny_standAt
def O9:=@Nat.lt_succ_self
def P0:=@beq_self_eq_true
def P1:=@Array.getElem?_eq_some_iff
def P2:=@List.contains_cons
def P3:=@List.pairwise_cons
def P4:=@Int.emod_lt_of_pos
def P5:=@PySem.Heap.get?_update_self
def P6:=@List.pairwise_iff_getElem
def P7:=@PySem.wpAny_passesOwn
def P8:=@Bool.eq_iff_iff
def P9:=@PySem.Heap.get?_none_of_le
def Q0:=@PySem.Calls.spliced_nil
def Q1:=@List.flatten_cons
def Q2:=@List.ext_getElem?
def Q3:=@PySem.wpAny_of_eq
def Q4:=@List.pairwise_map
def Q5:=@Option.isSome_iff_exists
def Q6:=@List.any_cons
def Q7:=@PyProof.Rows.boot_sorted
def Q8:=@PySem.Heap.SameBut.update
def Q9:=@List.cons_append
def R0:=@PySem.F.plainAttrs_list
def R1:=@List.getElem_mem
def R3:=@List.getElem?_cons_succ
def R4:=@List.getElem?_cons_zero
def R5:=@List.nodup_nil
def R6:=@List.eq_nil_of_length_eq_zero
def R7:=@Nat.le_of_lt
def R8:=@PySem.Calls.callWith_builtin
def R9:=@PySem.codeAny_mono
def S0:=@Bool.or_eq_true
def S3:=@Int.emod_nonneg
def S4:=@PySem.Paired.length
def S5:=@Array.getElem?_toList
def S6:=@List.contains_iff_mem
def S7:=@PySem.wpAny_newObj_type
def S9:=@Nat.lt_succ_of_lt
def T3:=@Nat.lt_trichotomy
def T4:=@Array.getElem_toList
def T5:=@List.mem_map_of_mem
def T6:=@PySem.F.slot_list_append
def T7:=@PySem.F.type_list_append
def T8:=@PySem.wpAny_comprehension_free
def T9:=@PySem.wpAny_execs_nil
def U1:=@List.cons.injEq
def U2:=@PySem.W.KasT.kasWp_bind
def U3:=@List.filter_map
def U4:=@PySem.Code.quiet_builtin
def U5:=@PySem.wpAny_call
def U6:=@PySem.tupleKind_room_in1
def U7:=@PySem.wpAny_field
def U8:=@Option.bind_eq_some_iff
def U9:=@PySem.wpAny_pyIter_list
def V0:=@List.drop_eq_nil_of_le
def V1:=@PySem.wpAny_pyIter_enum
def V2:=@List.find?_cons_of_pos
def V3:=@List.find?_cons_of_neg
def V4:=@Int.le_trans
def V5:=@Int.lt_trans
def V6:=@decide_eq_true_eq
def V7:=@List.nodup_append
def V8:=@List.map_id'
def V9:=@Int.zero_add
def W0:=@List.filter_congr
def W1:=@PySem.plainObj_wpAny_Assign_Attribute
def W2:=@PySem.Obj.isFreed_of_fields
def W3:=@PySem.F.slot_dict_get
def W4:=@List.getElem?_toArray
def W5:=@List.length_filter_le
def W6:=@PyProof.Rows.boot_int
def W7:=@PyProof.Rows.callWith_builtin1
def W8:=@List.perm_middle
def W9:=@List.any_eq_true
def X0:=@List.all_cons
def X1:=@PySem.Around.frames_deeper
def X2:=@PySem.Calls.evalArgs_plain
def X3:=@PySem.wpAny_newFunctionEnv
def X4:=@PySem.codeAny_call_builtin
def X5:=@PySem.Around.under_plainId
def X6:=@PySem.F.slot_dict_setdefault
def X7:=@List.filterMap_cons
def X8:=@PySem.wpAny_isSubtype_exc
def X9:=@PySem.W.looks_findIn
def Y0:=@Nat.ne_of_gt
def Y1:=@Array.getD_eq_getD_getElem?
def Y2:=@PySem.W.callWith_K
def Y3:=@PySem.Calls.Name_function_global
def Y4:=@PySem.Obj.data_mapFields
def Y5:=@PySem.wpAny_letOwnedTupleGo_enum
def Y6:=@List.zip_cons_cons
def Y7:=@PySem.F.excBase_ValueError
def Y8:=@Array.perm_iff_toList_perm
def Y9:=@PySem.codeAny_call_builtin_code
def Z0:=@PySem.wpAny_check_type_call_sub
def Z1:=@PySem.wpAny_assign_Name
def Z2:=@Option.isSome_map
def Z3:=@List.take_add_one
def Z4:=@PySem.W.methodCall_KW
def Z5:=@Int.lt_irrefl
def Z6:=@PyProof.Rows.listUpdate_at
def Z7:=@List.Nodup.mem_erase_iff
def Z8:=@PySem.wpAny_eqBool_int
def Z9:=@List.length_take
def ZA0:=@PySem.codeAny_call_builtin_at
def ZA1:=@PySem.F.args_dict_get_3
def ZA2:=@PySem.F.plainAttrs_dict
def ZA3:=@PySem.wpAny_pyNext_enum_itemD
def ZA4:=@PySem.F.plain_list_iadd
def Qy:=@decide_eq_decide
def Qx:=@List.getElem_map
def Qw:=@List.filter_cons
def ZA8:=@List.filter_append_perm
def ZA9:=@PySem.wpAny_pyNext_range_end
def ZB0:=@PySem.wpAny_pyIter_rangeiter
def ZB1:=@PyProof.Rows.subscriptTail_builtinR
def ZB2:=@PySem.F.entry_dict_get
def ZB3:=@PySem.codeAny_compStart_list
def ZB4:=@PySem.wpAny_pyNext_enum_endD
def CB:=@Nat.not_lt
def NT:=@Nat.sub_self
def NS:=@Int.ofNat_lt
def ZB8:=@PySem.F.plainAttrs_str
def Qv:=@List.of_mem_zip
def ZC0:=@PySem.wpAny_loadPart'
def Qu:=@List.foldl_cons
def Qt:=@PySem.codeAny_of_tree
def Qs:=@Int.le_antisymm
def Qr:=@PySem.codeAny_builtin
def Qq:=@Nat.not_lt_zero
def Qp:=@List.Perm.of_eq
def ZC7:=@PySem.W.cellsFrom_some
def Qo:=@PySem.W.looks_clsIn
def Qn:=@PySem.W.plainGet_of
def Qm:=@PySem.wpAny_setField
def NR:=@PySem.W.Looks.here
def NQ:=@PySem.call_meets
def Ql:=@PySem.call_range_1
def Qk:=@PySem.seqIndex_neg
def Qj:=@Bool.or_true
def Qi:=@PySem.call_meetsIn
def Qh:=@Int.le_total
local macro_rules|`(tactic|trivial)=>`(tactic|first|exact Or.inl rfl|exact Or.inr rfl|exact Or.inr (Or.inl rfl)|exact Or.inr (Or.inr rfl))
namespace PySem.W.Fast
def tw17414861439105553653:=0
def tw8561267807377179653:=0
def tw340377888186352354:=0
def tw14271449106947171009:=0
def tw11530753516353476992:=0
def tw1031928485374023648:=0
def tw2397362091033336790:=0
def tw11627633283135094121:=0
def tw903571990325448577:=0
def tw12421070439019412538:=0
def tw12103571843723628495:=0
def tw11054108246919860816:=0
def tw7027218926098068443:=0
def tw17791650074333217908:=0
def tw3549488013299299845:=0
def tw12114361188917429869:=0
def tw15613371399512068592:=0
def tw16838469688519188595:=0
def tw5665008103914207757:=0
def tw2693320241943347679:=0
def tw794232312990361831:=0
def tw14873284036617541991:=0
def tw6939055288264889857:=0
def tw5684074019377847515:=0
def tw14325858893241796200:=0
def tw2481749943235641657:=0
def tw14068680822718665614:=0
def tw10469418094490657959:=0
def tw7558385593733432395:=0
def tw16453796771997915423:=0
def tw562259265041231228:=0
def tw1405288597748883140:=0
def tw16274879365518335342:=0
def tw16945424728485077061:=0
def tw6993684247289366454:=0
def tw9703725476245574365:=0
def tw1846050374111429816:=0
def tw5391928381626089548:=0
def tw17053170750181421778:=0
def tw5281361230593039726:=0
def tw10466509545098507986:=0
def tw16697476222543469529:=0
def tw7534655704138772731:=0
def tw13030691930007085969:=0
def tw17637659755559527290:=0
def tw16212941667418612713:=0
def tw652748982990876709:=0
def tw3232340901577635472:=0
def tw33114681017164228:=0
def tw5154968838036888289:=0
def tw7805605527499005312:=0
def tw16071185306440813927:=0
def tw12521305084378955553:=0
def tw4523832111851219721:=0
def tw11434031654870874848:=0
def tw6474900714448400442:=0
def tw147897515545218213:=0
def tw10973928838524337155:=0
def tw12123571680878705802:=0
def tw362940555386627381:=0
def tw16768271596679698481:=0
def tw914171058762144568:=0
def tw16137692241622989687:=0
def tw2236364611604121084:=0
def tw4469640834623833456:=0
def tw7248579349088725252:=0
def tw17438075474687165927:=0
def tw9739136041392412022:=0
def tw6453249868276438303:=0
def tw17364274848527284757:=0
def tw13251053650151713801:=0
def tw16957088254068958959:=0
def tw15887816159396927426:=0
def tw7434548349982381722:=0
def tw15419766360091061606:=0
def tw537016983931823952:=0
def tw10984397815860158681:=0
def tw10010198301626960720:=0
def tw15134694885959420022:=0
def tw4969627622008727027:=0
def tw13404104091488369785:=0
def tw12248912698440448068:=0
def tw18149018004051037312:=0
def tw18318262688210076441:=0
def tw13980719561049257440:=0
def tw2019287098747457137:=0
def tw2244248417962828584:=0
def tw7781542504668880682:=0
def tw1960342672560299833:=0
def tw1475084760893122534:=0
def tw4243935025060582755:=0
def tw10210959164917930864:=0
def tw12848483178592425906:=0
def tw1853084404554783425:=0
def tw1320087637441988328:=0
def tw7214214970793492262:=0
def tw1938898794882854764:=0
def tw2255291727499298596:=0
def tw9205329301765067385:=0
def tw415558619314959844:=0
def tw7785987856147874839:=0
def tw6753775034630327134:=0
def tw10319491379046587804:=0
def tw8442407330382601567:=0
def tw13620235603353781243:=0
def tw2047056071747123081:=0
def tw9901973958034288260:=0
def tw13109846833065999479:=0
def tw8650303781387758371:=0
def tw12028231085303151574:=0
def tw16500089210427311335:=0
def tw10321355820329053772:=0
def tw6451833220041199801:=0
def tw11689484361967767938:=0
def tw4013435768534027024:=0
def tw1841191215605510375:=0
def tw5193068518396029766:=0
def tw13452374046793689444:=0
def tw206383888709973479:=0
def tw17191994753194721173:=0
def tw14240162490813500788:=0
def tw16464640441731456059:=0
def tw15349171290149181313:=0
def tw10785684816413137479:=0
def tw3041208831562216761:=0
def tw1189745251596360643:=0
def tw6069155409721134076:=0
def tw11272911038977071132:=0
def tw2868230154588010398:=0
def tw9371072164698741320:=0
def tw9321269853103938410:=0
def tw18293937074256788892:=0
def tw16665925052940109436:=0
def tw7049312307919974512:=0
def tw10484925387702518519:=0
def tw16132933245623932168:=0
def tw16382532307268835888:=0
def tw6869548441361976105:=0
def tw16642777580208473045:=0
def tw16675188264347941202:=0
def tw15835416696420715026:=0
def tw4725132619035137807:=0
def tw998303749893320423:=0
def tw2911868889294204772:=0
def tw16662608154808470276:=0
def tw8907601469617330659:=0
def tw2351129762482639639:=0
def tw14352389527798096863:=0
def tw166377633441457089:=0
def tw7187734292645466312:=0
def tw2399106019917265377:=0
def tw4647352612537919577:=0
def tw9422820257652874517:=0
def tw4281685938841195021:=0
def tw998541485226814212:=0
def tw7510613028158154133:=0
def tw11394221318273283622:=0
def tw18051249102778801304:=0
def tw16840052238945167812:=0
def tw15157214640853177897:=0
def tw5792321260139508000:=0
def tw11542261953202265142:=0
def tw7660799071485895726:=0
def tw6150106193714816336:=0
def tw5725779484525028318:=0
def tw18442183439537554151:=0
def tw16022577369493955188:=0
def tw13104783952420202417:=0
def tw8760326348963067923:=0
def tw15396784185879914368:=0
def tw11875468409254131673:=0
def tw896255439844340750:=0
def tw855981564895871785:=0
def tw17758863955893339966:=0
def tw15170987642594205886:=0
def tw10393587068096337998:=0
def tw10515361718643846079:=0
def tw9016849709732053429:=0
def tw7005684779343986161:=0
def tw14243472348480193508:=0
def tw5549806858184486632:=0
def tw15053680084934038930:=0
def tw1108408809655529136:=0
def tw4539314704064947735:=0
def tw6803300348719347577:=0
def tw5741442432402963283:=0
def tw18321316012026018319:=0
def tw547407591403390296:=0
def tw2857942289712345886:=0
def tw2638125069435901725:=0
def tw8709730991392790322:=0
def tw3264546885388322247:=0
def tw2505567107473702683:=0
def tw6836429547256932217:=0
def tw1808317867487838344:=0
def tw12187663030205417672:=0
def tw13417354032452876830:=0
def tw7543158353031336613:=0
def tw15456631861276794565:=0
def tw2831583048060897643:=0
def tw2564735123724193336:=0
def tw7150622815231592846:=0
def tw1829758445024772933:=0
def tw8874668562713160085:=0
def tw8161978534918000310:=0
def tw3089592249418284543:=0
def tw4990130574880948462:=0
def tw13438522360117999728:=0
def tw17063047758464331651:=0
def tw9518502524836818421:=0
def tw14684118062191683729:=0
def tw1968289513446228664:=0
def tw150191915436254153:=0
def tw6050892247620828427:=0
def tw9157450295561105390:=0
def tw8137397217818406938:=0
def tw16302180701067301365:=0
def tw16400307337644623427:=0
def tw1703467066400175693:=0
def tw14535571942167626850:=0
def tw14408241165488634584:=0
def tw14989268796999025509:=0
def tw12015486621115798680:=0
def tw8385234106218328373:=0
def tw748517044104245712:=0
def tw1788696623223500779:=0
def tw15917979107318891803:=0
def tw10928092597965312389:=0
def tw6904059987015030751:=0
def tw966843874453773841:=0
def tw9575866013160991322:=0
def tw5512533614878819929:=0
def tw9070935686667876133:=0
def tw8779448365203415662:=0
def tw2328064488231386286:=0
def tw15184427298884184698:=0
def tw1056178984419920841:=0
def tw969817722273021955:=0
def tw1806043467424122509:=0
def tw10337321734910204435:=0
def tw10076666629858182814:=0
def tw1407805245613556813:=0
def tw13290946910113339826:=0
def tw8473425346237459509:=0
def tw17696154392881642356:=0
def tw17548699692188120142:=0
def tw12673095797790215282:=0
def tw18113477611322582651:=0
def tw7307902340476596339:=0
def tw13440293605010984305:=0
def tw2566979187620952326:=0
def tw6934023432309071519:=0
def tw5886770029486987277:=0
def tw30698812028037158:=0
def tw17829624544793025809:=0
end PySem.W.Fast
noncomputable section
open PySem.W (Frag InitBack InstAt Looks any_some bind_fn callWith_K callWith_K0 cellsFrom_some check_slot clsIn cls_value codeIn codeRec_of emptyDict eq_bytes exmOne exm_one findCls findIn findObj_own fnOf get_value handedIn handedOut_of hasDictIn hideAll hideAll_get hideAll_none hideAll_size instObj isFn kdl_call kdl_dict keepIn ki_setAt ki_setBack kia_one kitOne kitx_bool kitx_int kitx_list kitx_none kitx_str kitx_tuple kun_itemsOf lookIn looks_clsIn looks_find looks_findIn looks_mroIn make_core makesIn makes_of methodCall_KW methodObj method_cls method_fn mg_none_of mg_of mroIn ne_bytes notCls of_hideAll osa_eq osa_open plainGet plainGet_of plainOver readsIn set_plain specialIn takerIn takesIn truthy_bytes typeIn)
local macro_rules
 | `(tactic| rfl') => `(tactic| kernel_rfl)
local macro_rules
 | `(tactic| simp![$xs,*] $[$l:location]?) => `(tactic| simp only[Nat.reduceAdd, Nat.reduceSub, Nat.reduceLeDiff, ↓reduceIte, reduceCtorEq, $xs,*] $[$l:location]?)
local macro_rules|`(())=>`(by lia)
local macro_rules|`(⋯)=>`(by decide)|`(nofun)=>`(by decide +kernel)|`(∅)=>`(by rfl')
abbrev AG(x:PySem.Str):Prop:=(x==("__debug__" :PySem.Str))=false
abbrev AE:=List (PySem.Addr×PySem.Obj)
abbrev AB:=PySem.Str->Option PySem.Value
abbrev AA:=PySem.Value->PySem.Shared->Prop
namespace L2
open PySem PySem.Spec PyProof.Rows
abbrev Ap:=Sum Int Str
def lh:Ap->Value->Bool
 | .inl k,v=>Value.isInt k v
 | .inr x,v=>Value.isStrOf x v
noncomputable def Ra(w:World):Ap->Int
 | .inl k=>hashInt k
 | .inr x=>hashStr w x
def oW:∀{k:Ap} {v:Value},lh k v=true->(∃i t,k=Sum.inl i/\v=Value.int i t)\/(∃x t,k=Sum.inr x/\v=Value.str x t)
 | .inl i,v,h=>by
  obtain⟨t,e⟩:=Value.isInt_shape (k:=i) (v:=v) h;exact .inl ⟨i,t,rfl,e⟩
 | .inr x,v,h=>by
  obtain⟨t,e⟩:=Value.isStrOf_shape (x:=x) (v:=v) h;exact .inr ⟨x,t,rfl,e⟩
def YC(i:Int)(t:Tok):lh (.inl i) (.int i t)=true:=by simp[lh,Value.isInt]
def YB(x:Str)(t:Tok):lh (.inr x) (.str x t)=true:=by simp[lh,Value.isStrOf]
def TL(a b:Int):decide ((Sum.inl a:Ap)=Sum.inl b)=(a ==b):=by
 by_cases e:a=b
 ·subst e;simp
 ·have h:¬(Sum.inl a:Ap)=Sum.inl b:=λq=>e (Sum.inl.inj q);rw[K2 h];exact(N4.mpr e).symm
def TK(a b:Str):decide ((Sum.inr a:Ap)=Sum.inr b)=decide (a=b):=by
 by_cases e:a=b
 ·subst e;simp
 ·have h:¬(Sum.inr a:Ap)=Sum.inr b:=λq=>e (Sum.inr.inj q);rw[K2 h,K2 e]
def TJ(a:Int)(b:Str):decide ((Sum.inl a:Ap)=Sum.inr b)=false:=K2 (λq=>nomatch q)
def TH(a:Str)(b:Int):decide ((Sum.inr a:Ap)=Sum.inl b)=false:=K2 (λq=>nomatch q)
def eG(prog:Program)(w:World):PySem.KeyKind prog w Ap where
 is:=lh
 hash:=Ra w
 inj:=λv a b ha hb=>by
  rcases oW ha with⟨i,t,rfl,rfl⟩|⟨x,t,rfl,rfl⟩
  ·rcases oW hb with⟨j,u,rfl,e⟩|⟨y,u,rfl,e⟩
   ·injection e with e1 _;rw[e1]
   ·exact nomatch e
  ·rcases oW hb with⟨j,u,rfl,e⟩|⟨y,u,rfl,e⟩
   ·exact nomatch e
   ·injection e with e1 _;rw[e1]
 byValue:=λk v h=>by
  rcases oW h with⟨i,t,rfl,rfl⟩|⟨x,t,rfl,rfl⟩ <;> rfl
 pyHash:=λhv h=>by
  rcases oW hv with⟨i,t,rfl,rfl⟩|⟨x,t,rfl,rfl⟩
  ·exact wpAny_pyHash_int h
  ·exact wpAny_pyHash_str h
 eqBool:=λhu hv h=>by
  rcases oW hu with⟨i,t,rfl,rfl⟩|⟨x,t,rfl,rfl⟩
  ·rcases oW hv with⟨j,u,rfl,rfl⟩|⟨y,u,rfl,rfl⟩
   ·rw[TL]at h;exact Z8 h
   ·rw[TJ]at h;exact SeqAt.EqAt.int_str i t y u _ _ _ _ h
  ·rcases oW hv with⟨j,u,rfl,rfl⟩|⟨y,u,rfl,rfl⟩
   ·rw[TH]at h;exact SeqAt.EqAt.str_int x t j u _ _ _ _ h
   ·rw[TK]at h;exact wpAny_eqBool_str h
 «strs»:=λk x t v h=>by
  rcases oW h with⟨i,u,rfl,e⟩|⟨y,u,rfl,e⟩
  ·exact nomatch e
  ·injection e with e1 _
   subst e1;cases v <;> rfl
def ZT(prog:Program)(w:World)(i:Int)(t:Tok):(eG prog w).is (.inl i) (.int i t)=true:=YC i t
def ZS(prog:Program)(w:World)(x:Str)(t:Tok):(eG prog w).is (.inr x) (.str x t)=true:=YB x t
inductive V where
 |aJ|bl (b:Bool)|int (i:Int)|str (x:Str)|iM (b:Array UInt8)|mM (b:UInt64)|ref (a:Addr)|ty (n:String)
 deriving DecidableEq
def RelV:V->Value->Prop
 | .aJ,u=>u=Value.none
 | .bl b,u=>u=Value.bool b
 | .int i,u=>∃t,u=Value.int i t
 | .str x,u=>∃t,u=Value.str x t
 | .iM b,u=>∃t,u=Value.bytes b t
 | .mM b,u=>∃t,u=Value.float b t
 | .ref a,u=>u=Value.ref a
 | .ty n,u=>u=Value.type n
abbrev Vals:List V->List Value->Prop:=Paired RelV
theorem Vals.length{xs:List V}{us:List Value}(r:Vals xs us):xs.length=us.length:=S4 r
theorem Vals.get:∀{xs:List V} {us:List Value} {i:Nat} {x:V},Vals xs us->xs[i]? =some x->∃u,us[i]? =some u/\RelV x u
 |_,_,_,_,.nil,e=>by simp at e
 |_,_,0,_,.cons r _,e=>by simp at e;subst e;exact⟨_,rfl,r⟩
 |_,_,i + 1,x,.cons _ t,e=>by
  obtain⟨u,h1,h2⟩:=Vals.get (i:=i) (x:=x) t (by simpa using e);exact⟨u,by simpa using h1,h2⟩
theorem Vals.set{x:V}{u:Value}(r:RelV x u):∀{xs:List V} {us:List Value} (i:Nat),Vals xs us->Vals (xs.set i x) (us.set i u)
 |_,_,_,.nil=> .nil
 |_,_,0,.cons _ t=> .cons r t
 |_,_,i + 1,.cons q t=> .cons q (Vals.set r i t)
theorem Vals.append:∀{xs ys:List V} {us ws:List Value},Vals xs us->Vals ys ws->Vals (xs ++ ys) (us ++ ws)
 |_,_,_,_,.nil,s=>s
 |_,_,_,_,.cons r t,s=> .cons r (Vals.append t s)
def bJ:Option V->Option Value->Prop
 |some v,some u=>RelV v u
 |none,none=>True
 |_,_=>False
def KV{κ:Type}:List (κ×V)->List (κ×Value)->Prop:=Paired λ(p:κ×V) (q:κ×Value)=>p.1=q.1/\RelV p.2 q.2
def kV:Ap->V
 | .inl i=> .int i
 | .inr x=> .str x
inductive HO where
  |lst (xs:List V)
  |tup (xs:List V)
  |dK (kvs:List (Ap×V))|dT (kvs:List (List Ap×V))
  |set (S:Int->Bool) (n:Nat)
  |ins (C dx:Addr) (fs:List (Str×V))
  |own (x:Addr)
  |xd (fs:List (Str×V))
  |met (f x:Addr)
  |yo (lo hi:Int)
  |cS (o:Obj) (u:HO)
  |jN (ps:Array Value)
  |ext (φ:Heap->Prop)
abbrev Hp:=Addr->Option HO
noncomputable def upd(H:Hp)(a:Addr)(o:HO):Hp:=λb=>if b=a then some o else H b
def Ce{H:Hp}{a:Addr}{o:HO}:upd H a o a=some o:=by unfold upd;rw[if_pos rfl]
def Be{H:Hp}{a b:Addr}{o:HO}(h:b≠a):upd H a o b=H b:=by unfold upd;rw[if_neg h]
def RZ{H:Hp}{a b:Addr}{o u:HO}(h:H a=some o)(h':H b=some u)(d:o≠u):a≠b:=by
 intro e;subst e;rw[h]at h';exact d (L6 h')
def En{H:Hp}{a b:Addr}{o:HO}(h:H a=some o)(h':H b=none):a≠b:=by
 intro e;subst e;rw[h]at h';cases h'
section
variable(P:Program)(w:World)
def aY(H:Hp)(h:Heap)(a:Addr):HO->Prop
 | .lst xs=>xs.length<=sizeLine/\∃(its:List Value) (n:Nat),Vals xs its/\h.get? a=some {cls:=.type "list",data:=.seq its.toArray n}
 | .tup xs=>xs.length<=sizeLine/\∃its:List Value,Vals xs its/\IsTup h a its.toArray
 | .dK kvs=>kvs.length<=sizeLine/\(a ==sysModules)=false/\∃vs,KV kvs vs/\h.DictOf (eG P w) a vs
 | .dT kvs=>kvs.length<=sizeLine/\(a ==sysModules)=false/\∃xs:List (List Ap×Addr×Value),
   Paired (λ(p:List Ap×V) (q:List Ap×Addr×Value)=>p.1=q.1/\H q.2.1=some (.tup (p.1.map kV))/\RelV p.2 q.2.2) kvs xs/\
   ∃o es ep,h.get? a=some o/\o.ExactDict/\o.data=.dict es ep/\es.toList=xs.map (entryOfKey (tupleKind (eG P w)))/\(xs.map (·.1)).Nodup
 | .set S n=>h.SetOf (intKind P w) a S n
 | .ins C dx fs=>H dx=some (.own a)/\fs.length<=1000/\dx≠a/\h.get? a=some (instObj C dx)/\
   ∃mA,h.Ns1 dx mA/\(∀f,bJ (fs.lookup f) (mA f))/\PySem.Within mA (fs.map (·.1))
 | .own _=>∃o,h.get? a=some o
 | .xd fs=>∃mA,h.Ns1 a mA/\∀f,bJ (fs.lookup f) (mA f)
 | .yo lo hi=>∃t u v,h.get? a=some {cls:=.type "range",data:=.fields #[.int lo t,.int hi u,.int 1 v]}
 | .cS o u=>h.get? a=some o/\aY H h a u
 | .jN _=>∃vs:Array Value,h.get? a=some {cls:=.none,data:=.fields vs}/\TriplesOk vs.toList/\∀pos cv,codeAmong pos vs.toList=some cv->∃c o us t,cv=.ref c/\H c=some (.cS o (.own a))/\o.data=.fields us/\us[1]? =some (.str "numbers_by_bucket.<locals>.<lambda>" t)
 | .met f x=>h.get? a=some (methodObj (.ref f) (.ref x))
 | .ext φ=>φ h/\(∃o,h.get? a=some o)/\∀h1 h2:Heap,φ h1->(∀o,h1.get? a=some o->h2.get? a=some o)->φ h2
def cH(H:Hp)(h:Heap):Prop:=∀a o,H a=some o->aY P w H h a o
end
section
variable{P:Program}{w:World}{H H':Hp}{h h':Heap}{a:Addr}{o:HO}
theorem aY.lt(x:aY P w H h a o):a < h.objs.size:=by
 cases o with
 |lst xs=>obtain⟨_,_,_,_,e⟩:=x;exact A8 e
 |tup xs=>obtain⟨_,_,_,p⟩:=x;exact p.lt
 |dK kvs=>obtain⟨_,_,_,_,o,_,_,e,_⟩:=x;exact A8 e
 |dT kvs=>obtain⟨_,_,_,_,o,_,_,e,_⟩:=x;exact A8 e
 |set S n=>obtain⟨o,_,_,_,e,_⟩:=x;exact A8 e
 |ins C dx fs=>obtain⟨_,_,_,e,_⟩:=x;exact A8 e
 |own y=>obtain⟨_,e⟩:=x;exact A8 e
 |xd fs=>obtain⟨_,⟨_,_,_,e,_⟩,_⟩:=x;exact A8 e
 |yo lo hi=>obtain⟨_,_,_,e⟩:=x;exact A8 e
 |cS ob u=>obtain⟨e,_⟩:=x;exact A8 e
 |jN ps=>obtain⟨_,e,_⟩:=x;exact A8 e
 |met f y=>exact A8 (show h.get? a=some _ from x)
 |ext φ=>obtain⟨_,⟨_,e⟩,_⟩:=x;exact A8 e
theorem Paired.uW{α β:Type}{F G:α->β->Prop}:∀{l₁:List α} {l₂:List β},Paired F l₁ l₂->(∀a b,F a b->G a b)->Paired G l₁ l₂
 |_,_,.nil,_=> .nil
 |_,_,.cons r t,f=> .cons (f _ _ r) (Paired.uW t f)
def aY.cO(x:aY P w H h a o)(k:∀b u,(b=a\/H b=some (.own a))->h.get? b=some u->h'.get? b=some u)
  (ho:∀b,H b=some (.own a)->H' b=some (.own a)) (ht:∀b xs,H b=some (.tup xs)->H' b=some (.tup xs)) (hf:∀b o,H b=some (.cS o (.own a))->H' b=some (.cS o (.own a)):=by exact λ_ _ q=>q):aY P w H' h' a o:=by
 induction o with
 |lst xs=>obtain⟨z,its,n,r,e⟩:=x;exact⟨z,its,n,r,k _ _ (.inl rfl) e⟩
 |tup xs=>obtain⟨z,its,r,ob,e,c⟩:=x;exact⟨z,its,r,ob,k _ _ (.inl rfl) e,c⟩
 |dK kvs=>obtain⟨z,y,vs,r,ob,es,ep,e,c⟩:=x;exact⟨z,y,vs,r,ob,es,ep,k _ _ (.inl rfl) e,c⟩
 |dT kvs=>
  obtain⟨z,y,xs,r,ob,es,ep,e,c⟩:=x;exact⟨z,y,xs,Paired.uW r λp q z=>⟨z.1,ht _ _ z.2.1,z.2.2⟩,ob,es,ep,k _ _ (.inl rfl) e,c⟩
 |set S n=>obtain⟨ob,es,ep,t,e,c⟩:=x;exact⟨ob,es,ep,t,k _ _ (.inl rfl) e,c⟩
 |ins C dx fs=>
  obtain⟨d,z,ne,e,mA,⟨od,es,ep,e2,c⟩,r⟩:=x;exact⟨ho _ d,z,ne,k _ _ (.inl rfl) e,mA,⟨od,es,ep,k _ _ (.inr d) e2,c⟩,r⟩
 |own y=>obtain⟨ob,e⟩:=x;exact⟨ob,k _ _ (.inl rfl) e⟩
 |xd fs=>obtain⟨mA,⟨od,es,ep,e,c⟩,r⟩:=x;exact⟨mA,⟨od,es,ep,k _ _ (.inl rfl) e,c⟩,r⟩
 |yo lo hi=>obtain⟨t,u,v,e⟩:=x;exact⟨t,u,v,k _ _ (.inl rfl) e⟩
 |cS ob u ih=>obtain⟨e,q⟩:=x;exact⟨k _ _ (.inl rfl) e,ih q⟩
 |jN ps=>obtain⟨vs,e,t,c⟩:=x;exact⟨vs,k _ _ (.inl rfl) e,t,λpos cv q=>let⟨c,o,us,t,e1,e2,r⟩:=c pos cv q;⟨c,o,us,t,e1,hf c o e2,r⟩⟩
 |met f y=>
  have e:h.get? a=some (methodObj (.ref f) (.ref y)):=x;show h'.get? a=some (methodObj (.ref f) (.ref y));exact k a _ (.inl rfl) e
 |ext φ=>obtain⟨p,⟨o,e⟩,st⟩:=x;exact⟨st _ _ p λo q=>k _ _ (.inl rfl) q,⟨o,k _ _ (.inl rfl) e⟩,st⟩
theorem cH.lt(x:cH P w H h)(e:H a=some o):a < h.objs.size:=(x a o e).lt
def cH.fresh(x:cH P w H h)(e:h.objs.size<=a):H a=none:=by
 cases q:H a with
 |none=>rfl
 |some u=>exact absurd (C1 (x.lt q) e) (F1 _)
def cH.kept(x:cH P w H h)(k:∀b u,h.get? b=some u->h'.get? b=some u):cH P w H h':=λa o e=>
 (x a o e).cO (λb u _ q=>k b u q) (λ_ q=>q) λ_ _ q=>q
def cH.laid(x:cH P w H h)(k:∀b u,h.get? b=some u->h'.get? b=some u)(hp:h.objs.size<=a)(new:aY P w (upd H a o) h' a o):cH P w (upd H a o) h':=λb u e=>by
 have hn:=x.fresh hp
 by_cases hb:b=a
 ·subst hb;rw[Ce]at e;cases e;exact new
 ·rw[Be hb]at e;exact(x b u e).cO (λc v _ q=>k c v q) (λc q=>by rw[Be (En q hn)];exact q) (λc xs q=>by rw[Be (En q hn)];exact q) λc o q=>by rw[Be (En q hn)];exact q
end
def Rd(H:Hp)(a:Addr)(u:HO):Prop:=H a=some u\/∃o,H a=some (.cS o u)
def Rd.ok{P:Program}{w:World}{H:Hp}{h:Heap}{a:Addr}{u:HO}(r:Rd H a u)(x:cH P w H h):aY P w H h a u:=by
 rcases r with r|⟨o,r⟩
 ·exact x a u r
 ·obtain⟨_,q⟩:=x a _ r;exact q
def CF:Option HO->Prop
 |some (.lst _)=>True
 |some (.dK _)=>True
 |some (.dT _)=>True
 |some (.set _ _)=>True
 |some (.ins _ _ _)=>True
 |some (.ext _)=>True
 |_=>False
section
variable{P:Program}{w:World}{H:Hp}{h h':Heap}{x e:Addr}{o':HO}
def cH.write(ok:cH P w H h)(mu:CF (H x))(he:e=x\/H e=some (.own x))(k:∀b u,b≠e->h.get? b=some u->h'.get? b=some u)(yB:∃u,h'.get? e=some u)
  (new:aY P w (upd H x o') h' x o'):cH P w (upd H x o') h':=λb u q=>by
 have fj:∀c y,H c=some (.own y)->c≠x:=λc y r z=>by subst z;rw[r]at mu;exact mu
 have jc:∀c xs,H c=some (.tup xs)->c≠x:=λc xs r z=>by subst z;rw[r]at mu;exact mu
 by_cases hb:b=x
 ·subst hb;rw[Ce]at q;cases q;exact new
 ·rw[Be hb]at q
  by_cases uu:b=e
  ·have q':H b=some (.own x):=by
    rcases he with z|z
    ·exact absurd (uu.trans z) hb
    ·rw[uu];exact z
   rw[q]at q';cases q';obtain⟨v,hv⟩:=yB;exact⟨v,by rw[uu];exact hv⟩
  ·refine(ok b u q).cO (λc v hc r=>k c v ?_ r) (λc r=>by rw[Be (fj c b r)];exact r) (λc xs r=>by rw[Be (jc c xs r)];exact r) λc o r=>by rw[Be λz=>by subst z;rw[r]at mu;exact mu];exact r
   rcases hc with rfl|hc
   ·exact uu
   ·rintro rfl
    rcases he with z|z
    ·exact fj c b hc z
    ·rw[hc]at z;cases z;exact hb rfl
end
structure Un(fs ex:List Addr)(H H':Hp)(h h':Heap):Prop where
 keep:∀b o,h.get? b=some o->H b=none->b∉fs->b∉ex->h'.get? b=some o
 slot:∀b o,h.get? b=some o->H b=none->b∈fs->b∉ex->∃sl,h'.get? b=some {o with slots:=sl}
 free:∀b o,h.get? b=some o->H b=none->b∉ex->H' b=none
 there:∀b o,h.get? b=some o->b∉ex->∃o',h'.get? b=some o'
 cN:∀b xs,H b=some (.tup xs)->H' b=some (.tup xs)
 cK:∀b o u,H b=some (.cS o u)->H' b=some (.cS o u)
 cC:∀b ps,H b=some (.jN ps)->∃more,H' b=some (.jN (ps ++ more))
section
variable{fs fs' ex ex':List Addr}{H H1 H2:Hp}{h h1 h2 h':Heap}{a x e:Addr}{o:HO}
def Un.any(u:Un fs ex H H1 h h1){b:Addr}{ob:Obj}(q:h.get? b=some ob)(n:H b=none)(hx:b∉ex):∃sl,h1.get? b=some {ob with slots:=sl}:=by
 by_cases hb:b∈fs
 ·exact u.slot b ob q n hb hx
 ·exact⟨ob.slots,u.keep b ob q n hb hx⟩
def Un.kept(k:∀b u,h.get? b=some u->h'.get? b=some u):Un fs ex H H h h':=
 ⟨λb ob q _ _ _=>k b ob q,λb ob q _ _ _=>⟨ob.slots,k b ob q⟩,λ_ _ _ n _=>n,λb ob q _=>⟨ob,k b ob q⟩,λ_ _ q=>q,λ_ _ _ q=>q,λ_ ps q=>⟨#[],by rw[q];simp⟩⟩
def Un.refl:Un fs ex H H h h:=Un.kept λ_ _ q=>q
def Un.laid(k:∀b u,h.get? b=some u->h'.get? b=some u)(hp:h.objs.size<=a)(hn:H a=none):Un fs ex H (upd H a o) h h' where
 keep:=λb u q _ _ _=>k b u q
 slot:=λb u q _ _ _=>⟨u.slots,k b u q⟩
 free:=λb u q n _=>by rw[Be (C4 (C1 (A8 q) hp))];exact n
 there:=λb u q _=>⟨u,k b u q⟩
 cN:=λb xs q=>by rw[Be (En q hn)];exact q
 cK:=λb u xs q=>by rw[Be (En q hn)];exact q
 cC:=λb ps q=>⟨#[],by rw[Be (En q hn),q];simp⟩
def Un.write(mu:CF (H x))(he:e=x\/H e=some (.own x))(k:∀b u,b≠e->h.get? b=some u->h'.get? b=some u)(yB:∃u,h'.get? e=some u):Un fs ex H (upd H x o) h h':=by
 have hx:∀b,H b=none->b≠x:=λb n z=>by subst z;rw[n]at mu;exact mu
 have hb:∀b,H b=none->b≠e:=λb n z=>by
  subst z;rcases he with r|r
  ·exact hx b n r
  ·rw[n]at r;cases r
 have hm:∀b u,H b=some u->¬CF (some u)->b≠x:=λb u q nm z=>by subst z;rw[q]at mu;exact nm mu
 refine⟨λb u q n _ _=>k b u (hb b n) q,λb u q n _ _=>⟨u.slots,k b u (hb b n) q⟩,λb u q n _=>by rw[Be (hx b n)];exact n,λb u q _=> ?_,
  λb xs q=>by rw[Be (hm b _ q λz=>z)];exact q,λb u xs q=>by rw[Be (hm b _ q λz=>z)];exact q,λb ps q=>⟨#[],by rw[Be (hm b _ q λz=>z),q];simp⟩⟩
 by_cases uu:b=e
 ·subst uu;exact yB
 ·exact⟨u,k b u uu q⟩
end
noncomputable def pD(h:Heap)(H:Hp):List Addr:=(List.range h.objs.size).filter λa=>(H a).isSome
def eN(h:Heap)(H:Hp):Heap:=hideAll h (pD h H)
def YA(h:Heap)(H:Hp):(eN h H).objs.size=h.objs.size:=hideAll_size _ _
def Xl{h:Heap}{H:Hp}{b:Addr}{o:Obj}(e:h.get? b=some o)(n:H b=none):(eN h H).get? b=some o:=
 hideAll_get _ e λhm=>by
  have q:(H b).isSome=true:=(J7.mp hm).2;rw[n]at q;simp at q
def Vv{h:Heap}{H:Hp}{b:Addr}{o:Obj}(e:(eN h H).get? b=some o):h.get? b=some o/\H b=none:=by
 have e':h.get? b=some o:=of_hideAll (pD h H) e;refine⟨e', ?_⟩;cases q:H b with
 |none=>rfl
 |some x=>
  have hm:b∈pD h H:=J7.mpr ⟨K7.mpr (A8 e'),by simp[q]⟩;have z:(eN h H).get? b=none:=hideAll_none (pD h H) hm;rw[z]at e;cases e
noncomputable def Vu(g h:Heap)(L:Addr):AE:=(List.range h.objs.size).filterMap λa=>if a=L\/(g.get? a).isSome=true then none else(h.get? a).map λo=>(a,o)
def Cz(g h:Heap)(L d:Addr):AE:=(Vu g h L).filter λp=>decide (p.1≠d)
structure Mod(K:Frag)(mg:AB)(base:Heap):Prop where
 lZ:K.In base
 glob:base.Ns mainGlobals mg
 blt:∃mb,base.Ns builtinsNs mb/\∀x:Str,x≠ "__name__" ->mb x=bootBuiltins x
 nolimit:base.NoLimit
 bm:∃bm o,mg "__builtins__" =some (.ref bm)/\bm≠builtinsNs/\base.get? bm=some o/\o.cls=.type "module" /\o.dict=some builtinsNs/\o.data=.plain
def oi(K:Frag)(H:Hp):Prop:=∀c P,PySem.W.tabIn K "numbers_by_bucket" =some (c,P)->∃ps,H P=some (.jN ps)
structure Cx where
 prog:Program
 w:World
 K:Frag
 mg:Str->Option Value
 base:Heap
 A:Around
 N:List Str
 s₀:Shared
 H₀:Hp
 env:Env
 outer:List Env
 stack:List Env
 ex:List Addr
 fn:Str->Bool
 calm:Bool
 pn:AE
 xe:Value->Shared->Prop
noncomputable def fM(l:List Env):List Addr:=l.filterMap (·.frame)
abbrev Cx.fs(X:Cx):List Addr:=fM X.outer
def fV(sc:Scope)(x:Str):Prop:=sc.names.lookup x=some .local\/sc.names.lookup x=some .cell\/sc.names.lookup x=some .free
def Loc(sc:Scope)(x:Str):Prop:=sc.names.lookup x=some .local\/sc.names.lookup x=some .cell
def Look(env:Env)(h:Heap)(m:AB)(x:Str)(u:Value):Prop:=
 (env.kindOf x=some .local/\m x=some u)\/((env.kindOf x=some .cell\/env.kindOf x=some .free)/\∃c,env.cells.lookup x=some c/\h.IsCell c (some u))
structure Cx.Ok(X:Cx):Prop where
 mod:Mod X.K X.mg X.base
 kind:X.env.scope.kind=.function
 glob:X.env.globals=mainGlobals
 blt:X.env.builtins=builtinsNs
 above:X.s₀.heap.objs.size<=X.env.locals
 inj:∀x y c,X.env.cells.lookup x=some c->X.env.cells.lookup y=some c->x=y
 has:∀x,(X.env.kindOf x=some .cell\/X.env.kindOf x=some .free)->∃c,X.env.cells.lookup x=some c
 qg:∀x c,X.fn x=true->X.env.cells.lookup x=some c->X.s₀.heap.objs.size<=c
 hd:X.calm=true->X.A.handled=none
 frames:X.A.frames=some X.stack
 rZ:X.stack=X.outer\/(X.stack=X.env::X.outer/\X.env.frame=some X.env.locals)
 yL:∀b∈X.ex,b≠X.env.locals/\∀x c,X.env.cells.lookup x=some c->c≠b
 bs:∀b o,X.base.get? b=some o->X.s₀.heap.get? b=some o/\X.H₀ b=none
 fU:X.base.objs.size<=X.s₀.heap.objs.size
 dQ:∀b o,X.base.get? b=some o->b∉X.ex
 gB:∀b∈X.ex,b∉X.fs
 bV:X.s₀.heap.FunFrames X.base X.outer
 kH:∀b∈X.fs,X.H₀ b=none
 tb:oi X.K X.H₀
structure Inv(X:Cx)(zd:AE)(σ:List (Option V))(H:Hp)(s:Shared):Prop where
 ok:X.Ok
 os:s.os=X.s₀.os
 bare:AllBare s.gens
 base:Un X.fs X.ex X.H₀ H X.s₀.heap s.heap
 loc:∃m,s.heap.Ns X.env.locals m/\∀(i:Nat) (x:Str) (v:V),X.N[i]? =some x->σ[i]? =some (some v)->fV X.env.scope x->∃u,RelV v u/\Look X.env s.heap m x u
 cell:∀x c,X.env.cells.lookup x=some c->∃v,s.heap.IsCell c v
 free:H X.env.locals=none
 bD:∀x c,X.env.cells.lookup x=some c->H c=none
 pin:∀p∈X.pn ++ zd,s.heap.get? p.1=some p.2/\H p.1=none/\p.1≠X.env.locals/\p.1∉X.fs/\∀v,p.2.data≠ .cell v
 aN:cH X.prog X.w H s.heap
 len:σ.length=X.N.length
section
variable{X:Cx}{zd:AE}{σ:List (Option V)}{H H':Hp}{s:Shared}{h':Heap}
def Cx.Ok.QZ(ok:X.Ok){b:Addr}{o:Obj}(e:X.base.get? b=some o):b∉X.fs:=λhb=>by
 have:=(ok.bV.mem hb).1;rw[e]at this;cases this
theorem Inv.bs(I:Inv X zd σ H s):∀b o,X.base.get? b=some o->s.heap.get? b=some o/\H b=none:=λb o e=>
 ⟨I.base.keep b o (I.ok.bs b o e).1 (I.ok.bs b o e).2 (I.ok.QZ e) (I.ok.dQ b o e),I.base.free b o (I.ok.bs b o e).1 (I.ok.bs b o e).2 (I.ok.dQ b o e)⟩
def Inv.bk(I:Inv X zd σ H s):∀b o,X.base.get? b=some o->s.heap.get? b=some o:=λb o e=>(I.bs b o e).1
theorem Inv.mod(I:Inv X zd σ H s):Mod X.K X.mg X.base:=I.ok.mod
def Inv.bY(I:Inv X zd σ H s):X.K.In s.heap:=I.ok.mod.lZ.keeps I.bk
theorem Inv.nolimit(I:Inv X zd σ H s):s.heap.NoLimit:=I.ok.mod.nolimit.keeps I.bk
def Inv.fr(I:Inv X zd σ H s):∃m,Fr X.base X.env.locals s.heap m:=
 let⟨m,hn,_⟩:=I.loc
 ⟨m,hn,I.bk,D4 I.ok.fU I.ok.above⟩
theorem Inv.lt(I:Inv X zd σ H s):X.env.locals < s.heap.objs.size:=let⟨_,hn,_⟩:=I.loc;hn.lt
def Inv.sz(I:Inv X zd σ H s):X.s₀.heap.objs.size<=s.heap.objs.size:=D4 I.ok.above (R7 I.lt)
def Inv.qq(I:Inv X zd σ H s){a:Addr}(h:s.heap.objs.size<=a):a∉X.fs:=λhb=>by
 obtain⟨_,o,ho,_⟩:=I.ok.bV.mem hb;exact absurd (C1 (A8 ho) (D4 I.sz h)) (F1 _)
def Inv.mP(I:Inv X zd σ H s):∀x c,X.env.cells.lookup x=some c->c≠X.env.locals:=λx c e z=>by
 obtain⟨v,o,ho,hd⟩:=I.cell x c e;obtain⟨m,⟨o',es,ep,dP,yC,_⟩,_⟩:=I.loc;rw[z,dP]at ho;cases ho;rw[yC]at hd;cases hd
theorem Inv.bV(I:Inv X zd σ H s):s.heap.FunFrames X.base X.outer:=by
 have all:∀(l:List Env),(∀b∈fM l,b∈X.fs)->X.s₀.heap.FunFrames X.base l->s.heap.FunFrames X.base l:=by
  intro l
  induction l with
  |nil=>intro _ _;trivial
  |cons env r ih=>
   intro hs hl;obtain⟨hk,⟨L,o,hf,hn,ho,hd⟩,hr⟩:=hl;have hL:L∈X.fs:=hs L (by unfold fM;rw[X7,hf];exact L4);obtain⟨sl,e⟩:=I.base.slot L o ho (I.ok.kH L hL) hL λz=>I.ok.gB L z hL;exact⟨hk,⟨L,_,hf,hn,e,hd⟩,ih (λb hb=>hs b (by unfold fM;rw[X7,hf];exact D5 _ hb)) hr⟩
 exact all X.outer (λ_ hb=>hb) I.ok.bV
theorem Inv.stack(I:Inv X zd σ H s):s.heap.FunFrames X.base X.stack:=by
 rcases I.ok.rZ with e|⟨e,hf⟩
 ·rw[e];exact I.bV
 ·rw[e];obtain⟨m,hn,_⟩:=I.loc;refine .cons (by rw[I.ok.kind];decide) hf hn ?_ I.bV;exact P9 (D4 I.ok.fU I.ok.above)
def Inv.bP(I:Inv X zd σ H s):∀b∈fM X.stack,b∈X.env.locals::X.fs:=λb hb=>by
 rcases I.ok.rZ with e|⟨e,hf⟩
 ·rw[e]at hb;exact D5 _ hb
 ·rw[e]at hb;unfold fM at hb;rw[X7,hf]at hb;exact hb
def Inv.cP(I:Inv X zd σ H s):∀b∈fM X.stack,H b=none:=λb hb=>by
 rcases B8.mp (I.bP b hb) with e|hb
 ·rw[e];exact I.free
 ·obtain⟨_,o,ho,_⟩:=I.ok.bV.mem hb;exact I.base.free b o ho (I.ok.kH b hb) λz=>I.ok.gB b z hb
def Inv.step{g':Array GenState}{t':Nat}{d':Drawn}{ch:List Addr}(I:Inv X zd σ H s)
  (oZ:∀b∈ch,(b∈X.ex\/X.s₀.heap.objs.size<=b)/\b≠X.env.locals/\(∀x c,X.env.cells.lookup x=some c->c≠b)/\∀p∈X.pn ++ zd,p.1≠b)
  (keep:∀b o,b≠X.env.locals->b∉X.fs->b∉ch->s.heap.get? b=some o->H b=none->h'.get? b=some o)
  (slot:∀b o,b≠X.env.locals->b∈X.fs->b∉ch->s.heap.get? b=some o->H b=none->∃sl,h'.get? b=some {o with slots:=sl}) (free:∀b o,b∉ch->s.heap.get? b=some o->H b=none->H' b=none)
  (there:∀b o,b∉ch->s.heap.get? b=some o->∃o',h'.get? b=some o')
  (cN:∀b xs,H b=some (.tup xs)->H' b=some (.tup xs)) (cK:∀b o u,H b=some (.cS o u)->H' b=some (.cS o u)) (cC:∀b ps,H b=some (.jN ps)->∃more,H' b=some (.jN (ps ++ more)))
  (ns:∀m,s.heap.Ns X.env.locals m->h'.Ns X.env.locals m) (aN:cH X.prog X.w H' h') (hg:AllBare g'):
  Inv X zd σ H' {s with heap:=h',gens:=g',drawn:=d',toks:=t'}:=by
 have neL:∀b o,X.s₀.heap.get? b=some o->b≠X.env.locals:=λb o e=>C4 (C1 (A8 e) I.ok.above);have Nb:∀b o,X.s₀.heap.get? b=some o->b∉X.ex->b∉ch:=λb o e hx hb=>by
  rcases(oZ b hb).1 with z|z
  ·exact hx z
  ·exact absurd (C1 (A8 e) z) (F1 _)
 have cellK:∀x c,X.env.cells.lookup x=some c->∀v,s.heap.IsCell c v->h'.IsCell c v:=λx c e v ⟨o,ho,hd⟩=>by
  have oP:c∉ch:=λz=>(oZ c z).2.2.1 x c e rfl
  by_cases hc:c∈X.fs
  ·obtain⟨sl,q⟩:=slot c o (I.mP x c e) hc oP ho (I.bD x c e);exact⟨_,q,hd⟩
  ·exact⟨o,keep c o (I.mP x c e) hc oP ho (I.bD x c e),hd⟩
 refine⟨I.ok,I.os,hg,⟨λb o e n hb hx=> ?_,λb o e n hb hx=> ?_,λb o e n hx=> ?_,λb o e hx=> ?_,λb xs e=>cN b xs (I.base.cN b xs e),λb o xs e=>cK b o xs (I.base.cK b o xs e),λb ps e=> ?_⟩, ?_,λx c e=> ?_, ?_,λx c e=> ?_,λp hp=> ?_,aN,I.len⟩
 ·exact keep b o (neL b o e) hb (Nb b o e hx) (I.base.keep b o e n hb hx) (I.base.free b o e n hx)
 ·obtain⟨sl,e1⟩:=I.base.slot b o e n hb hx;obtain⟨OA,e2⟩:=slot b _ (neL b o e) hb (Nb b o e hx) e1 (I.base.free b o e n hx);exact⟨OA,e2⟩
 ·obtain⟨o',e1⟩:=I.base.there b o e hx;exact free b o' (Nb b o e hx) e1 (I.base.free b o e n hx)
 ·obtain⟨o',e1⟩:=I.base.there b o e hx;exact there b o' (Nb b o e hx) e1
 ·obtain⟨m1,e1⟩:=I.base.cC b ps e;obtain⟨m2,e2⟩:=cC b _ e1;exact⟨m1 ++ m2,by rw[e2,Array.append_assoc]⟩
 ·obtain⟨m,hn,hl⟩:=I.loc;refine⟨m,ns m hn,λi x v e1 e2 e3=> ?_⟩;obtain⟨u,r,l⟩:=hl i x v e1 e2 e3;refine⟨u,r, ?_⟩;rcases l with l|⟨k,c,e,z⟩
  ·exact .inl l
  ·exact .inr ⟨k,c,e,cellK x c e _ z⟩
 ·obtain⟨v,z⟩:=I.cell x c e;exact⟨v,cellK x c e v z⟩
 ·obtain⟨m,⟨o,_,_,ho,_⟩,_⟩:=I.loc;exact free _ o (λz=>(oZ _ z).2.1 rfl) ho I.free
 ·obtain⟨v,o,ho,hd⟩:=I.cell x c e;exact free c o (λz=>(oZ c z).2.2.1 x c e rfl) ho (I.bD x c e)
 ·obtain⟨e,n,ne,nf,d⟩:=I.pin p hp;have oP:p.1∉ch:=λz=>(oZ p.1 z).2.2.2 p hp rfl;exact⟨keep p.1 p.2 ne nf oP e n,free p.1 p.2 oP e n,ne,nf,d⟩
def Inv.un{t':Nat}(I:Inv X zd σ H s)(u:Un X.fs [] H H' s.heap h')(aN:cH X.prog X.w H' h'):Inv X zd σ H' {s with heap:=h',toks:=t'}:=by
 obtain⟨m,⟨o,es,ep,ho,r⟩,_⟩:=id I.loc;obtain⟨sl,hL⟩:=u.any ho I.free (by simp);exact I.step (g':=s.gens) (d':=s.drawn) (ch:=[]) (λ_ z=>nomatch z) (λb o _ hb _ e n=>u.keep b o e n hb (by simp)) (λb o _ hb _ e n=>u.slot b o e n hb (by simp)) (λb o _ e n=>u.free b o e n (by simp)) (λb o _ e=>u.there b o e (by simp)) u.cN u.cK u.cC (λm' hm=>by
  obtain⟨o',PN,PR,dP,r'⟩:=hm;rw[ho]at dP;cases dP;exact⟨_,PN,PR,hL,r'⟩) aN I.bare
def Inv.call{g':Array GenState}{t':Nat}{d':Drawn}{ch:List Addr}(I:Inv X zd σ H s)(u:Un (fM X.stack) ch H H' s.heap h')(aN:cH X.prog X.w H' h')(hg:AllBare g')
  (oZ:∀b∈ch,(b∈X.ex\/X.s₀.heap.objs.size<=b)/\b≠X.env.locals/\(∀x c,X.env.cells.lookup x=some c->c≠b)/\∀p∈X.pn ++ zd,p.1≠b):
  Inv X zd σ H' {s with heap:=h',gens:=g',drawn:=d',toks:=t'}:=by
 obtain⟨m,⟨o,es,ep,ho,r⟩,_⟩:=id I.loc;obtain⟨sl,hL⟩:=u.any ho I.free λz=>(oZ _ z).2.1 rfl;exact I.step (ch:=ch) oZ (λb o hL hb hc e n=>u.keep b o e n (λz=>(B8.mp (I.bP b z)).elim hL hb) hc) (λb o _ _ hc e n=>u.any e n hc) (λb o hc e n=>u.free b o e n hc) (λb o hc e=>u.there b o e hc) u.cN u.cK u.cC (λm' hm=>by
  obtain⟨o',PN,PR,dP,r'⟩:=hm;rw[ho]at dP;cases dP;exact⟨_,PN,PR,hL,r'⟩) aN hg
def Inv.turned{t':Nat}{it:Addr}(I:Inv X zd σ H s)(k:∀b o,b≠it->s.heap.get? b=some o->h'.get? b=some o)(hn:H it=none)(hL:it≠X.env.locals)
  (h1:it∈X.ex\/X.s₀.heap.objs.size<=it) (h2:∀x c,X.env.cells.lookup x=some c->c≠it) (h3:∀p∈X.pn ++ zd,p.1≠it):Inv X zd σ H {s with heap:=h',toks:=t'}:=by
 have nit:∀b u,H b=some u->b≠it:=λb u e z=>by rw[z,hn]at e;cases e
 refine I.step (g':=s.gens) (d':=s.drawn) (ch:=[it]) (λb hb=> ?_) (λb o _ _ hc e _=>k b o (λz=>hc (by simp[z])) e) (λb o _ _ hc e _=>⟨o.slots,k b o (λz=>hc (by simp[z])) e⟩) (λ_ _ _ _ n=>n)
  (λb o hc e=>⟨o,k b o (λz=>hc (by simp[z])) e⟩) (λ_ _ e=>e) (λ_ _ _ e=>e) (λb ps e=>⟨#[],by rw[e];simp⟩) (λm hm=> ?_) (λb u e=> ?_) I.bare
 ·have e:b=it:=by simpa using hb
  subst e;exact⟨h1,hL,h2,h3⟩
 ·obtain⟨o,es,ep,ho,r⟩:=hm;exact⟨o,es,ep,k _ o (Ne.symm hL) ho,r⟩
 ·refine(I.aN b u e).cO (λc v hc q=>k c v ?_ q) (λ_ q=>q) λ_ _ q=>q;rcases hc with z|z
  ·rw[z];exact nit b u e
  ·exact nit c _ z
def Inv.tok(I:Inv X zd σ H s)(t:Nat):Inv X zd σ H {s with toks:=t}:=I.un (h':=s.heap) (t':=t) Un.refl I.aN
theorem Inv.kept{t':Nat}(I:Inv X zd σ H s)(k:∀b u,s.heap.get? b=some u->h'.get? b=some u):Inv X zd σ H {s with heap:=h',toks:=t'}:=I.un (Un.kept k) (I.aN.kept k)
theorem Inv.laid{a:Addr}{o:HO}{t':Nat}(I:Inv X zd σ H s)(k:∀b u,s.heap.get? b=some u->h'.get? b=some u)(hp:s.heap.objs.size<=a)(new:aY X.prog X.w (upd H a o) h' a o):
  Inv X zd σ (upd H a o) {s with heap:=h',toks:=t'}:=I.un (Un.laid k hp (I.aN.fresh hp)) (I.aN.laid k hp new)
theorem Inv.write{x e:Addr}{o:HO}{t':Nat}(I:Inv X zd σ H s)(mu:CF (H x))(he:e=x\/H e=some (.own x))(k:∀b u,b≠e->s.heap.get? b=some u->h'.get? b=some u)(yB:∃u,h'.get? e=some u)
  (new:aY X.prog X.w (upd H x o) h' x o):Inv X zd σ (upd H x o) {s with heap:=h',toks:=t'}:=I.un (Un.write mu he k yB) (I.aN.write mu he k yB new)
def Inv.bX{au:AE}(I:Inv X zd σ H s)(h:∀p∈au,s.heap.get? p.1=some p.2/\H p.1=none/\p.1≠X.env.locals/\p.1∉X.fs/\∀v,p.2.data≠ .cell v):Inv X au σ H s:=
 ⟨I.ok,I.os,I.bare,I.base,I.loc,I.cell,I.free,I.bD,λp hp=>(F9.mp hp).elim (λz=>I.pin p (M9 _ z)) (h p),I.aN,I.len⟩
def wH{N:List Str}(hN:N.Nodup){i j:Nat}{x:Str}(a:N[i]? =some x)(b:N[j]? =some x):i=j:=by
 obtain⟨h1,e1⟩:=B4.mp a;obtain⟨h2,e2⟩:=B4.mp b;exact(List.getElem_inj hN).mp (e1.trans e2.symm)
def xf{M:Model}{A:Around}{E:AA}{i:Nat}{x:Str}{v:V}{u:Value}{Q:Unit->Shared->Prop}(I:Inv X zd σ H s)(hN:X.N.Nodup)(hi:X.N[i]? =some x)(hx:Loc X.env.scope x)(r:RelV v u)
  (h:∀s',Inv X zd (σ.set i (some v)) H s'->(∃a,Heap.SameBut a s.heap s'.heap/\(a=X.env.locals\/X.env.cells.lookup x=some a))->Q .unit s') (hf:X.fn x=true\/X.env.scope.names.lookup x=some .local:=by trivial):wpAny M A (storeName X.env x u) Q E s:=by
 obtain⟨m,hn,hl⟩:=id I.loc;have dg:(X.env.scope.kind == .class || (X.env.scope.kind == .module && X.env.locals != X.env.globals))=false:=by rw[I.ok.kind];rfl
 have hiσ:i < σ.length:=by rw[I.len];exact(B4.mp hi).1
 have mP:=I.mP;have tracked:∀{a:Addr} {h':Heap},(∃o,s.heap.get? a=some o/\H a=none)->Heap.SameBut a s.heap h'->cH X.prog X.w H h':=λ{a h'} ha hs b ob e=>by
  obtain⟨_,_,ay⟩:=ha;refine(I.aN b ob e).cO (λc w' hc q=>(hs.2 c ?_).trans q) (λ_ q=>q) λ_ _ q=>q
  rintro rfl
  rcases hc with rfl|hc
  ·rw[ay]at e;cases e
  ·rw[ay]at hc;cases hc
 rcases hx with hk|hk
 ·refine wpAny_storeName_local hk hn (λh' Pb hs=> ?_) dg;obtain⟨oL,_,_,OZ,_⟩:=id hn;refine h _ ⟨I.ok,I.os,I.bare,⟨λb o e n hb hx=> ?_,λb o e n hb hx=> ?_,I.base.free,λb o e hx=> ?_,I.base.cN,I.base.cK,I.base.cC⟩,⟨_,Pb,λj y v' e1 e2 e3=> ?_⟩,λy c e=> ?_,I.free,I.bD,λp hp=> ?_,tracked ⟨oL,OZ,I.free⟩ hs,by simpa using I.len⟩ ⟨_,hs,.inl rfl⟩
  ·exact(hs.2 b (C4 (C1 (A8 e) I.ok.above))).trans (I.base.keep b o e n hb hx)
  ·obtain⟨sl,e1⟩:=I.base.slot b o e n hb hx;exact⟨sl,(hs.2 b (C4 (C1 (A8 e) I.ok.above))).trans e1⟩
  ·obtain⟨o',e1⟩:=I.base.there b o e hx;exact⟨o',(hs.2 b (C4 (C1 (A8 e) I.ok.above))).trans e1⟩
  ·by_cases hj:j=i
   ·subst hj;rw[hi]at e1;cases e1;rw[G6 hiσ]at e2;cases e2;exact⟨u,r,.inl ⟨hk,by simp⟩⟩
   ·rw[C6 (Ne.symm hj)]at e2;obtain⟨u',r',q⟩:=hl j y v' e1 e2 e3;refine⟨u',r', ?_⟩;rcases q with⟨k,e⟩|⟨k,c,e,z⟩
    ·refine .inl ⟨k, ?_⟩;have:y≠x:=λe=>hj (wH hN e1 (e▸hi));simp[this,e]
    ·exact .inr ⟨k,c,e,z.sameBut hs (mP y c e)⟩
  ·obtain⟨w',z⟩:=I.cell y c e;exact⟨w',z.sameBut hs (mP y c e)⟩
  ·obtain⟨e,n,ne,nf,d⟩:=I.pin p hp;exact⟨(hs.2 p.1 ne).trans e,n,ne,nf,d⟩
 ·have Pl:X.fn x=true:=by
   rcases hf with z|z
   ·exact z
   ·rw[z]at hk;cases hk
  obtain⟨c,hc⟩:=I.ok.has x (.inl hk);obtain⟨w',z⟩:=I.cell x c hc;refine wpAny_storeName_cell I.ok.kind hk hc z (λh' fS hs=> ?_);obtain⟨oc,zU,jh⟩:=id z;refine h {s with heap:=h'} ⟨I.ok,I.os,I.bare,⟨λb o e n hb hx=> ?_,λb o e n hb hx=> ?_,I.base.free,λb o e hx=> ?_,I.base.cN,I.base.cK,I.base.cC⟩,⟨m,hn.sameBut hs (Ne.symm (mP x c hc)),λj y v' e1 e2 e3=> ?_⟩,λy c' e=> ?_,I.free,I.bD,λp hp=> ?_,tracked ⟨oc,zU,I.bD x c hc⟩ hs,by simpa using I.len⟩ ⟨c,hs,.inr hc⟩
  ·exact(hs.2 b (C4 (C1 (A8 e) (I.ok.qg x c Pl hc)))).trans (I.base.keep b o e n hb hx)
  ·obtain⟨sl,e1⟩:=I.base.slot b o e n hb hx;exact⟨sl,(hs.2 b (C4 (C1 (A8 e) (I.ok.qg x c Pl hc)))).trans e1⟩
  ·obtain⟨o',e1⟩:=I.base.there b o e hx;exact⟨o',(hs.2 b (C4 (C1 (A8 e) (I.ok.qg x c Pl hc)))).trans e1⟩
  ·by_cases hj:j=i
   ·subst hj;rw[hi]at e1;cases e1;rw[G6 hiσ]at e2;cases e2;exact⟨u,r,.inr ⟨.inl hk,c,hc,fS⟩⟩
   ·rw[C6 (Ne.symm hj)]at e2;obtain⟨u',r',q⟩:=hl j y v' e1 e2 e3;refine⟨u',r', ?_⟩;rcases q with q|⟨k,c',e,z'⟩
    ·exact .inl q
    ·refine .inr ⟨k,c',e,z'.sameBut hs ?_⟩
     rintro rfl
     exact hj (wH hN e1 (I.ok.inj _ _ _ e hc▸hi))
  ·by_cases sN:c'=c
   ·subst sN;exact⟨_,fS⟩
   ·obtain⟨w2,z2⟩:=I.cell y c' e;exact⟨w2,z2.sameBut hs sN⟩
  ·obtain⟨e,n,ne,nf,d⟩:=I.pin p hp;refine⟨(hs.2 p.1 ?_).trans e,n,ne,nf,d⟩;intro q;rw[q,zU]at e;have q':oc=p.2:=L6 e;exact d w' (by rw[<-q'];exact jh)
def wG{M:Model}{A:Around}{E:AA}{i:Nat}{x:Str}{v:V}{u:Value}{Q:Unit->Shared->Prop}(I:Inv X zd σ H s)(hN:X.N.Nodup)(hi:X.N[i]? =some x)(hx:Loc X.env.scope x)(r:RelV v u)
  (h:∀s',Inv X zd (σ.set i (some v)) H s'->Q .unit s') (hf:X.fn x=true\/X.env.scope.names.lookup x=some .local:=by trivial):wpAny M A (storeName X.env x u) Q E s:=
 xf I hN hi hx r (λs' I' _=>h s' I') hf
def Inv.oy{s':Shared}{ch:List Addr}(I:Inv X zd σ H s)(ho:s'.os=s.os)(u:Un (fM X.stack) ch H H' s.heap s'.heap)(aN:cH X.prog X.w H' s'.heap)(hg:AllBare s'.gens)
  (oZ:∀b∈ch,(b∈X.ex\/X.s₀.heap.objs.size<=b)/\b≠X.env.locals/\(∀x c,X.env.cells.lookup x=some c->c≠b)/\∀p∈X.pn ++ zd,p.1≠b):Inv X zd σ H' s':=by
 obtain⟨h',g',d',t',o'⟩:=s';have e:o'=s.os:=ho;subst e;exact I.call (g':=g') (t':=t') (d':=d') u aN hg oZ
end
abbrev XK:=Value->Option Addr->Hp->Prop
abbrev St:=List (Option V)
abbrev VK:=V->Hp->Prop
abbrev TE:=St->Hp->VK->Prop
abbrev TT:=St->Hp->(Bool->Hp->Prop)->Prop
abbrev TA:=St->Hp->(List V->Hp->Prop)->Prop
structure Ends where
 nx:St->Hp->Prop
 rt:VK
 bk:St->Hp->Prop:=λ_ _=>False
 ct:St->Hp->Prop:=λ_ _=>False
abbrev TS:=Ends->St->Hp->Prop
def EP(X:Cx)(zd:AE)(σ:St)(Q:VK)(u:Value)(s':Shared):Prop:=∃v H',Inv X zd σ H' s'/\RelV v u/\Q v H'
def TP(X:Cx)(zd:AE)(σ:St)(Q:Bool->Hp->Prop)(b:Bool)(s':Shared):Prop:=∃H',Inv X zd σ H' s'/\Q b H'
def AP(X:Cx)(zd:AE)(σ:St)(Q:List V->Hp->Prop)(us:List Value)(s':Shared):Prop:=∃vs H',Inv X zd σ H' s'/\Vals vs us/\Q vs H'
def SP(X:Cx)(zd:AE)(D:Ends)(f:Flow)(s':Shared):Prop:=
 match f with
 | .next=>∃σ' H',Inv X zd σ' H' s'/\D.nx σ' H'
 | .brk=>∃σ' H',Inv X zd σ' H' s'/\D.bk σ' H'
 | .cont=>∃σ' H',Inv X zd σ' H' s'/\D.ct σ' H'
 | .ret u=>∃v σ' H',Inv X zd σ' H' s'/\RelV v u/\D.rt v H'
def PE(X:Cx)(e:Expr)(t:TE):Prop:=
 ∀(zd:AE) (s:Shared) (σ:St) (H:Hp) (Q:VK),Inv X zd σ H s->t σ H Q->wpAny (model X.prog X.w) X.A (eval e X.env) (EP X zd σ Q) X.xe s
def PT(X:Cx)(e:Expr)(t:TT):Prop:=
 ∀(zd:AE) (s:Shared) (σ:St) (H:Hp) (Q:Bool->Hp->Prop),Inv X zd σ H s->t σ H Q->wpAny (model X.prog X.w) X.A (isTrue e X.env (eval e X.env)) (TP X zd σ Q) X.xe s
def PW(X:Cx)(e:Expr)(t:TT):Prop:=
 ∀(whole:Sem Value) (zd:AE) (s:Shared) (σ:St) (H:Hp) (Q:Bool->Hp->Prop),Inv X zd σ H s->t σ H Q->wpAny (model X.prog X.w) X.A (isTrue e X.env whole) (TP X zd σ Q) X.xe s
def PW.pt{X:Cx}{e:Expr}{t:TT}(h:PW X e t):PT X e t:=h _
def PA(X:Cx)(es:List Expr)(t:TA):Prop:=
 ∀(pos:Pos) (zd:AE) (s:Shared) (σ:St) (H:Hp) (Q:List V->Hp->Prop),Inv X zd σ H s->t σ H Q->wpAny (model X.prog X.w) X.A (spliced (backTo pos (starEach es X.env))) (AP X zd σ Q) X.xe s
def PS(X:Cx)(st:Stmt)(t:TS):Prop:=
 ∀(zd:AE) (s:Shared) (σ:St) (H:Hp) (D:Ends),Inv X zd σ H s->t D σ H->wpAny (model X.prog X.w) X.A (exec st X.env) (SP X zd D) X.xe s
def fW(X:Cx)(st:List Stmt)(t:TS):Prop:=
 ∀(zd:AE) (s:Shared) (σ:St) (H:Hp) (D:Ends),Inv X zd σ H s->t D σ H->wpAny (model X.prog X.w) X.A (execs st X.env) (SP X zd D) X.xe s
def Bg{α:Type}{t:Sem α}{Q Q':α->Shared->Prop}{M:Model}{A:Around}{E:AA}{s:Shared}(h:wpAny M A t Q E s)(hQ:∀a s,Q a s->Q' a s):wpAny M A t Q' E s:=D6 h hQ λ_ _ x=>x
section
variable{X:Cx}
def uR(i:Nat):TE:=λ σ H Q=>∃v,σ[i]? =some (some v)/\Q v H
def tC(v:V):TE:=λ_ H Q=>Q v H
def iJ{i:Nat}{x:Str}{pos:Pos}(hN:X.N[i]? =some x)(hv:fV X.env.scope x)(hd:AG x:=by decide)(bT:(x ==("__classdict__" :Str))=false:=by decide):PE X (.Name x pos) (uR i):=by
 intro zd s σ H Q I h;obtain⟨v,e,h⟩:=h;obtain⟨m,hn,hl⟩:=I.loc;obtain⟨u,r,l⟩:=hl i x v hN e hv;have fin:EP X zd σ Q u s:=⟨v,H,I,r,h⟩;rcases l with⟨hk,hm⟩|⟨hk,c,hc,tu⟩
 ·exact wpAny_Name (wpAny_loadName_local I.ok.kind hk hn hm fin) hd
 ·rcases hk with hk|hk
  ·exact wpAny_Name (wpAny_loadName_cell I.ok.kind hk hc tu fin) hd
  ·exact wpAny_Name (wpAny_loadName_free I.ok.kind hk hc tu fin bT) hd
def TC{i j pos}:PE X (.Constant (.int i) j pos) (tC (.int i)):=λ_ _ _ H _ I h=>wpAny_Constant_int ⟨.int i,H,I.tok _,⟨_,rfl⟩,h⟩
def RY{b j pos}:PE X (.Constant (.bool b) j pos) (tC (.bl b)):=λ_ _ _ H _ I h=>Constant_bool ⟨.bl b,H,I,rfl,h⟩
def TB{j pos}:PE X (.Constant .none j pos) (tC .aJ):=λ_ _ _ H _ I h=>Constant_none ⟨.aJ,H,I,rfl,h⟩
def Tz{x j pos}:PE X (.Constant (.str x) j pos) (tC (.str x)):=λ_ _ _ H _ I h=>Calls.Constant_str ⟨.str x,H,I.tok _,⟨_,rfl⟩,h⟩
def Gl(X:Cx)(x:Str):Prop:=X.env.kindOf x=some .globalImplicit
noncomputable def rS{E:AA}{zd:AE}{s:Shared}{σ:St}{H:Hp}{x:Str}{u:Value}{pos:Pos}{Q:AA}(I:Inv X zd σ H s)(hg:Gl X x)(hm:X.mg x=some u)(h:Q u s)
  (hd:AG x:=by decide):wpAny (model X.prog X.w) X.A (eval (.Name x pos) X.env) Q E s:=
 Y3 I.ok.kind hg (Calls.loadGlobal_global (by rw[I.ok.glob];exact I.mod.glob.keeps I.bk) hm h) hd
noncomputable def lS{E:AA}{zd:AE}{s:Shared}{σ:St}{H:Hp}{x:Str}{u:Value}{pos:Pos}{Q:AA}(I:Inv X zd σ H s)(hg:Gl X x)(hm:X.mg x=none)(hv:bootBuiltins x=some u)(h:Q u s)
  (hn:x≠ "__name__" :=by decide) (hd:AG x:=by decide):wpAny (model X.prog X.w) X.A (eval (.Name x pos) X.env) Q E s:=by
 obtain⟨mb,h1,h2⟩:=I.mod.blt;exact Y3 I.ok.kind hg (Calls.loadGlobal_builtin (by rw[I.ok.glob];exact I.mod.glob.keeps I.bk) hm (by rw[I.ok.blt];exact h1.keeps I.bk) ((h2 x hn).trans hv) h) hd
def HU{x:Str}{v:V}{u:Value}{pos:Pos}(hg:Gl X x)(hm:X.mg x=some u)(r:RelV v u)(hd:AG x:=by decide):PE X (.Name x pos) (tC v):=
 λ_ _ _ H _ I h=>rS I hg hm ⟨v,H,I,r,h⟩ hd
def Vt{x:Str}{v:V}{u:Value}{pos:Pos}(hg:Gl X x)(hm:X.mg x=none)(hv:bootBuiltins x=some u)(r:RelV v u)(hn:x≠ "__name__" :=by decide)(hd:AG x:=by decide):PE X (.Name x pos) (tC v):=
 λ_ _ _ H _ I h=>lS I hg hm hv ⟨v,H,I,r,h⟩ hn hd
variable{a b:Expr}{ta tb:TE}{pos:Pos}
variable{tA MS:TT}{Cz:List Expr}
def QS(t u:TT):TT:=λ σ H Q=>t σ H λc H1=>if c=true then u σ H1 Q else Q false H1
def tOr(t u:TT):TT:=λ σ H Q=>t σ H λc H1=>if c=true then Q true H1 else u σ H1 Q
def QM(t:TT):TT:=λ σ H Q=>t σ H λc H1=>Q (!c) H1
def Vs(ha:PT X a tA):PW X (.BoolOp .And [a] pos) tA:=by
 intro wh zd s σ H Q I h;refine isTrue_and (Bg (ha zd s σ H Q I h) λc s1 e=> ?_);cases c with
 |true=>exact isTrue_and_nil e
 |false=>exact e
def Tx(ha:PT X a tA):PW X (.BoolOp .Or [a] pos) tA:=by
 intro wh zd s σ H Q I h;refine isTrue_or (Bg (ha zd s σ H Q I h) λc s1 e=> ?_);cases c with
 |false=>exact isTrue_or_nil e
 |true=>exact e
def Tw(ha:PT X a tA)(hb:PW X (.BoolOp .And (b::Cz) pos) MS):PW X (.BoolOp .And (a::b::Cz) pos) (QS tA MS):=by
 intro wh zd s σ H Q I h;refine isTrue_and (Bg (ha zd s σ H _ I h) λc s1 ⟨H1,I1,q1⟩=> ?_);cases c with
 |true=>exact hb wh zd s1 σ H1 Q I1 q1
 |false=>exact⟨H1,I1,q1⟩
def RX(ha:PT X a tA)(hb:PW X (.BoolOp .Or (b::Cz) pos) MS):PW X (.BoolOp .Or (a::b::Cz) pos) (tOr tA MS):=by
 intro wh zd s σ H Q I h;refine isTrue_or (Bg (ha zd s σ H _ I h) λc s1 ⟨H1,I1,q1⟩=> ?_);cases c with
 |true=>exact⟨H1,I1,q1⟩
 |false=>exact hb wh zd s1 σ H1 Q I1 q1
def Tv(ha:PT X a tA):PT X (.UnaryOp .Not a pos) (QM tA):=by
 intro zd s σ H Q I h;exact isTrue_not (ha zd s σ H (λc H1=>Q (!c) H1) I h)
def RW(ta tb:TE):TE:=λ σ H Q=>ta σ H λx H1=>∃c,x=.bl c/\if c=true then tb σ H1 Q else Q (.bl false) H1
def Tu{op}{t:TE}(h:PE X a t):PE X (.BoolOp op [a] pos) t:=λzd s σ H Q I hw=>BoolOp_one (h zd s σ H Q I hw)
def Tt(ha:PE X a ta)(hb:PE X (.BoolOp .And (b::Cz) pos) tb):PE X (.BoolOp .And (a::b::Cz) pos) (RW ta tb):=by
 intro zd s σ H Q I h;refine BoolOp_and (Bg (ha zd s σ H _ I h) λv s1 ⟨x,H1,I1,r1,q1⟩=> ?_);obtain⟨c,rfl,q1⟩:=q1;cases r1;refine O4 ?_;cases c with
 |true=>exact hb zd s1 σ H1 Q I1 q1
 |false=>exact⟨.bl false,H1,I1,rfl,q1⟩
end
def bU(K:Frag)(H:Hp)(a:Addr)(xs:List V):Prop:=
 Rd H a (.lst xs)\/
  ∃(o:Obj) (its:Array Value) (n:Nat),K.lookup a=some o/\o.cls=.type "list" /\o.dict=none/\o.data=.seq its n/\its.size<=sizeLine/\Vals xs its.toList
def cU(K:Frag)(H:Hp)(a:Addr)(xs:List V):Prop:=
 Rd H a (.tup xs)\/
  ∃(o:Obj) (its:Array Value) (n:Nat),K.lookup a=some o/\o.cls=.type "tuple" /\o.data=.seq its n/\its.size<=sizeLine/\Vals xs its.toList
noncomputable def abg:Value->Option V
 | .none=>some .aJ
 | .bool b=>some (.bl b)
 | .int i _=>some (.int i)
 | .str x _=>some (.str x)
 | .bytes b _=>some (.iM b)
 | .float b _=>some (.mM b)
 | .ref a=>some (.ref a)
 | .type n=>some (.ty n)
 |_=>none
def RelV.abs{x:V}{u:Value}(r:RelV x u):abg u=some x:=by
 cases x with
 |aJ=>cases r;rfl
 |bl _=>cases r;rfl
 |int _=>obtain⟨t,rfl⟩:=r;rfl
 |str _=>obtain⟨t,rfl⟩:=r;rfl
 |iM _=>obtain⟨t,rfl⟩:=r;rfl
 |mM _=>obtain⟨t,rfl⟩:=r;rfl
 |ref _=>cases r;rfl
 |ty _=>cases r;rfl
theorem RelV.inj{x y:V}{u:Value}(r:RelV x u)(q:RelV y u):x=y:=L6 (r.abs.symm.trans q.abs)
theorem Vals.inj:∀{xs ys:List V} {us:List Value},Vals xs us->Vals ys us->xs=ys
 |_,_,_,.nil,.nil=>rfl
 |_,_,_,.cons r t,.cons r' t'=>by rw[r.inj r',Vals.inj t t']
section
variable{X:Cx}{zd:AE}{σ:St}{H:Hp}{s:Shared}{a:Addr}{xs ys:List V}
def bU.of{K:Frag}(h:H a=some (.lst xs)):bU K H a xs:=.inl (.inl h)
def cU.of{K:Frag}(h:H a=some (.tup xs)):cU K H a xs:=.inl (.inl h)
def Inv.list(I:Inv X zd σ H s)(h:bU X.K H a xs):∃its:List Value,Vals xs its/\PlainL s.heap a its.toArray/\xs.length<=sizeLine:=by
 rcases h with h|⟨o,its,n,hk,hc,hd,hs,hz,r⟩
 ·obtain⟨z,its,n,r,e⟩:=h.ok I.aN;exact⟨its,r,⟨_,n,e,rfl,rfl,rfl⟩,z⟩
 ·refine⟨its.toList,r,⟨o,n,I.bY a o hk,hc,hd,by simpa using hs⟩, ?_⟩;have e:=r.length;simp only[M4]at e;lia
def Inv.tuple(I:Inv X zd σ H s)(h:cU X.K H a xs):∃its:List Value,Vals xs its/\IsTup s.heap a its.toArray/\xs.length<=sizeLine:=by
 rcases h with h|⟨o,its,n,hk,hc,hs,hz,r⟩
 ·obtain⟨z,its,r,p⟩:=h.ok I.aN;exact⟨its,r,p,z⟩
 ·refine⟨its.toList,r,⟨o,I.bY a o hk,hc,n,by simpa using hs⟩, ?_⟩;have e:=r.length;simp only[M4]at e;lia
def Inv.iC(I:Inv X zd σ H s)(h:bU X.K H a xs)(h':bU X.K H a ys):xs=ys:=by
 obtain⟨its,r,⟨o,n,e,_,_,d⟩,_⟩:=I.list h;obtain⟨its',r',⟨o',n',e',_,_,d'⟩,_⟩:=I.list h';rw[e]at e';cases e';rw[d]at d';injection d' with d1 _
 have:its=its':=by simpa using L8 Array.toList d1
 subst this;exact r.inj r'
def Inv.lN(I:Inv X zd σ H s)(h:cU X.K H a xs)(h':cU X.K H a ys):xs=ys:=by
 obtain⟨its,r,⟨o,e,_,n,d⟩,_⟩:=I.tuple h;obtain⟨its',r',⟨o',e',_,n',d'⟩,_⟩:=I.tuple h';rw[e]at e';cases e';rw[d]at d';injection d' with d1 _
 have:its=its':=by simpa using L8 Array.toList d1
 subst this;exact r.inj r'
end
noncomputable abbrev Cx.dD(X:Cx)(E:AA):Cx:={X with xe:=E}
abbrev Cx.jS(X:Cx):Cx:=X.dD λ_ _=>False
theorem Cx.Ok.dD{X:Cx}(ok:X.Ok)(E:AA):(X.dD E).Ok:=
 ⟨ok.mod,ok.kind,ok.glob,ok.blt,ok.above,ok.inj,ok.has,ok.qg,ok.hd,ok.frames,ok.rZ,ok.yL,ok.bs,ok.fU,ok.dQ,ok.gB,ok.bV,ok.kH,ok.tb⟩
def Cx.Ok.bW{X:Cx}{E:AA}(ok:(X.dD E).Ok):X.Ok:=
 ⟨ok.mod,ok.kind,ok.glob,ok.blt,ok.above,ok.inj,ok.has,ok.qg,ok.hd,ok.frames,ok.rZ,ok.yL,ok.bs,ok.fU,ok.dQ,ok.gB,ok.bV,ok.kH,ok.tb⟩
section
variable{X:Cx}{zd:AE}{σ:St}{H:Hp}{s:Shared}{E:AA}
theorem Inv.dD(I:Inv X zd σ H s)(E:AA):Inv (X.dD E) zd σ H s:=⟨I.ok.dD E,I.os,I.bare,I.base,I.loc,I.cell,I.free,I.bD,I.pin,I.aN,I.len⟩
theorem Inv.bW(I:Inv (X.dD E) zd σ H s):Inv X zd σ H s:=⟨I.ok.bW,I.os,I.bare,I.base,I.loc,I.cell,I.free,I.bD,I.pin,I.aN,I.len⟩
theorem SP.bW{D:Ends}{f:Flow}{s':Shared}(h:SP (X.dD E) zd D f s'):SP X zd D f s':=by
 cases f with
 |next=>obtain⟨σ',H',I,q⟩:=h;exact⟨σ',H',I.bW,q⟩
 |brk=>obtain⟨σ',H',I,q⟩:=h;exact⟨σ',H',I.bW,q⟩
 |cont=>obtain⟨σ',H',I,q⟩:=h;exact⟨σ',H',I.bW,q⟩
 |ret u=>obtain⟨v,σ',H',I,r,q⟩:=h;exact⟨v,σ',H',I.bW,r,q⟩
theorem PE.jS{e:Expr}{t:TE}(h:PE X.jS e t):PE X e t:=λzd s σ H Q I hw=>
 D6 (h zd s σ H Q (I.dD _) hw) (λ_ _ ⟨v,H',I',r,q⟩=>⟨v,H',I'.bW,r,q⟩) λ_ _ z=>False.elim z
end
section
variable{X:Cx}{st:Stmt}{Cz:List Stmt}{t u:TS}{e:Expr}{te:TE}{pos:Pos}
def RV:TS:=λD σ H=>D.nx σ H
def QK(t u:TS):TS:=λD σ H=>t {D with nx:=u D} σ H
def Vr:fW X [] RV:=λ_ _ σ H _ I h=>T9 ⟨σ,H,I,h⟩
def Xk(h1:PS X st t)(h2:fW X Cz u):fW X (st::Cz) (QK t u):=by
 intro zd s σ H D I h;refine wpAny_execs_cons (Bg (h1 zd s σ H {D with nx:=u D} I h) λf s1 q=> ?_);cases f with
 |next=>
  obtain⟨σ',H',I',q⟩:=q;exact h2 zd s1 σ' H' D I' q
 |ret v=>exact q
 |brk=>exact q
 |cont=>exact q
def rh(h1:PS X st t):fW X [st] t:=by
 intro zd s σ H D I h;refine wpAny_execs_cons (Bg (h1 zd s σ H D I h) λf s1 q=> ?_);cases f with
 |next=>exact T9 q
 |ret v=>exact q
 |brk=>exact q
 |cont=>exact q
def Inv.quiet{zd:AE}{σ:St}{H:Hp}{s:Shared}(I:Inv X zd σ H s):interactive X.env=false:=by simp[interactive,I.ok.kind]
def RU(te:TE):TS:=λD σ H=>te σ H λ_ H1=>D.nx σ H1
def nL(he:PE X e te)(hs:swapsWith e none pos.line X.env=pure false:=by rfl):PS X (.Expr e pos) (RU te):=by
 intro zd s σ H D I h;exact wpAny_Expr_any (Bg (he zd s σ H _ I h) λv s1 ⟨x,H1,I1,r1,q1⟩=>⟨σ,H1,I1,q1⟩) I.quiet hs
def QL(te:TE):TS:=λD σ H=>te σ H D.rt
def EZ(he:PE X e te):PS X (.Return (some e) pos) (QL te):=by
 intro zd s σ H D I h;exact wpAny_Return_some (Bg (he zd s σ H _ I h) λv s1 ⟨x,H1,I1,r1,q1⟩=>⟨x,σ,H1,I1,r1,q1⟩)
def QO(c:TT)(t u:TS):TS:=λD σ H=>c σ H λb H1=>if b=true then t D σ H1 else u D σ H1
def RT{c:Expr}{a b:List Stmt}{tc:TT}(hc:PT X c tc)(ha:fW X a t)(hb:fW X b u):PS X (.If c a b pos) (QO tc t u):=by
 intro zd s σ H D I h;refine wpAny_If (Bg (hc zd s σ H _ I h) λd s1 ⟨H1,I1,q1⟩=> ?_);cases d with
 |true=>exact ha zd s1 σ H1 D I1 q1
 |false=>exact hb zd s1 σ H1 D I1 q1
end
abbrev TG:=V->St->Hp->(St->Hp->Prop)->Prop
abbrev qj:=List V->St->Hp->(St->Hp->Prop)->Prop
def PG(X:Cx)(target:Expr)(t:TG):Prop:=
 ∀(zd:AE) (s:Shared) (σ:St) (H:Hp) (v:V) (u:Value) (Q:St->Hp->Prop),Inv X zd σ H s->RelV v u->t v σ H Q->
  wpAny (model X.prog X.w) X.A (assign target X.env u) (λ_ s'=>∃σ' H',Inv X zd σ' H' s'/\Q σ' H') X.xe s
def CD(X:Cx)(ts:List Expr)(t:qj):Prop:=
 ∀(zd:AE) (s:Shared) (σ:St) (H:Hp) (vs:List V) (us:List Value) (Q:St->Hp->Prop),Inv X zd σ H s->Vals vs us->t vs σ H Q->
  wpAny (model X.prog X.w) X.A (assignInOrder ((assignEach ts X.env).map (·.2)) us) (λ_ s'=>∃σ' H',Inv X zd σ' H' s'/\Q σ' H') X.xe s
abbrev xS:=V->V->V->Hp->(Hp->Prop)->Prop
def Mt(X:Cx)(t:xS):Prop:=
 ∀(zd:AE) (s:Shared) (σ:St) (H:Hp) (o i v:V) (ov iv u:Value) (Q:Hp->Prop),Inv X zd σ H s->RelV o ov->RelV i iv->RelV v u->t o i v H Q->
  wpAny (model X.prog X.w) X.A (setItem ov iv u) (λ_ s'=>∃H',Inv X zd σ H' s'/\Q H') X.xe s
section
variable{X:Cx}{pos:Pos}
def lg(i:Nat):TG:=λv σ H Q=>Q (σ.set i (some v)) H
def lH{i:Nat}{x:Str}(hN:X.N.Nodup)(hi:X.N[i]? =some x)(hx:Loc X.env.scope x)(hf:X.fn x=true\/X.env.scope.names.lookup x=some .local:=by trivial):PG X (.Name x pos) (lg i):=by
 intro zd s σ H v u Q I r h;exact Z1 (wG I hN hi hx r (λs' I'=>⟨_,H,I',h⟩) hf)
def Ro:qj:=λvs σ H Q=>vs= []/\Q σ H
def RQ(t:TG)(u:qj):qj:=λvs σ H Q=>∃v r,vs=v::r/\t v σ H λ σ' H'=>u r σ' H' Q
def HS:CD X [] Ro:=by
 intro zd s σ H vs us Q I r h;obtain⟨e,h⟩:=h;subst e;cases r;exact assignInOrder_nil ⟨σ,H,I,h⟩
def rB{e:Expr}{es:List Expr}{t:TG}{u:qj}(h1:PG X e t)(h2:CD X es u)
  (hs:(assignEach (e::es) X.env).map (·.2)=assign e X.env::(assignEach es X.env).map (·.2):=by rfl):CD X (e::es) (RQ t u):=by
 intro zd s σ H vs us Q I r h;obtain⟨v,vr,e1,h⟩:=h;subst e1;cases r with
 |cons r rr=>
  rw[hs];refine assignInOrder_cons (Bg (h1 zd s σ H _ _ _ I r h) λ_ s1 ⟨σ1,H1,I1,q1⟩=> ?_);exact h2 zd s1 σ1 H1 _ _ Q I1 rr q1
def Rl(K:Frag)(n:Nat)(t:qj):TG:=λv σ H Q=>∃a xs,v=.ref a/\cU K H a xs/\xs.length=n/\t xs σ H Q
def EY{es:List Expr}{k:Nat}{t:qj}{n:Nat}(hc:X.calm=true)(h:CD X es t)
  (hn:(assignEach es X.env).length=n:=by rfl) (cM:(assignEach es X.env).findIdx? (·.1)=none:=by rfl):PG X (.Tuple es k pos) (Rl X.K n t):=by
 intro zd s σ H v u Q I r hw;obtain⟨a,xs,e1,hq,hl,hw⟩:=hw;subst e1;cases r;obtain⟨its,rv,ht,hz⟩:=I.tuple hq;refine assign_Tuple_tuple (I.ok.hd hc) ht (by simp[hn,<-hl,rv.length]) cM λh' hx=> ?_;have I1:Inv X zd σ H {s with heap:=h'}:=I.kept (t':=s.toks) λb o e=>hx b o (C4 (A8 e)) e;exact h zd _ σ H xs _ Q I1 (by simpa using rv) hw
def Rm(to ti:TE)(t:xS):TG:=λv σ H Q=>to σ H λo H1=>ti σ H1 λi H2=>t o i v H2 λH3=>Q σ H3
def Ts{o i:Expr}{to ti:TE}{t:xS}(ho:PE X o to)(hi:PE X i ti)(hs:Mt X t)
  (ha:∀v,assign (.Subscript o i pos) X.env v=(do
   let ov<-holding [v] (eval o X.env)
   let iv<-holding [v,ov] (eval i X.env)
   standAt pos
   holding [v,ov,iv] (setItem ov iv v)
   release [v,ov,iv] []):=by intro _;rfl):PG X (.Subscript o i pos) (Rm to ti t):=by
 intro zd s σ H v u Q I r h;rw[ha];refine A4 (N9 (Bg (ho zd s σ H _ I h) λov s1 ⟨x,H1,I1,r1,q1⟩=> ?_));refine A4 (N9 (Bg (hi zd s1 σ H1 _ I1 q1) λiv s2 ⟨y,H2,I2,r2,q2⟩=> ?_));refine A4 (O8 (A4 (N9 (Bg (hs zd s2 σ H2 x y v ov iv u _ I2 r1 r2 r q2) λ_ s3 ⟨H3,I3,q3⟩=> ?_))));exact wpAny_release ⟨σ,H3,I3,q3⟩
def kL(te:TE)(g:TG):TS:=λD σ H=>te σ H λx H1=>g x σ H1 D.nx
def EW{tg e:Expr}{te:TE}{g:TG}(he:PE X e te)(hg:PG X tg g)(hs:swapsWithSole [tg] e pos.line X.env=pure false:=by rfl)(hw:swappedStores [tg] e X.env=pure none:=by rfl)
  (h1:(assignEach [tg] X.env).map (·.2)= [assign tg X.env]:=by rfl):PS X (.Assign [tg] e pos) (kL te g):=by
 intro zd s σ H D I h;refine wpAny_Assign_stores (Bg (he zd s σ H _ I h) λv s1 ⟨x,H1,I1,r1,q1⟩=> ?_) hs hw;rw[h1];exact Bg (hg zd s1 σ H1 x v _ I1 r1 q1) λ_ s2 q=>q
def vD{i:Nat}{x:Str}{e:Expr}{te:TE}{pos':Pos}(hN:X.N.Nodup)(hi:X.N[i]? =some x)(hx:Loc X.env.scope x)(he:PE X e te)(hs:swapsWith e (some (.Name x pos')) pos.line X.env=pure false:=by rfl)(hf:X.fn x=true\/X.env.scope.names.lookup x=some .local:=by trivial):
  PS X (.Assign [.Name x pos'] e pos) (kL te (lg i)):=by
 intro zd s σ H D I h;refine wpAny_Assign_Name (Bg (he zd s σ H _ I h) λv s1 ⟨y,H1,I1,r1,q1⟩=> ?_) hs;exact wG I1 hN hi hx r1 (λs2 I2=>⟨_,H1,I2,q1⟩) hf
end
section
variable{X:Cx}{pos:Pos}
def Tq(c:TT)(tb:TS):TS:=λD σ H=>∃W:Nat->St->Hp->Prop,(∃m,W m σ H)/\∀m σ H,W m σ H->
 c σ H λb H1=>if b=true then∃N:St->Hp->Prop,(∀σ' H',N σ' H'->∃m',m' < m/\W m' σ' H')/\tb {D with nx:=N,ct:=N,bk:=D.nx} σ H1 else D.nx σ H1
def Xj{c:Expr}{body:List Stmt}{tc:TT}{tb:TS}(hp:PassesOwn (model X.prog X.w) X.A X.env X.xe)(hc:PT X c tc)(hb:fW X body tb):PS X (.While c body [] pos) (Tq tc tb):=by
 intro zd s σ H D I h;obtain⟨W,⟨m0,w0⟩,turn⟩:=h;refine wpAny_While (codeAny_whileLoop (λn s'=>∃σ' H',Inv X zd σ' H' s'/\W n σ' H') ?_ m0 ⟨σ,H,I,w0⟩)
 rintro n s1 ⟨σ1,H1,I1,w1⟩
 refine P7 hp (Bg (hc zd s1 σ1 H1 _ I1 (turn n σ1 H1 w1)) λb s2 ⟨H2,I2,q2⟩=> ?_);cases b with
 |true=>
  obtain⟨N,hN,q2⟩:=q2;rw[if_pos rfl];refine P7 hp (Bg (hb zd s2 σ1 H2 _ I2 q2) λf s3 q3=> ?_);cases f with
  |next=>
   obtain⟨σ3,H3,I3,n3⟩:=q3;obtain⟨m',hm,w3⟩:=hN σ3 H3 n3;exact⟨m',hm,σ3,H3,I3,w3⟩
  |cont=>
   obtain⟨σ3,H3,I3,n3⟩:=q3;obtain⟨m',hm,w3⟩:=hN σ3 H3 n3;exact⟨m',hm,σ3,H3,I3,w3⟩
  |brk=>exact q3
  |ret v=>exact q3
 |false=>
  rw[if_neg A6];exact T9 ⟨σ1,H2,I2,q2⟩
end
structure It where
 go:Nat->Hp->Prop
 yg:Nat->Hp->V->Hp->Prop
 stop:Nat->Hp->Prop
def Fw(X:Cx)(zd:AE)(H:Hp)(b:Addr):Prop:=
 H b=none/\b≠X.env.locals/\b∉X.fs/\(b∈X.ex\/X.s₀.heap.objs.size<=b)/\(∀x c,X.env.cells.lookup x=some c->c≠b)/\∀p∈X.pn ++ zd,p.1≠b
def Inv.eO{X:Cx}{zd:AE}{σ:St}{H H':Hp}{s:Shared}{b:Addr}(I:Inv X zd σ H s)(hb:s.heap.objs.size<=b)(hn:H' b=none):Fw X zd H' b:=by
 refine⟨hn,Y0 (C1 I.lt hb),I.qq hb,.inr (D4 I.sz hb),λx c e z=> ?_,λp hp z=> ?_⟩
 ·obtain⟨v,q⟩:=I.cell x c e;exact absurd (C1 q.lt (by rw[z];exact hb)) (F1 _)
 ·exact absurd (C1 (A8 (I.pin p hp).1) (by rw[z];exact hb)) (F1 _)
structure Turn(P:Program)(w:World)(K:Frag)(tg:Expr)(J:It)(fp:List Addr)(it:Addr)(tn:Nat->Heap->Prop):Prop where
 mem:it∈fp
 obj:∀i h,tn i h->∀b∈fp,∃o,h.get? b=some o/\∀v,o.data≠ .cell v
 keep:∀i h h',tn i h->(∀b∈fp,∀o,h.get? b=some o->h'.get? b=some o)->tn i h'
 item:∀(X:Cx),X.prog=P->X.w=w->X.K=K->X.calm=true->∀(i:Nat) (zd:AE) (s:Shared) (σ:St) (H:Hp) (E:AA),Inv X zd σ H s->(∀b∈fp,Fw X zd H b)->tn i s.heap->J.go i H->
  wpAny (model P w) X.A (pyNext (.ref it)) (λr s1=>∃u,r=some u/\
   wpAny (model P w) X.A (letOwnedTupleGo tg (.ref it) u) (λ_ s2=>∃x H',Inv X zd σ H' s2/\RelV x u/\J.yg i H x H'/\tn (i + 1) s2.heap/\∀b∈fp,H' b=none) E s1) E s
 done:∀(X:Cx),X.prog=P->X.w=w->X.K=K->X.calm=true->∀(i:Nat) (zd:AE) (s:Shared) (σ:St) (H:Hp) (E:AA),Inv X zd σ H s->(∀b∈fp,Fw X zd H b)->tn i s.heap->J.stop i H->
  wpAny (model P w) X.A (pyNext (.ref it)) (λr s1=>r=none/\Inv X zd σ H s1) E s
 self:∀(A:Around) (i:Nat) (s:Shared) (Q:AA) (E:AA),tn i s.heap->Q (.ref it) s->wpAny (model P w) A (pyIter (.ref it)) Q E s
abbrev TI:=St->Hp->(It->Hp->Prop)->Prop
def QB(X:Cx)(zd:AE)(σ:St)(tg:Expr)(R:It->Hp->Prop)(iX:Value)(s2:Shared):Prop:=
 ∃(it:Addr) (fp:List Addr) (tn:Nat->Heap->Prop) (J:It) (H':Hp),iX=.ref it/\Inv X zd σ H' s2/\Turn X.prog X.w X.K tg J fp it tn/\tn 0 s2.heap/\(∀b∈fp,Fw X zd H' b)/\R J H'
def PI(X:Cx)(tg iter:Expr)(wi:TI):Prop:=
 ∀(zd:AE) (s:Shared) (σ:St) (H:Hp) (R:It->Hp->Prop),Inv X zd σ H s->wi σ H R->
  wpAny (model X.prog X.w) X.A (eval iter X.env) (λv s1=>wpAny (model X.prog X.w) X.A (pyIter v) (QB X zd σ tg R) X.xe s1) X.xe s
def nq{M:Model}{A:Around}{E:AA}{s:Shared}{tg:Expr}{it:Addr}{u:Value}{o:Obj}{n:String}{vs:Array Value}{Q:Unit->Shared->Prop}(ho:s.heap.get? it=some o)(hc:o.cls=.type n)(hd:o.data=.fields vs)
  (hn: ["enumerate","zip","dict_itemiterator","dict_reverseitemiterator","odict_iterator","itertools.zip_longest","itertools.pairwise"].contains n=false) (hQ:Q .unit s):wpAny M A (letOwnedTupleGo tg (.ref it) u) Q E s:=by
 unfold letOwnedTupleGo;cases tg <;> first
  |exact D0 hQ
  | (cases u <;> first
    |exact D0 hQ
    | (refine A4 (wpAny_load ho ?_)
       rw[hc,hd];show wpAny M A (if(["enumerate","zip","dict_itemiterator","dict_reverseitemiterator","odict_iterator","itertools.zip_longest","itertools.pairwise"].contains n && vs[0]? ==some (rawInt _))=true then _ else _) Q E s;rw[if_neg (by intro h;rw[hn,Bool.false_and]at h;cases h)];exact D0 hQ))
def QH(K:Frag)(a:Addr):It:=
 ⟨λi H=>∃xs x,bU K H a xs/\xs[i]? =some x,λi H x H'=>H'=H/\∀xs,bU K H a xs->xs[i]? =some x,λi H=>∃xs,bU K H a xs/\xs.length<=i⟩
def QG(K:Frag)(a:Addr):It:=
 ⟨λi H=>∃xs x,cU K H a xs/\xs[i]? =some x,λi H x H'=>H'=H/\∀xs,cU K H a xs->xs[i]? =some x,λi H=>∃xs,cU K H a xs/\xs.length<=i⟩
def Oc(lo:Int)(n:Nat):It:=⟨λi _=>i < n,λi H x H'=>H'=H/\x=.int (lo + i),λi _=>n<=i⟩
def Yz{P:Program}{w:World}{K:Frag}{tg:Expr}(a it:Addr):Turn P w K tg (QH K a) [it] it (λi h=>h.IsListIter it a i) where
 mem:=by simp
 obj:=λi h st b hb=>by
  have e:b=it:=by simpa using hb
  subst e;obtain⟨o,e,c,d⟩:=st;exact⟨o,e,λv z=>by rw[d]at z;cases z⟩
 keep:=λi h h' st k=>st.at λo e=>k it (by simp) o e
 item:=by
  intro X hP hw hK hc i zd s σ H E I hf st hg;subst hP hw hK;obtain⟨xs,x,hq,hx⟩:=hg;obtain⟨its,rv,p,hz⟩:=I.list hq;obtain⟨u,hu,ru⟩:=rv.get hx;obtain⟨f0,f1,f2,f3,f4,f5⟩:=hf it (by simp);refine wpAny_pyNext_list_item st p.isList (x:=u) (by simpa using hu) λh' cX sb=> ?_;have I1:Inv X zd σ H {s with heap:=h'}:=I.turned (t':=s.toks) (λb o hb e=>(sb.2 b hb).trans e) f0 f1 f3 f4 f5;obtain⟨o,e,c,d⟩:=id cX;exact⟨u,rfl,nq (s:={s with heap:=h'}) e c d ⋯ ⟨x,H,I1,ru,⟨rfl,λys hy=>by rw[I.iC hy hq];exact hx⟩,cX,λb hb=>(hf b hb).1⟩⟩
 done:=by
  intro X hP hw hK hc i zd s σ H E I hf st hg;subst hP hw hK;obtain⟨xs,hq,hx⟩:=hg;obtain⟨its,rv,p,hz⟩:=I.list hq;obtain⟨f0,f1,f2,f3,f4,f5⟩:=hf it (by simp);have hl:=rv.length;exact wpAny_pyNext_list_end (I.ok.hd hc) st p.isList (by simp;lia) λh' eb=>⟨rfl,I.turned (t':=s.toks) (λb o hb e=>eb b o hb e) f0 f1 f3 f4 f5⟩
 self:=λ_ _ _ _ _ st h=>wpAny_pyIter_listiter st h
def Zr{P:Program}{w:World}{K:Frag}{tg:Expr}(a it:Addr):Turn P w K tg (QG K a) [it] it (λi h=>h.IsTupleIter it a i) where
 mem:=by simp
 obj:=λi h st b hb=>by
  have e:b=it:=by simpa using hb
  subst e;obtain⟨o,e,c,d⟩:=st;exact⟨o,e,λv z=>by rw[d]at z;cases z⟩
 keep:=λi h h' st k=>st.at λo e=>k it (by simp) o e
 item:=by
  intro X hP hw hK hc i zd s σ H E I hf st hg;subst hP hw hK;obtain⟨xs,x,hq,hx⟩:=hg;obtain⟨its,rv,p,hz⟩:=I.tuple hq;obtain⟨u,hu,ru⟩:=rv.get hx;obtain⟨f0,f1,f2,f3,f4,f5⟩:=hf it (by simp);refine wpAny_pyNext_tuple_item st (show s.heap.IsTuple a its.toArray from p) (x:=u) (by simpa using hu) λh' cX sb=> ?_;have I1:Inv X zd σ H {s with heap:=h'}:=I.turned (t':=s.toks) (λb o hb e=>(sb.2 b hb).trans e) f0 f1 f3 f4 f5;obtain⟨o,e,c,d⟩:=id cX;exact⟨u,rfl,nq (s:={s with heap:=h'}) e c d ⋯ ⟨x,H,I1,ru,⟨rfl,λys hy=>by rw[I.lN hy hq];exact hx⟩,cX,λb hb=>(hf b hb).1⟩⟩
 done:=by
  intro X hP hw hK hc i zd s σ H E I hf st hg;subst hP hw hK;obtain⟨xs,hq,hx⟩:=hg;obtain⟨its,rv,p,hz⟩:=I.tuple hq;obtain⟨f0,f1,f2,f3,f4,f5⟩:=hf it (by simp);have hl:=rv.length;exact wpAny_pyNext_tuple_end (I.ok.hd hc) st (show s.heap.IsTuple a its.toArray from p) (by simp;lia) λh' eb=>⟨rfl,I.turned (t':=s.toks) (λb o hb e=>eb b o hb e) f0 f1 f3 f4 f5⟩
 self:=λ_ _ _ _ _ st h=>wpAny_pyIter_tupleiter st h
def Zq{P:Program}{w:World}{K:Frag}{tg:Expr}(it:Addr)(lo:Int)(n:Nat):Turn P w K tg (Oc lo n) [it] it (λi h=>IsRangeIter h it (lo + (i:Nat) * 1) ((n:Int) - (i:Nat)) 1) where
 mem:=by simp
 obj:=λi h st b hb=>by
  have e:b=it:=by simpa using hb
  subst e;exact⟨_,st,λv z=>by
   have z':Data.fields _=Data.cell v:=z;cases z'⟩
 keep:=λi h h' st k=>k it (by simp) _ st
 item:=by
  intro X hP hw hK hc i zd s σ H E I hf st hg;subst hP hw hK;obtain⟨f0,f1,f2,f3,f4,f5⟩:=hf it (by simp);have W:=Walks.range (prog:=X.prog) (w:=X.w) (I.ok.hd hc) it lo 1 n;refine W.item i s _ _ hg st λv h' tk hv cX kk=> ?_;obtain⟨t,rfl⟩:=hv;have I1:Inv X zd σ H {s with heap:=h',toks:=tk}:=I.turned (λb o hb e=>kk b o (by simpa using hb) e) f0 f1 f3 f4 f5;refine⟨_,rfl,nq (s:={s with heap:=h',toks:=tk}) (n:= "range_iterator") cX rfl rfl ⋯ ⟨.int (lo + i),H,I1,⟨t, ?_⟩,⟨rfl,rfl⟩,cX,λb hb=>(hf b hb).1⟩⟩;rw[Int.mul_one]
 done:=by
  intro X hP hw hK hc i zd s σ H E I hf st hg;subst hP hw hK;obtain⟨f0,f1,f2,f3,f4,f5⟩:=hf it (by simp);exact ZA9 (I.ok.hd hc) st (by have:n<=i:=hg;lia) λh' eb=>⟨rfl,I.turned (t':=s.toks) (λb o hb e=>eb b o hb e) f0 f1 f3 f4 f5⟩
 self:=λ_ _ _ _ _ st h=>ZB0 st h
section
variable{X:Cx}{tg:Expr}
def Xi{zd:AE}{σ:St}{H:Hp}{s:Shared}{R:It->Hp->Prop}{E:AA}{lo hi:Int}{t u v:Tok}{tk:Nat}(I:Inv X zd σ H s)(h1: -(2 ^ 62)<=lo)(h2:lo < 2 ^ 62)(h3: -(2 ^ 62)<=hi)(h4:hi < 2 ^ 62)
  (q:R (Oc lo (hi - lo).toNat) H):wpAny (model X.prog X.w) X.A (pyIter (.ref s.heap.objs.size)) (QB X zd σ tg R) E {s with heap:=s.heap.push {cls:=.type "range",data:=.fields #[.int lo t,.int hi u,.int 1 v]},toks:=tk}:=by
 refine wpAny_pyIter_range (IsRange.new ..) (small_one h1 h2 h3 h4) ?_;have I1:Inv X zd σ H {s with heap:=s.heap.push {cls:=.type "range",data:=.fields #[.int lo t,.int hi u,.int 1 v]},toks:=tk}:=I.kept λb o e=>A5 _ e;refine⟨(s.heap.push {cls:=.type "range",data:=.fields #[.int lo t,.int hi u,.int 1 v]}).objs.size,[(s.heap.push {cls:=.type "range",data:=.fields #[.int lo t,.int hi u,.int 1 v]}).objs.size],_,_,H,rfl,
  I1.kept (t':=tk) λb o e=>A5 _ e,Zq _ lo (hi - lo).toNat, ?_,λb hb=> ?_,q⟩
 ·have e1:lo + ((0:Nat):Int) * 1=lo:=by simp
  have e2:(((hi - lo).toNat:Nat):Int) - ((0:Nat):Int)=Builtin.Range.rangeSize lo hi 1:=by rw[rangeSize_one];split <;> lia
  show IsRangeIter _ _ (lo + ((0:Nat):Int) * 1) ((((hi - lo).toNat:Nat):Int) - ((0:Nat):Int)) 1;rw[e1,e2];exact C5 _ rfl
 ·have e:b=(s.heap.push {cls:=.type "range",data:=.fields #[.int lo t,.int hi u,.int 1 v]}).objs.size:=by simpa using hb
  subst e;exact I1.eO (A9 _) (I1.aN.fresh (A9 _))
def RP(ta:TA):TI:=λ σ H R=>ta σ H λvs H1=>∃j:Int,vs= [.int j]/\ -(2 ^ 62)<=j/\j < 2 ^ 62/\R (Oc 0 j.toNat) H1
def Yy{a:Expr}{ta:TA}{p pos:Pos}(hg:Gl X "range")(hm:X.mg "range" =none)(ha:PA X [a] ta)(hs:starEach [a] X.env= [(false,eval a X.env)]:=by rfl):PI X tg (.Call (.Name "range" p) [a] [] pos) (RP ta):=by
 intro zd s σ H R I h;refine Call_ (lS I hg hm boot_range (K0 (Bg (ha pos zd s σ H _ I h) λus s1 ⟨vs,H1,I1,r1,q1⟩=> ?_) hs rfl));obtain⟨j,e,q1,q2,q⟩:=q1;subst e;cases r1 with
 |cons r rr=>
  cases rr;obtain⟨t,rfl⟩:=r;exact Ql (Xi I1 () () q1 q2 (by simpa using q))
def QP(wi:TI)(g:TG)(tb:TS):TS:=λD σ H=>wi σ H λJ H1=>∃W:Nat->Nat->St->Hp->Prop,(∃m,W 0 m σ H1)/\∀i m σ H,W i m σ H->
 (J.stop i H/\D.nx σ H)\/(J.go i H/\∃N:St->Hp->Prop,(∀σ' H',N σ' H'->∃m',m' < m/\W (i + 1) m' σ' H')/\∀x H',J.yg i H x H'->g x σ H' λ σ2 H2=>tb {D with nx:=N,ct:=N,bk:=D.nx} σ2 H2)
def lD(fp:List Addr)(h:Heap):AE:=fp.filterMap λb=>(h.get? b).map λo=>(b,o)
def ym{fp:List Addr}{h:Heap}{b:Addr}{o:Obj}(hb:b∈fp)(e:h.get? b=some o):(b,o)∈lD fp h:=List.mem_filterMap.mpr ⟨b,hb,by rw[e];rfl⟩
def Yx{fp:List Addr}{h:Heap}{p:Addr×Obj}(hp:p∈lD fp h):p.1∈fp/\h.get? p.1=some p.2:=by
 obtain⟨b,hb,e⟩:=List.mem_filterMap.mp hp;cases q:h.get? b with
 |none=>rw[q]at e;cases e
 |some o=>
  rw[q]at e;have e':(b,o)=p:=L6 e;subst e';exact⟨hb,q⟩
def Inv.pinned{zd:AE}{σ:St}{H:Hp}{s:Shared}{fp:List Addr}(I:Inv X zd σ H s)(hf:∀b∈fp,Fw X zd H b)(ho:∀b∈fp,∃o,s.heap.get? b=some o/\∀v,o.data≠ .cell v):Inv X (zd ++ lD fp s.heap) σ H s:=
 I.bX λp hp=>(F9.mp hp).elim (λz=>I.pin p (B2 _ z)) λz=>by
  obtain⟨hb,e⟩:=Yx z;obtain⟨f0,f1,f2,_⟩:=hf p.1 hb;obtain⟨o,e',d⟩:=ho p.1 hb;rw[e]at e';cases e';exact⟨e,f0,f1,f2,d⟩
def Inv.bS{zd pl:AE}{σ:St}{H:Hp}{s:Shared}(I:Inv X (zd ++ pl) σ H s):Inv X zd σ H s:=I.bX λp hp=>I.pin p (B2 _ (M9 _ hp))
def Tp{iter:Expr}{body:List Stmt}{wi:TI}{g:TG}{tb:TS}{pos:Pos}(hp:PassesOwn (model X.prog X.w) X.A X.env X.xe)(hc:X.calm=true)(hi:PI X tg iter wi)(hg:PG X tg g)(hb:fW X body tb)
  (hs:∀x,foldedSetIterable iter X.env x=pure x:=by intro _;rfl):PS X (.For tg iter body [] pos) (QP wi g tb):=by
 intro zd s σ H D I h;refine wpAny_For (Bg (hi zd s σ H _ I h) λv s1 h1=>Bg h1 λiX s2 h2=> ?_) hs;obtain⟨it,fp,tn,J,H2,e,I2,T,bC,f2,W,⟨m0,w0⟩,turn⟩:=h2;subst e
 
 have cz:∀{H':Hp},(∀b∈fp,H' b=none)->∀b∈fp,Fw X zd H' b:=λhn b hb=>⟨hn b hb,(f2 b hb).2⟩;refine codeAny_forLoop_any (λn s'=>∃i σ' H',Inv X zd σ' H' s'/\tn i s'.heap/\(∀b∈fp,H' b=none)/\W i n σ' H') ?_ m0 ⟨0,σ,H2,I2,bC,λb hb=>(f2 b hb).1,w0⟩
 rintro n s3 ⟨i,σ3,H3,I3,iO,fr3,w3⟩
 rcases turn i n σ3 H3 w3 with⟨stop,qn⟩|⟨go,N,hN,step⟩
 ·refine P7 hp (Bg (T.done X rfl rfl rfl hc i zd s3 σ3 H3 X.xe I3 (cz fr3) iO stop) λr s4 ⟨hr,I4⟩=> ?_);subst hr;exact T9 ⟨σ3,H3,I4,qn⟩
 ·refine P7 hp (Bg (T.item X rfl rfl rfl hc i zd s3 σ3 H3 X.xe I3 (cz fr3) iO go) λr s4 ⟨u,hr,h4⟩=> ?_);subst hr;refine P7 hp (Bg h4 λ_ s5 ⟨x,H5,I5,r5,y5,mr,BF⟩=> ?_);have CG:=I5.pinned (cz BF) (T.obj _ _ mr);refine P7 hp (Bg (hg _ s5 σ3 H5 x u _ CG r5 (step x H5 y5)) λ_ s6 ⟨σ6,H6,I6,q6⟩=> ?_);refine P7 hp (Bg (hb _ s6 σ6 H6 _ I6 q6) λf s7 q7=> ?_);have again:∀{σ7:St} {H7:Hp},Inv X (zd ++ lD fp s5.heap) σ7 H7 s7->N σ7 H7->∃m,m < n/\∃i σ' H',Inv X zd σ' H' s7/\tn i s7.heap/\(∀b∈fp,H' b=none)/\W i m σ' H':=λ{σ7 H7} I7 n7=>by
   obtain⟨m',hm,w7⟩:=hN σ7 H7 n7;refine⟨m',hm,i + 1,σ7,H7,I7.bS,T.keep _ _ _ mr λb hb o e=>(I7.pin (b,o) (B2 _ (B2 _ (ym hb e)))).1,λb hb=> ?_,w7⟩;obtain⟨o,e,d⟩:=T.obj _ _ mr b hb;exact(I7.pin (b,o) (B2 _ (B2 _ (ym hb e)))).2.1
  cases f with
  |next=>obtain⟨σ7,H7,I7,n7⟩:=q7;exact again I7 n7
  |cont=>obtain⟨σ7,H7,I7,n7⟩:=q7;exact again I7 n7
  |brk=>obtain⟨σ7,H7,I7,q7⟩:=q7;exact⟨σ7,H7,I7.bS,q7⟩
  |ret v=>obtain⟨x7,σ7,H7,I7,r7,q7⟩:=q7;exact⟨x7,σ7,H7,I7.bS,r7,q7⟩
end
abbrev R2:=V->V->Hp->VK->Prop
def cB(X:Cx)(f:Value->Value->Sem Value)(r:R2):Prop:=
 ∀(zd:AE) (s:Shared) (σ:St) (H:Hp) (x y:V) (v u:Value) (Q:VK),Inv X zd σ H s->RelV x v->RelV y u->r x y H Q->
  wpAny (model X.prog X.w) X.A (f v u) (EP X zd σ Q) X.xe s
def QA(X:Cx)(f:Value->Sem Value)(r:V->Hp->VK->Prop):Prop:=
 ∀(zd:AE) (s:Shared) (σ:St) (H:Hp) (x:V) (v:Value) (Q:VK),Inv X zd σ H s->RelV x v->r x H Q->
  wpAny (model X.prog X.w) X.A (f v) (EP X zd σ Q) X.xe s
def bN(X:Cx)(f:Value)(r:List V->Hp->VK->Prop):Prop:=
 ∀(zd:AE) (s:Shared) (σ:St) (H:Hp) (xs:List V) (us:List Value) (Q:VK),Inv X zd σ H s->Vals xs us->r xs H Q->
  wpAny (model X.prog X.w) X.A (call f us) (EP X zd σ Q) X.xe s
def abj(X:Cx)(r:V->Hp->(Bool->Hp->Prop)->Prop):Prop:=
 ∀(zd:AE) (s:Shared) (σ:St) (H:Hp) (x:V) (v:Value) (Q:Bool->Hp->Prop),Inv X zd σ H s->RelV x v->r x H Q->
  wpAny (model X.prog X.w) X.A (truthy v) (TP X zd σ Q) X.xe s
def yV(r:R2)(ta tb:TE):TE:=λ σ H Q=>ta σ H λx H1=>tb σ H1 λy H2=>r x y H2 Q
def tUn(r:V->Hp->VK->Prop)(ta:TE):TE:=λ σ H Q=>ta σ H λx H1=>r x H1 Q
def rI(C:Int->Int->Prop)(g:Int->Int->V):R2:=λx y H Q=>∃i j,x=.int i/\y=.int j/\C i j/\Q (g i j) H
def sj(g:Int->Int->V):R2:=λx y H Q=>∃i j,x=.int i/\y=.int j/\Q (g i j) H
def rU(g:Int->V):V->Hp->VK->Prop:=λx H Q=>∃i,x=.int i/\Q (g i) H
section
variable{X:Cx}{a b c:Expr}{ta tb tc:TE}{pos:Pos}
def wd(ha:PE X a ta)(hb:PE X b tb){zd:AE}{s:Shared}{σ:St}{H:Hp}{R:V->V->Hp->Prop}(I:Inv X zd σ H s)
  (h:ta σ H λx H1=>tb σ H1 λy H2=>R x y H2) {Q:AA} {f:Value->Value->Sem Value}
  (hf:∀v u s2 x y H2,Inv X zd σ H2 s2->RelV x v->RelV y u->R x y H2->wpAny (model X.prog X.w) X.A (f v u) Q X.xe s2):
  wpAny (model X.prog X.w) X.A (eval a X.env) (λv s₁=>wpAny (model X.prog X.w) X.A (eval b X.env) (λu s₂=>wpAny (model X.prog X.w) X.A (f v u) Q X.xe s₂) X.xe s₁) X.xe s:=by
 refine Bg (ha zd s σ H _ I h) λv s1 ⟨x,H1,I1,r1,q1⟩=> ?_;refine Bg (hb zd s1 σ H1 _ I1 q1) λu s2 ⟨y,H2,I2,r2,q2⟩=> ?_;exact hf v u s2 x y H2 I2 r1 r2 q2
def DO{op:Operator}{r:R2}(ho:cB X (binaryOp op) r)(ha:PE X a ta)(hb:PE X b tb):PE X (.BinOp a op b pos) (yV r ta tb):=by
 intro zd s σ H Q I h;exact wpAny_BinOp (wd ha hb I h λv u s2 x y H2 I2 rx ry q=>ho zd s2 σ H2 x y v u Q I2 rx ry q)
def RO{op:UnaryOp}{r:V->Hp->VK->Prop}(ho:QA X (unaryOp op) r)(ha:PE X a ta):PE X (.UnaryOp op a pos) (tUn r ta):=by
 intro zd s σ H Q I h;exact UnaryOp_ (Bg (ha zd s σ H _ I h) λv s1 ⟨x,H1,I1,r1,q1⟩=>ho zd s1 σ H1 x v Q I1 r1 q1)
def zy{f:Value->Value->Sem Value}{C:Int->Int->Prop}{g:Int->Int->Int}
  (rule:∀(i j:Int) (t u:Tok) (s:Shared) (Q:AA) (E:AA),C i j->Q (.int (g i j) s.toks) {s with toks:=s.toks + 1}->wpAny (model X.prog X.w) X.A (f (.int i t) (.int j u)) Q E s):
  cB X f (rI C λi j=> .int (g i j)):=by
 intro zd s σ H x y v u Q I rx ry h;obtain⟨i,j,rfl,rfl,hc,q⟩:=h;obtain⟨t,rfl⟩:=rx;obtain⟨t',rfl⟩:=ry;exact rule i j t t' s _ _ hc ⟨.int (g i j),H,I.tok _,⟨_,rfl⟩,q⟩
def QY{f:Value->Value->Sem Value}{g:Int->Int->Int}
  (rule:∀(i j:Int) (t u:Tok) (s:Shared) (Q:AA) (E:AA),Q (.int (g i j) s.toks) {s with toks:=s.toks + 1}->wpAny (model X.prog X.w) X.A (f (.int i t) (.int j u)) Q E s):
  cB X f (sj λi j=> .int (g i j)):=by
 intro zd s σ H x y v u Q I rx ry h;obtain⟨i,j,rfl,rfl,q⟩:=h;obtain⟨t,rfl⟩:=rx;obtain⟨t',rfl⟩:=ry;exact rule i j t t' s _ _ ⟨.int (g i j),H,I.tok _,⟨_,rfl⟩,q⟩
def qp{f:Value->Value->Sem Value}{g:Int->Int->Bool}
  (rule:∀(i j:Int) (t u:Tok) (s:Shared) (Q:AA) (E:AA),Q (.bool (g i j)) s->wpAny (model X.prog X.w) X.A (f (.int i t) (.int j u)) Q E s):
  cB X f (sj λi j=> .bl (g i j)):=by
 intro zd s σ H x y v u Q I rx ry h;obtain⟨i,j,rfl,rfl,q⟩:=h;obtain⟨t,rfl⟩:=rx;obtain⟨t',rfl⟩:=ry;exact rule i j t t' s _ _ ⟨.bl (g i j),H,I,rfl,q⟩
def Mv(i j:Int):Prop:=0<=j/\j<=1000000/\i.natAbs < 2 ^ 64
def xV(i j:Int):Prop:=(-(2 ^ 64) < i/\i < 2 ^ 64)\/(-(2 ^ 64) < j/\j < 2 ^ 64)
def xV.ok{i j:Int}(h:xV i j):IntMulOk i j:=by
 rcases h with⟨h1,h2⟩|⟨h1,h2⟩
 ·exact .of_left (intBits_le_64 h1 h2)
 ·exact .of_right (intBits_le_64 h1 h2)
def To:cB X (binaryOp .Add) (sj λi j=> .int (i + j)):=QY λ_ _ _ _ _ _ _ q=>add_int q
def Tj:cB X (binaryOp .Mult) (rI xV λi j=> .int (i * j)):=zy λ_ _ _ _ _ _ _ hc q=>mul_int q hc.ok
def Ti:cB X (binaryOp .Mod) (rI (λ_ j=>0 < j) λi j=> .int (i % j)):=zy λi j _ _ _ _ _ hc q=>by
 have h1:(0:Int) < j:=hc;exact mod_int' () (by rw[Int.fmod_eq_emod_of_nonneg i ()];exact q)
def Th:cB X (binaryOp .Pow) (rI Mv λi j=> .int (i ^ j.toNat)):=zy λ_ _ _ _ _ _ _ hc q=>pow_int_small hc.1 hc.2.1 hc.2.2 q
def unI{f:Value->Sem Value}{g:Int->Int}
  (rule:∀(i:Int) (t:Tok) (s:Shared) (Q:AA) (E:AA),Q (.int (g i) s.toks) {s with toks:=s.toks + 1}->wpAny (model X.prog X.w) X.A (f (.int i t)) Q E s):
  QA X f (rU λi=> .int (g i)):=by
 intro zd s σ H x v Q I rx h;obtain⟨i,rfl,q⟩:=h;obtain⟨t,rfl⟩:=rx;exact rule i t s _ _ ⟨.int (g i),H,I.tok _,⟨_,rfl⟩,q⟩
def Tg:QA X (unaryOp .USub) (rU λi=> .int (-i)):=unI λ_ _ _ _ _ q=>neg_int q
end
noncomputable def CM:V->V->Bool
 | .aJ,.aJ=>true| .aJ,.int _=>true| .int _,.aJ=>true| .aJ,.bl _=>true| .bl _,.aJ=>true| .aJ,.str _=>true| .str _,.aJ=>true
 | .int _,.int _=>true| .bl _,.bl _=>true| .str _,.str _=>true| .iM _,.iM _=>true
 | .int _,.str _=>true| .str _,.int _=>true| .bl _,.str _=>true| .str _,.bl _=>true
 |_,_=>false
def rEq:R2:=λx y H Q=>CM x y=true/\Q (.bl (decide (x=y))) H
def rNe:R2:=λx y H Q=>CM x y=true/\Q (.bl (!decide (x=y))) H
def HR{i j:Int}:decide (V.int i=V.int j)=(i ==j):=by
 rw[P8];simp
def EV{i j:Bool}:decide (V.bl i=V.bl j)=(i ==j):=by
 rw[P8];simp
def HQ{i j:Str}:decide (V.str i=V.str j)=(i ==j):=by
 rw[P8];simp
def HP{i j:Array UInt8}:decide (V.iM i=V.iM j)=(i.toList ==j.toList):=by
 rw[P8];cases i;cases j;simp
section
variable{X:Cx}{a b c:Expr}{ta tb tc:TE}{pos:Pos}
def Dt{zd:AE}{σ:St}{H:Hp}{s:Shared}{Q:VK}{k k':Bool}(I:Inv X zd σ H s)(q:Q (.bl k) H)(e:k=k'):EP X zd σ Q (.bool k') s:=by
 subst e;exact⟨.bl k,H,I,rfl,q⟩
def RN:cB X (compareOp .Eq) rEq:=by
 intro zd s σ H x y v u Q I rx ry h;obtain⟨hs,q⟩:=h;cases x with
 |aJ=>
  cases rx;cases y with
  |aJ=>cases ry;exact PySem.EqNone.eq_none_none (Dt I q (by simp))
  |bl j=>cases ry;exact PySem.EqNone.eq_none_bool (Dt I q (by simp))
  |int j=>obtain⟨t',rfl⟩:=ry;exact PySem.EqNone.eq_none_int (Dt I q (by simp))
  |str j=>obtain⟨t',rfl⟩:=ry;exact PySem.EqNone.eq_none_str (Dt I q (by simp))
  |_=>exact absurd (show false=true from hs) A6
 |bl i=>
  cases rx;cases y with
  |aJ=>cases ry;exact PySem.EqNone.eq_bool_none (Dt I q (by simp))
  |bl j=>cases ry;exact eq_bool (Dt I q EV)
  |str j=>obtain⟨t',rfl⟩:=ry;exact PySem.EqMixed.eq_bool_str (Dt I q (by simp))
  |_=>exact absurd (show false=true from hs) A6
 |int i=>
  obtain⟨t,rfl⟩:=rx;cases y with
  |aJ=>cases ry;exact PySem.EqNone.eq_int_none (Dt I q (by simp))
  |int j=>obtain⟨t',rfl⟩:=ry;exact eq_int (Dt I q HR)
  |str j=>obtain⟨t',rfl⟩:=ry;exact PySem.EqMixed.eq_int_str (Dt I q (by simp))
  |_=>exact absurd (show false=true from hs) A6
 |str i=>
  obtain⟨t,rfl⟩:=rx;cases y with
  |aJ=>cases ry;exact PySem.EqNone.eq_str_none (Dt I q (by simp))
  |bl j=>cases ry;exact PySem.EqMixed.eq_str_bool (Dt I q (by simp))
  |int j=>obtain⟨t',rfl⟩:=ry;exact PySem.EqMixed.eq_str_int (Dt I q (by simp))
  |str j=>obtain⟨t',rfl⟩:=ry;exact eq_str (Dt I q HQ)
  |_=>exact absurd (show false=true from hs) A6
 |iM i=>
  obtain⟨t,rfl⟩:=rx;cases y with
  |iM j=>obtain⟨t',rfl⟩:=ry;exact eq_bytes (Dt I q HP)
  |_=>exact absurd (show false=true from hs) A6
 |_=>cases y <;> exact absurd (show false=true from hs) A6
def RM:cB X (compareOp .NotEq) rNe:=by
 intro zd s σ H x y v u Q I rx ry h;obtain⟨hs,q⟩:=h;cases x with
 |aJ=>
  cases rx;cases y with
  |aJ=>cases ry;exact PySem.EqNone.ne_none_none (Dt I q (by simp))
  |bl j=>cases ry;exact PySem.EqNone.ne_none_bool (Dt I q (by simp))
  |int j=>obtain⟨t',rfl⟩:=ry;exact PySem.EqNone.ne_none_int (Dt I q (by simp))
  |str j=>obtain⟨t',rfl⟩:=ry;exact PySem.EqNone.ne_none_str (Dt I q (by simp))
  |_=>exact absurd (show false=true from hs) A6
 |bl i=>
  cases rx;cases y with
  |aJ=>cases ry;exact PySem.EqNone.ne_bool_none (Dt I q (by simp))
  |bl j=>cases ry;exact ne_bool (Dt I q (L8 not EV))
  |str j=>obtain⟨t',rfl⟩:=ry;exact PySem.EqMixed.ne_bool_str (Dt I q (by simp))
  |_=>exact absurd (show false=true from hs) A6
 |int i=>
  obtain⟨t,rfl⟩:=rx;cases y with
  |aJ=>cases ry;exact PySem.EqNone.ne_int_none (Dt I q (by simp))
  |int j=>obtain⟨t',rfl⟩:=ry;exact ne_int (Dt I q (L8 not HR))
  |str j=>obtain⟨t',rfl⟩:=ry;exact PySem.EqMixed.ne_int_str (Dt I q (by simp))
  |_=>exact absurd (show false=true from hs) A6
 |str i=>
  obtain⟨t,rfl⟩:=rx;cases y with
  |aJ=>cases ry;exact PySem.EqNone.ne_str_none (Dt I q (by simp))
  |bl j=>cases ry;exact PySem.EqMixed.ne_str_bool (Dt I q (by simp))
  |int j=>obtain⟨t',rfl⟩:=ry;exact PySem.EqMixed.ne_str_int (Dt I q (by simp))
  |str j=>obtain⟨t',rfl⟩:=ry;exact ne_str (Dt I q (L8 not HQ))
  |_=>exact absurd (show false=true from hs) A6
 |iM i=>
  obtain⟨t,rfl⟩:=rx;cases y with
  |iM j=>obtain⟨t',rfl⟩:=ry;exact ne_bytes (Dt I q (L8 not HP))
  |_=>exact absurd (show false=true from hs) A6
 |_=>cases y <;> exact absurd (show false=true from hs) A6
def RL:cB X (compareOp .Lt) (sj λi j=> .bl (decide (i < j))):=qp λ_ _ _ _ _ _ _ q=>lt_int q
def RK:cB X (compareOp .LtE) (sj λi j=> .bl (decide (i<=j))):=qp λ_ _ _ _ _ _ _ q=>le_int q
def RJ:cB X (compareOp .Gt) (sj λi j=> .bl (decide (j < i))):=qp λ_ _ _ _ _ _ _ q=>gt_int q
def RI:cB X (compareOp .GtE) (sj λi j=> .bl (decide (j<=i))):=qp λ_ _ _ _ _ _ _ q=>ge_int q
def Yw:cB X (compareOp .In) (λx y H Q=>∃i j,x=.str i/\y=.str j/\Q (.bl (!(Builtin.Str.occurrences j i 0 j.length 1).isEmpty)) H):=by
 intro zd s σ H x y v u Q I rx ry h;obtain⟨i,j,rfl,rfl,q⟩:=h;obtain⟨t,rfl⟩:=rx;obtain⟨t',rfl⟩:=ry;exact in_str (Dt I q rfl)
def Tf:cB X (compareOp .Is) (λx y H Q=>y=.aJ/\Q (.bl (decide (x=.aJ))) H):=by
 intro zd s σ H x y v u Q I rx ry h;obtain⟨rfl,q⟩:=h;cases ry;refine is_none_gen (Dt I q ?_);cases x <;> first
  |(cases rx;rfl)
  |(obtain⟨t,rfl⟩:=rx;rfl)
def Vq:cB X (compareOp .IsNot) (λx y H Q=>y=.aJ/\Q (.bl (!decide (x=.aJ))) H):=by
 intro zd s σ H x y v u Q I rx ry h;obtain⟨rfl,q⟩:=h;cases ry;refine isnot_none_gen (Dt I q ?_);cases x <;> first
  |(cases rx;rfl)
  |(obtain⟨t,rfl⟩:=rx;rfl)
def cB.or{f:Value->Value->Sem Value}{r r':R2}(h:cB X f r)(h':cB X f r'):cB X f (λx y H Q=>r x y H Q\/r' x y H Q):=by
 intro zd s σ H x y v u Q I rx ry q;rcases q with q|q
 ·exact h zd s σ H x y v u Q I rx ry q
 ·exact h' zd s σ H x y v u Q I rx ry q
def Ch(b:Expr){op:CmpOp}(h:op≠ .In:=by decide)(h2:op≠ .NotIn:=by decide):behindInMarks op b=false:=by
 have e1:(op ==CmpOp.In)=false:=by cases op <;> first|rfl|exact absurd rfl h
 have e2:(op ==CmpOp.NotIn)=false:=by cases op <;> first|rfl|exact absurd rfl h2
 cases b <;> simp[behindInMarks,e1,e2]
def Vp{op:CmpOp}{r:R2}(ho:cB X (compareOp op) r)(ha:PE X a ta)(hb:PE X b tb)(hm:behindInMarks op b=false):PE X (.Compare a [op] [b] pos) (yV r ta tb):=by
 intro zd s σ H Q I h;exact wpAny_Compare1 (wd ha hb I h λv u s2 x y H2 I2 rx ry q=>ho zd s2 σ H2 x y v u Q I2 rx ry q) hm
def DN(t:TE):TT:=λ σ H Q=>t σ H λx H'=>∃k,x=.bl k/\Q k H'
def Vo{op:CmpOp}{r:R2}(ho:cB X (compareOp op) r)(ha:PE X a ta)(hb:PE X b tb)(hm:behindInMarks op b=false):PT X (.Compare a [op] [b] pos) (DN (yV r ta tb)):=by
 intro zd s σ H Q I h;refine wpAny_isTrue_Compare1 (Bg (ha zd s σ H _ I h) λv s1 ⟨x,H1,I1,r1,q1⟩=>Bg (hb zd s1 σ H1 _ I1 q1) λu s2 ⟨y,H2,I2,r2,q2⟩=>
  Bg (ho zd s2 σ H2 x y v u _ I2 r1 r2 q2) λc s3 ⟨z,H3,I3,r3,k,e,q3⟩=> ?_) hm
 subst e;cases r3;exact O4 ⟨H3,I3,q3⟩
def vC(r r':R2)(ta tb tc:TE):TE:=λ σ H Q=>ta σ H λx H1=>tb σ H1 λy H2=>r x y H2 λz H3=>∃k,z=.bl k/\
 (if k=true then tc σ H3 λw' H4=>r' y w' H4 Q else Q (.bl false) H3)
def Xh{op iS:CmpOp}{r r':R2}(ho:cB X (compareOp op) r)(dP:cB X (compareOp iS) r')(ha:PE X a ta)(hb:PE X b tb)(hc:PE X c tc)
  (hm:lastMarks [op,iS] [b,c]=false:=by with_unfolding_all rfl):PE X (.Compare a [op,iS] [b,c] pos) (vC r r' ta tb tc):=by
 intro zd s σ H Q I h;refine Compare_chain (Bg (ha zd s σ H _ I h) λv s1 ⟨x,H1,I1,r1,q1⟩=>chain_link (Bg (hb zd s1 σ H1 _ I1 q1) λu s2 ⟨y,H2,I2,r2,q2⟩=>
  Bg (ho zd s2 σ H2 x y v u _ I2 r1 r2 q2) λd s3 ⟨z,H3,I3,r3,k,e,q3⟩=> ?_)) hm
 subst e;cases r3;refine O4 ?_;cases k with
 |false=>exact ite_ff ⟨.bl false,H3,I3,rfl,q3⟩
 |true=>exact ite_tt (chain_last (Bg (hc zd s3 σ H3 _ I3 q3) λw' s4 ⟨z',H4,I4,r4,q4⟩=>dP zd s4 σ H4 y z' u w' Q I4 r2 r4 q4))
def Xg{op iS:CmpOp}{r r':R2}(ho:cB X (compareOp op) r)(dP:cB X (compareOp iS) r')(ha:PE X a ta)(hb:PE X b tb)(hc:PE X c tc)
  (hm:lastMarks [op,iS] [b,c]=false:=by with_unfolding_all rfl):PT X (.Compare a [op,iS] [b,c] pos) (DN (vC r r' ta tb tc)):=by
 intro zd s σ H Q I h;refine isTrue_chain (Bg (ha zd s σ H _ I h) λv s1 ⟨x,H1,I1,r1,q1⟩=>test_link (Bg (hb zd s1 σ H1 _ I1 q1) λu s2 ⟨y,H2,I2,r2,q2⟩=>
  Bg (ho zd s2 σ H2 x y v u _ I2 r1 r2 q2) λd s3 ⟨z,H3,I3,r3,k,e,q3⟩=> ?_)) hm
 subst e;cases r3;refine O4 ?_;cases k with
 |false=>
  obtain⟨k',e',q'⟩:=q3;cases e';exact ite_ff ⟨H3,I3,q'⟩
 |true=>
  refine ite_tt (test_last (Bg (hc zd s3 σ H3 _ I3 q3) λw' s4 ⟨z',H4,I4,r4,q4⟩=>Bg (dP zd s4 σ H4 y z' u w' _ I4 r2 r4 q4) λd' s5 ⟨z2,H5,I5,r5,k2,e2,q5⟩=> ?_));subst e2;cases r5;exact O4 ⟨H5,I5,q5⟩
def xR(K:Frag)(x:V)(H:Hp)(k:Bool):Prop:=
 match x with
 | .aJ=>k=false
 | .bl b=>k=b
 | .int i=>k=(i != 0)
 | .str y=>y.length<=sizeLine/\k=((y.length:Int) != 0)
 | .iM y=>y.size<=sizeLine/\k=((y.size:Int) != 0)
 | .ref p=>(∃xs,bU K H p xs/\k= !xs.isEmpty)\/(∃xs,cU K H p xs/\k= !xs.isEmpty)\/∃kvs,H p=some (.dK kvs)/\k= !kvs.isEmpty
 |_=>False
def Zp{κ:Type}{kvs:List (κ×V)}{vs:List (κ×Value)}(r:KV kvs vs):(!vs.isEmpty)= !kvs.isEmpty:=by
 cases r <;> rfl
def Kq{xs:List V}{its:List Value}(r:Vals xs its):(!its.toArray.isEmpty)= !xs.isEmpty:=by
 cases r <;> simp
def jz:(sizeLine:Nat) < 2 ^ 63:=by rw[F0];decide
def Te:abj X (λx H Q=>∃k,xR X.K x H k/\Q k H):=by
 intro zd s σ H x v Q I rx h;obtain⟨k,e,q⟩:=h;have hl:=jz;have hs:sizeLine=16777216:=F0;cases x with
 |aJ=>
  cases rx;have e':k=false:=e;subst e';exact truthy_none ⟨H,I,q⟩
 |bl b=>
  cases rx;have e':k=b:=e;subst e';exact O4 ⟨H,I,q⟩
 |int i=>
  obtain⟨t,rfl⟩:=rx;have e':k=(i != 0):=e;subst e';exact PySem.P.truthy_int ⟨H,I,q⟩
 |str y=>
  obtain⟨t,rfl⟩:=rx;obtain⟨hy,e'⟩:y.length<=sizeLine/\k=((y.length:Int) != 0):=e;subst e';exact PySem.P.truthy_str () ⟨H,I.tok _,q⟩
 |iM y=>
  obtain⟨t,rfl⟩:=rx;obtain⟨hy,e'⟩:y.size<=sizeLine/\k=((y.size:Int) != 0):=e;subst e';exact truthy_bytes () ⟨H,I.tok _,q⟩
 |ref p=>
  cases rx;have e':(∃xs,bU X.K H p xs/\k= !xs.isEmpty)\/(∃xs,cU X.K H p xs/\k= !xs.isEmpty)\/∃kvs,H p=some (.dK kvs)/\k= !kvs.isEmpty:=e;rcases e' with⟨xs,hx,e'⟩|⟨xs,hx,e'⟩|⟨kvs,hx,e'⟩
  ·subst e';obtain⟨its,r,pl,hz⟩:=I.list hx;have zk:=r.length;exact wpAny_truthy_list pl.isList (by simp only[C7];lia) ⟨H,I.tok _,by rw[Kq r];exact q⟩
  ·subst e';obtain⟨its,r,pl,hz⟩:=I.tuple hx;have zk:=r.length;exact truthy_tuple pl (by simp only[C7];lia) ⟨H,I.tok _,by rw[Kq r];exact q⟩
  ·subst e';obtain⟨hz,hS,vs,r,m⟩:kvs.length<=sizeLine/\(p ==sysModules)=false/\∃vs,KV kvs vs/\s.heap.DictOf (eG X.prog X.w) p vs:=I.aN p _ hx;have zk:kvs.length=vs.length:=S4 r;exact wpAny_truthy_dict hS m () ⟨H,I.tok _,by rw[Zp r];exact q⟩
 |_=>exact(show False from e).elim
def Xf(ha:PE X a ta)(he:∀whole,isTrue a X.env whole=(do let v<-whole;standAt a.pos;holding [v] (truthy v))):
  PT X a (λ σ H Q=>ta σ H λx H'=>∃k,xR X.K x H' k/\Q k H'):=by
 intro zd s σ H Q I h;exact isTrue_plain (Bg (ha zd s σ H _ I h) λv s1 ⟨x,H1,I1,r1,q1⟩=>Te zd s1 σ H1 x v Q I1 r1 q1) (he _)
def Zo:cB X (binaryOp .Add) (λx y H Q=>∃i j,x=.str i/\y=.str j/\i.length + j.length<=sizeLine/\Q (.str (i ++ j)) H):=by
 intro zd s σ H x y v u Q I rx ry h;obtain⟨i,j,rfl,rfl,hz,q⟩:=h;obtain⟨t,rfl⟩:=rx;obtain⟨t',rfl⟩:=ry;exact add_str (λt' tk=>⟨.str (i ++ j),H,I.tok _,⟨_,rfl⟩,q⟩) hz
def nj{x:V}{us:List Value}(r:Vals [x] us):∃u,us= [u]/\RelV x u:=by
 cases r with
 |cons r1 r2=>cases r2;exact⟨_,rfl,r1⟩
def DM{x y:V}{us:List Value}(r:Vals [x,y] us):∃u w',us= [u,w']/\RelV x u/\RelV y w':=by
 cases r with
 |cons r1 r2=>
  cases r2 with
  |cons r3 r4=>cases r4;exact⟨_,_,rfl,r1,r3⟩
def Yv(hc:X.calm=true):bN X (.builtin "max") (λxs H Q=>∃i j,xs= [.int i,.int j]/\Q (.int (if j > i then j else i)) H):=by
 intro zd s σ H xs us Q I r h;obtain⟨i,j,rfl,q⟩:=h;obtain⟨u,w',rfl,⟨t,rfl⟩,⟨t',rfl⟩⟩:=DM r;refine max_two_ints (I.ok.hd hc) λh' tk k=>⟨_,H,I.kept k, ?_,q⟩
 by_cases hj:j > i
 ·rw[if_pos hj,if_pos hj];exact⟨_,rfl⟩
 ·rw[if_neg hj,if_neg hj];exact⟨_,rfl⟩
def Yu(hc:X.calm=true):bN X (.builtin "min") (λxs H Q=>∃i j,xs= [.int i,.int j]/\Q (.int (if j < i then j else i)) H):=by
 intro zd s σ H xs us Q I r h;obtain⟨i,j,rfl,q⟩:=h;obtain⟨u,w',rfl,⟨t,rfl⟩,⟨t',rfl⟩⟩:=DM r;refine min_two_ints (I.ok.hd hc) λh' tk k=>⟨_,H,I.kept k, ?_,q⟩
 by_cases hj:j < i
 ·rw[if_pos hj,if_pos hj];exact⟨_,rfl⟩
 ·rw[if_neg hj,if_neg hj];exact⟨_,rfl⟩
def JW:bN X (.type "int") (λxs H Q=>(∃i,xs= [.int i]/\Q (.int i) H)\/∃k,xs= [.bl k]/\Q (.int (if k then 1 else 0)) H):=by
 intro zd s σ H xs us Q I r h;rcases h with⟨i,rfl,q⟩|⟨k,rfl,q⟩
 ·obtain⟨u,rfl,t,rfl⟩:=nj r;exact call_int_int ⟨.int i,H,I,⟨_,rfl⟩,q⟩
 ·obtain⟨u,rfl,r1⟩:=nj r;cases r1;exact call_int_bool ⟨.int (if k then 1 else 0),H,I.tok _,⟨_,rfl⟩,q⟩
end
structure jE(h:Heap)(x dx C:Addr)(mA:AB):Prop where
 obj:h.get? x=some (instObj C dx)
 ns:h.Ns1 dx mA
 ne:dx≠x
def JV{h:Heap}{dx:Addr}{mA:AB}(n:h.Ns1 dx mA):∃od,h.get? dx=some od/\∀name,lookIn name od=some (mA name):=by
 obtain⟨o,es,ep,ho,hd,hk,_,hm⟩:=n;refine⟨o,ho,λname=> ?_⟩;have e:=hm name;unfold nsFind findBy at e;rw[<-Array.find?_toList]at e;unfold lookIn;rw[hd];dsimp only
 split
 ·rename_i y q;rw[q]at e;exact L8 some e
 ·rename_i q;rw[q]at e;have a:es.toList.any (·.refKey)=false:=by
   rw[List.any_eq_false];intro y hy;obtain⟨z,t,ig⟩:=hk y (Array.mem_toList_iff.mp hy);simp[DictEntry.refKey,ig]
  have a':¬es.toList.any (·.refKey)=true:=by rw[a];exact A6
  rw[if_neg a'];exact L8 some e
def jE.look{h:Heap}{x dx C:Addr}{mA:AB}(I:jE h x dx C mA):∃od,InstAt h x (instObj C dx) C (some od)/\∀name,lookIn name od=some (mA name):=
 let⟨od,ho,hl⟩:=JV I.ns
 ⟨od,⟨I.obj,rfl,rfl,ho⟩,hl⟩
section
variable{prog:Program}{w:World}{A:Around}{E:AA}{s:Shared}{K:Frag}{x dx C f:Addr}{mA:AB}{name:Str}{v:Value}
def Vn{expr:Bool}{Q:AA}(X:K.In s.heap)(I:jE s.heap x dx C mA)(hg:plainGet K C name=true)(hh:hasDictIn K C=true)
  (ha:findIn K (.ref C) name=some none) (hv:mA name=some v) (OU:handedIn v=true) (h:Q v {s with toks:=s.toks + 1}):
  wpAny (model prog w) A (getAttr (.ref x) name expr) Q E s:=by
 obtain⟨od,J,hl⟩:=I.look;exact get_value X J (Qn hg).1 (findObj_own hh ha rfl (by rw[hl,hv])) OU h
def Xe{pl:Sem Bool}{Q:Value×List Value->Shared->Prop}(X:K.In s.heap)(I:jE s.heap x dx C mA)(hg:plainGet K C name=true)
  (hf:findIn K (.ref C) name=some (some (.ref f))) (ht:isFn K (.ref f)=true) (hv:mA name=none) (h:Q (.ref f,[.ref x]) s):
  wpAny (model prog w) A (getMethod (.ref x) name pl) Q E s:=by
 obtain⟨od,J,hl⟩:=I.look;exact method_fn X J (Qn hg).1 (Qn hg).2 hf (M5.mp ht) (by show(lookIn name od).map (·.isSome)=some false;rw[hl,hv];rfl) h
def Vm{ns:List Str}{Q:Unit->Shared->Prop}(X:K.In s.heap)(I:jE s.heap x dx C mA)
  (hs:findIn K (.ref C) "__setattr__" =some (some (.builtin "object.__setattr__"))) (hp:plainOver K C=true) (ht:takerIn K C name=some none) (hh:hasDictIn K C=true)
  (hw:PySem.Within mA ns) (hsz:ns.length<=sizeLine)
  (h:∀h',jE h' x dx C (λy=>if y=name then some v else mA y)->Heap.SameBut dx s.heap h'->Q .unit {s with heap:=h',toks:=s.toks + 2}):
  wpAny (model prog w) A (setAttr (.ref x) name v) Q E s:=by
 obtain⟨od,J,hl⟩:=I.look;refine set_plain X J hs (osa_open (s:={s with toks:=s.toks + 1}) (r:=none) X J hp ht λb=> ?_);obtain⟨cd,hc,yC⟩:=any_some hh;have hx:s.heap.get? x=some ⟨.ref C,some dx,.plain, #[]⟩:=I.obj;refine A4 (D0 (A4 (A4 (wpAny_loadPart hx (A4 (NR (s:={s with toks:=s.toks + 1}) (Qo X hc) ?_))))));rw[yC];refine D0 (a:=some dx) (A4 (D0 (A4 ?_)));refine wpAny_nsSet1 (s:={s with toks:=s.toks + 1}) I.ns λh' Np dZ=> ?_;obtain⟨oD,esD,epD,hoD,hdD,hcD⟩:=Np.count (PySem.Within.cons name v hw);refine A4 (wpAny_lookBehind hoD (by rw[hdD];exact pastItsLine_dict (D4 hcD (by rw[B5];lia))) ?_);exact D0 (h _ ⟨(dZ.2 _ (Ne.symm I.ne)).trans I.obj,Np,I.ne⟩ dZ)
def Xd{R:Result->Shared->Prop}{vs:List Value}{kw:List (Str×Value)}(X:K.In s.heap)(hm:makesIn K C=true)
  (hi:findIn K (.ref C) "__init__" =some (some (.ref f))) (hf:typeIn K (.ref f)=some (.type "function"))
  (h:codeAny (model prog w) (A.under (.builtin "type.__call__" ⟨.ref C::vs,kw⟩)) (.call (.ref f) ⟨.ref (s.heap.objs.size + 1)::vs,kw⟩) (InitBack (s.heap.objs.size + 1) R)
   {s with heap:=(s.heap.push emptyDict).push (instObj C s.heap.objs.size)}):
  codeAny (model prog w) A (.call (.ref C) ⟨vs,kw⟩) R s:=by
 obtain⟨hh,g,d,t,os⟩:=s;exact make_core (makes_of X hm) (X9 X hi) (λself=>bind_fn X self hf) (.inl rfl) h
end
noncomputable def Db(f:Str)(v:V):List (Str×V)->List (Str×V)
 | []=> [(f,v)]
 |(g,x)::r=>if g=f then(g,v)::r else(g,x)::Db f v r
theorem KZ(f g:Str)(v:V):∀fs:List (Str×V),(Db f v fs).lookup g=if g=f then some v else fs.lookup g
 | []=>by
  show List.lookup g [(f,v)]=_
  by_cases h:g=f
  ·have hb:(g ==f)=true:=M5.mpr h;simp only[List.lookup,hb,if_pos h]
  ·have hb:(g ==f)=false:=N4.mpr h;simp only[List.lookup,hb,if_neg h]
 |(k,x)::r=>by
  have ih:=KZ f g v r;rw[show Db f v ((k,x)::r)=(if k=f then(k,v)::r else(k,x)::Db f v r) from rfl]
  by_cases hk:k=f
  ·rw[if_pos hk]
   by_cases h:g=k
   ·have hb:(g ==k)=true:=M5.mpr h;simp only[List.lookup,hb,if_pos (h.trans hk)]
   ·have hb:(g ==k)=false:=N4.mpr h;simp only[List.lookup,hb,if_neg (λe:g=f=>h (e.trans hk.symm))]
  ·rw[if_neg hk]
   by_cases h:g=k
   ·have hb:(g ==k)=true:=M5.mpr h;simp only[List.lookup,hb,if_neg (λe:g=f=>hk (h.symm.trans e))]
   ·have hb:(g ==k)=false:=N4.mpr h;simp only[List.lookup,hb];exact ih
theorem xb(f:Str)(v:V):∀fs:List (Str×V),f∈(Db f v fs).map (·.1)/\∀g,g∈fs.map (·.1)->g∈(Db f v fs).map (·.1)
 | []=>⟨by simp[Db],λg h=>by simp at h⟩
 |(k,x)::r=>by
  obtain⟨i1,i2⟩:=xb f v r;rw[show Db f v ((k,x)::r)=(if k=f then(k,v)::r else(k,x)::Db f v r) from rfl]
  by_cases hk:k=f
  ·rw[if_pos hk];subst hk;exact⟨by simp,λg h=>by simpa using h⟩
  ·rw[if_neg hk];refine⟨?_,λg h=> ?_⟩
   ·rw[B1];exact D5 _ i1
   ·rw[B1]at h⊢;rcases B8.mp h with e|e
    ·exact B8.mpr (.inl e)
    ·exact D5 _ (i2 g e)
theorem KY(f:Str)(v:V):∀fs:List (Str×V),(Db f v fs).length<=fs.length + 1
 | []=>by simp[Db]
 |(k,x)::r=>by
  have ih:=KY f v r;rw[show Db f v ((k,x)::r)=(if k=f then(k,v)::r else(k,x)::Db f v r) from rfl]
  by_cases hk:k=f
  ·rw[if_pos hk,B5,B5];lia
  ·rw[if_neg hk,B5,B5];lia
def bJ.some_of{v:V}{o:Option Value}(r:bJ (some v) o):∃u,o=some u/\RelV v u:=by
 cases o with
 |none=>exact(show False from r).elim
 |some u=>exact⟨u,rfl,r⟩
def bJ.none_of{o:Option Value}(r:bJ none o):o=none:=by
 cases o with
 |none=>rfl
 |some u=>exact(show False from r).elim
def JU{v:V}{u:Value}(r:RelV v u):handedIn u=true:=by
 cases v with
 |aJ=>cases(show u=Value.none from r);rfl
 |bl b=>cases(show u=Value.bool b from r);rfl
 |int i=>obtain⟨t,e⟩:=(show∃t,u=Value.int i t from r);cases e;rfl
 |str x=>obtain⟨t,e⟩:=(show∃t,u=Value.str x t from r);cases e;rfl
 |iM b=>obtain⟨t,e⟩:=(show∃t,u=Value.bytes b t from r);cases e;rfl
 |mM b=>obtain⟨t,e⟩:=(show∃t,u=Value.float b t from r);cases e;rfl
 |ref a=>cases(show u=Value.ref a from r);rfl
 |ty n=>cases(show u=Value.type n from r);rfl
section
variable{P:Program}{w:World}{H H':Hp}{h h':Heap}{a C dx:Addr}{fs fs':List (Str×V)}
def wc(aN:cH P w H h)(e:H a=some (.ins C dx fs)):∃mA,jE h a dx C mA/\(∀f,bJ (fs.lookup f) (mA f))/\PySem.Within mA (fs.map (·.1))/\fs.length<=1000/\H dx=some (.own a):=by
 obtain⟨d,z,ne,ob,mA,n,r,q⟩:=(show aY P w H h a (.ins C dx fs) from aN a _ e);exact⟨mA,⟨ob,n,ne⟩,r,q,z,d⟩
end
structure iN(K:Frag)(C:Addr):Prop where
 pg:plainGet K C Str.empty=true
 hd:hasDictIn K C=true
 po:plainOver K C=true
 sa:findIn K (.ref C) "__setattr__" =some (some (.builtin "object.__setattr__"))
def iN.get{K:Frag}{C:Addr}(c:iN K C)(f:Str):plainGet K C f=true:=c.pg
def aZ(K:Frag)(C:Addr)(f:Str):Prop:=findIn K (.ref C) f=some none
def aZ.Mx{K:Frag}{C:Addr}{f:Str}(n:aZ K C f):takerIn K C f=some none:=by
 unfold takerIn;rw[show findIn K (.ref C) f=some none from n];rfl
structure Con(K:Frag)(C:Addr)(f:Str)(v:V)(u:Value):Prop where
 at_:findIn K (.ref C) f=some (some u)
 rel:RelV v u
 get:specialIn K u "__get__" =some none
 cp:PySem.W.copiedNames.contains f=false
structure Meth(K:Frag)(C:Addr)(m:Str)(f:Addr):Prop where
 at_:findIn K (.ref C) m=some (some (.ref f))
 fn:isFn K (.ref f)=true
 kp:keepIn K (.ref f)=true
section
variable{X:Cx}{zd:AE}{σ:St}{H:Hp}{s:Shared}{a C dx:Addr}{fs:List (Str×V)}{f:Str}{v:V}{A:Around}{E:AA}
def Zn{b:Bool}{Q:AA}(I:Inv X zd σ H s)(e:H a=some (.ins C dx fs))(c:iN X.K C)(n:aZ X.K C f)(l:fs.lookup f=some v)
  (h:∀u s',Inv X zd σ H s'->RelV v u->Q u s'):wpAny (model X.prog X.w) A (getAttr (.ref a) f b) Q E s:=by
 obtain⟨mA,O,r,_,_,_⟩:=wc I.aN e;obtain⟨u,hu,ru⟩:=bJ.some_of (v:=v) (o:=mA f) (by rw[<-l];exact r f);exact Vn I.bY O (c.get f) c.hd n hu (JU ru) (h u _ (I.tok _) ru)
def Kp{m:Str}{g:Addr}{pl:Sem Bool}{Q:Value×List Value->Shared->Prop}(I:Inv X zd σ H s)(e:H a=some (.ins C dx fs))(c:iN X.K C)(k:Meth X.K C m g)(l:fs.lookup m=none)
  (h:Q (.ref g,[.ref a]) s):wpAny (model X.prog X.w) A (getMethod (.ref a) m pl) Q E s:=by
 obtain⟨mA,O,r,_,_,_⟩:=wc I.aN e;have hn:mA m=none:=bJ.none_of (by rw[<-l];exact r m);exact Xe I.bY O (c.get m) k.at_ k.fn hn h
def Zm{y:V}{u:Value}{Q:Unit->Shared->Prop}(I:Inv X zd σ H s)(e:H a=some (.ins C dx fs))(c:iN X.K C)(n:aZ X.K C f)(hl:fs.length < 1000)(ry:RelV y u)
  (h:∀s',Inv X zd σ (upd H a (.ins C dx (Db f y fs))) s'->Q .unit s'):wpAny (model X.prog X.w) A (setAttr (.ref a) f u) Q E s:=by
 obtain⟨mA,O,r,wi,_,ho⟩:=wc I.aN e;have hz:(fs.map (·.1)).length<=sizeLine:=by rw[A3,F0];lia
 refine Vm I.bY O c.sa c.po n.Mx c.hd wi hz λh' O' sb=>h _ ?_;have hd:∃o,h'.get? dx=some o:=let⟨o,_,_,e',_⟩:=O'.ns;⟨o,e'⟩;refine I.write (x:=a) (e:=dx) (by rw[e];exact True.intro) (.inr ho) (λb q hb z=>(sb.2 b hb).trans z) hd ?_;refine⟨by rw[Be O.ne];exact ho, ?_,O.ne,O'.obj,_,O'.ns,λg=> ?_,λg hg=> ?_⟩
 ·have:=KY f y fs;lia
 ·show bJ ((Db f y fs).lookup g) (if g=f then some u else mA g);rw[KZ]
  by_cases q:g=f
  ·rw[if_pos q,if_pos q];exact ry
  ·rw[if_neg q,if_neg q];exact r g
 ·by_cases q:g=f
  ·rw[q];exact(xb f y fs).1
  ·refine(xb f y fs).2 g (wi g λz=>hg ?_);show(if g=f then some u else mA g)=none;rw[if_neg q];exact z
def Inv.made(I:Inv X zd σ H s):Inv X zd σ (upd (upd H s.heap.objs.size (.own (s.heap.objs.size + 1))) (s.heap.objs.size + 1) (.ins C s.heap.objs.size []))
  {s with heap:=(s.heap.push emptyDict).push (instObj C s.heap.objs.size)}:=by
 have e1:(s.heap.push emptyDict).get? s.heap.objs.size=some emptyDict:=C5 s.heap rfl;have e2:((s.heap.push emptyDict).push (instObj C s.heap.objs.size)).get? (s.heap.objs.size + 1)=some (instObj C s.heap.objs.size):=by
  have:=C5 (s.heap.push emptyDict) (o:=instObj C s.heap.objs.size) rfl
  rwa[L9]at this
 have e3:(s.heap.push emptyDict).Ns s.heap.objs.size (λ_=>none):=⟨emptyDict, #[],_,e1,rfl,(λe he=>absurd he (by simp)),λ_=>rfl⟩;have I1:=I.laid (a:=s.heap.objs.size) (o:=.own (s.heap.objs.size + 1)) (h':=s.heap.push emptyDict) (t':=s.toks) (λb u q=>A5 _ q) (A9 _) ⟨_,e1⟩;refine I1.laid (a:=s.heap.objs.size + 1) (o:=.ins C s.heap.objs.size []) (t':=s.toks) (λb u q=>A5 _ q) (O6 (L9 _ _)) ?_;have ne:s.heap.objs.size≠s.heap.objs.size + 1:=C4 (O9 _);refine⟨by rw[Be ne,Ce],K8 _,ne,e2,λ_=>none,(Heap.Ns1.of_empty e3).at λo q=>A5 _ q,λ_=>True.intro,λy hy=>absurd rfl hy⟩
def HN{prog:Program}{w:World}{env:Env}{e:Expr}{f:Str}{pos:Pos}{s:Shared}{Q:AA}(hb:attributeBase e f env (eval e env)=eval e env)
  (h:wpAny (model prog w) A (eval e env) (λo s₁=>wpAny (model prog w) A (getAttr o f true) Q E s₁) E s):wpAny (model prog w) A (eval (.Attribute e f pos) env) Q E s:=
 Attribute_any_ h (by rw[arm_eval_Attribute,hb])
end
def QQ(K:Frag)(ta:TE)(f:Str):TE:=λ σ H Q=>ta σ H λx H1=>∃a C dx fs v,x=.ref a/\H1 a=some (.ins C dx fs)/\iN K C/\aZ K C f/\fs.lookup f=some v/\Q v H1
def QU(K:Frag)(ta tv:TE)(f:Str):TS:=λD σ H=>tv σ H λy H1=>ta σ H1 λx H2=>∃a C dx fs,x=.ref a/\H2 a=some (.ins C dx fs)/\iN K C/\aZ K C f/\fs.length < 1000/\
 D.nx σ (upd H2 a (.ins C dx (Db f y fs)))
section
variable{X:Cx}{o e value:Expr}{f:Str}{pos pos' zi:Pos}{ta tv:TE}
def Td(he:PE X e ta)(hb:attributeBase e f X.env (eval e X.env)=eval e X.env):PE X (.Attribute e f pos) (QQ X.K ta f):=by
 intro zd s σ H Q I h;refine HN hb (Bg (he zd s σ H _ I h) λu s1 ⟨x,H1,I1,rx,a,C,dx,fs,v,ex,ea,c,n,l,q⟩=> ?_);subst ex;obtain rfl:u=Value.ref a:=rx;exact Zn I1 ea c n l λu' s2 I2 ru=>⟨v,H1,I2,ru,q⟩
def Tc(ha:PE X o ta)(hv:PE X value tv)(hs:swapsWith value (some (.Attribute o f pos')) pos.line X.env=pure false):PS X (.Assign [.Attribute o f pos'] value pos) (QU X.K ta tv f):=by
 intro zd s σ H D I h;refine W1 (Bg (hv zd s σ H _ I h) λu s1 ⟨y,H1,I1,ry,q⟩=>Bg (ha zd s1 σ H1 _ I1 q) λov s2 ⟨x,H2,I2,rx,a,C,dx,fs,ex,ea,c,n,l,q2⟩=> ?_) hs;subst ex;obtain rfl:ov=Value.ref a:=rx;exact Zm I2 ea c n l ry λs3 I3=>⟨σ,_,I3,q2⟩
end
section
variable{X:Cx}{zd:AE}{σ:St}{H:Hp}{s:Shared}{A:Around}{E:AA}{Q:AA}{c:Value}{b:Bool}
inductive dG(K:Frag)(H:Hp):V->Value->Prop where
 |aJ:dG K H .aJ (.type "NoneType")
 |bl (x:Bool):dG K H (.bl x) (.type "bool")
 |int (i:Int):dG K H (.int i) (.type "int")
 |str (x:Str):dG K H (.str x) (.type "str")
 |mM (x:UInt64):dG K H (.mM x) (.type "float")
 |lst {a:Addr} {xs:List V} (e:H a=some (.lst xs)):dG K H (.ref a) (.type "list")
 |cS {a:Addr} {o:Obj} {xs:List V} (e:H a=some (.cS o (.lst xs))):dG K H (.ref a) (.type "list")
 |tup {a:Addr} {xs:List V} (e:H a=some (.tup xs)):dG K H (.ref a) (.type "tuple")
 |dK {a:Addr} {kvs:List (Ap×V)} (e:H a=some (.dK kvs)):dG K H (.ref a) (.type "dict")
 |dT {a:Addr} {kvs:List (List Ap×V)} (e:H a=some (.dT kvs)):dG K H (.ref a) (.type "dict")
 |ins {a C dx:Addr} {fs:List (Str×V)} (e:H a=some (.ins C dx fs)) (cl:iN K C) (ha:findIn K (.ref C) "__class__" =some (some (.builtin "object.__class__")))
   (hn:specialIn K (.builtin "object.__class__") "__get__" =some (some (.builtin "getset_descriptor.__get__"))) (htk:takesIn K (.builtin "object.__class__")=some true)
   (hm:mroIn K C (.type "object")=some true):dG K H (.ref a) (.ref C)
end
structure dX(k:Nat)(A:Around):Prop where
 hd:A.handled=none
 dp:A.depth + 3 * k + 5 < recursionLimit
 un:A.units + 16 * k + 200 < cLine
theorem dX.in1{k:Nat}{A:Around}(r:dX (k + 1) A):dX k A.in1:=
 ⟨r.hd,by have:=r.dp;show A.depth + 3 * k + 5 < _;lia,by have:=r.un;show A.units + 1 + 16 * k + 200 < _;lia⟩
def Zl{A:Around}{C:Addr}{us:List Value}{kw:List (Str×Value)}:(A.under (.builtin "type.__call__" ⟨.ref C::us,kw⟩)).depth=A.depth + 1:=by
 first|rfl|simp[Around.under,Code.weight,Code.isCreation,Code.isGuard,Code.isCaller,Code.frames,Code.isFrame,guardIds]
def Zk{A:Around}{C:Addr}{us:List Value}{kw:List (Str×Value)}:(A.under (.builtin "type.__call__" ⟨.ref C::us,kw⟩)).units=A.units + 1:=by
 first|rfl|simp[Around.under,Code.cUnits,Code.frames,Code.isFrame]
theorem dX.depth{k:Nat}{A:Around}(r:dX k A):A.depth < recursionLimit:=by have:=r.dp;lia
def qk:TA:=λ_ H Q=>Q [] H
def vk(ta:TE)(tr:TA):TA:=λ σ H Q=>ta σ H λx H1=>tr σ H1 λxs H2=>Q (x::xs) H2
section
variable{X:Cx}{e:Expr}{es:List Expr}{te:TE}{t:TA}{pos:Pos}
def mn:PA X [] qk:=λ_ _ _ _ H Q I h=>Q0 ⟨[],H,I,.nil,h⟩
def lV(ha:PE X e te)(hr:PA X es t)(hs:starEach (e::es) X.env=(false,eval e X.env)::starEach es X.env:=by rfl):PA X (e::es) (vk te t):=by
 intro pos zd s σ H Q I h;rw[hs];show wpAny _ _ (spliced ((false,eval e X.env)::backTo pos (starEach es X.env))) _ _ s;refine M8 (Bg (ha zd s σ H _ I h) λu s1 ⟨x,H1,I1,r1,q1⟩=> ?_);exact Bg (hr pos zd s1 σ H1 _ I1 q1) λus s2 ⟨xs,H2,I2,r2,q2⟩=>⟨x::xs,H2,I2,.cons r1 r2,q2⟩
def QJ(t:TA):TE:=λ σ H Q=>t σ H λxs H1=>xs.length<=sizeLine/\∀p,H1 p=none->Q (.ref p) (upd H1 p (.tup xs))
def QN(t:TA):TE:=λ σ H Q=>t σ H λxs H1=>xs.length<=sizeLine/\∀p,H1 p=none->Q (.ref p) (upd H1 p (.lst xs))
def Tb{x1}(h:PA X es t):PE X (.Tuple es x1 pos) (QJ t):=by
 intro zd s σ H Q I hq;refine wpAny_Tuple_spliced (Bg (h pos zd s σ H _ I hq) λus s1 ⟨xs,H1,I1,r,z,q⟩=>⟨by rw[<-r.length];exact z, ?_⟩);have hf:H1 s1.heap.objs.size=none:=I1.aN.fresh (A9 _);refine⟨.ref s1.heap.objs.size,upd H1 s1.heap.objs.size (.tup xs),I1.laid (t':=s1.toks) (λb u e=>A5 _ e) (A9 _) ?_,rfl,q _ hf⟩;exact⟨z,us,r,⟨_,C5 _ rfl,rfl,_,rfl⟩⟩
def vB(h:PA X es t):PE X (.List es pos) (QN t):=by
 intro zd s σ H Q I hq;refine wpAny_List_spliced (Bg (h pos zd s σ H _ I hq) λus s1 ⟨xs,H1,I1,r,z,q⟩=>⟨by rw[<-r.length];exact z, ?_⟩);have hf:H1 s1.heap.objs.size=none:=I1.aN.fresh (A9 _);refine⟨.ref s1.heap.objs.size,upd H1 s1.heap.objs.size (.lst xs),I1.laid (t':=s1.toks) (λb u e=>A5 _ e) (A9 _) ?_,rfl,q _ hf⟩;exact⟨z,us,0,r,C5 _ rfl⟩
end
abbrev Sp:=List V->Hp->VK->XK->Prop
abbrev pA:=List Env->Hp->Shared->XK->Value->Shared->Prop
structure dA(P:Program)(w:World)(K:Frag)(mg:AB)(base:Heap)(A:Around)(outer:List Env)(s:Shared)(H:Hp):Prop where
 frames:A.frames=some outer
 mod:Mod K mg base
 bs:∀b o,base.get? b=some o->s.heap.get? b=some o/\H b=none
 fU:base.objs.size<=s.heap.objs.size
 bV:s.heap.FunFrames base outer
 kH:∀b∈fM outer,H b=none
 aN:cH P w H s.heap
 bare:AllBare s.gens
 tb:oi K H
def CE(outer:List Env)(P:Program)(w:World)(H:Hp)(s:Shared)(Q:VK)(u:Value)(s':Shared):Prop:=
 ∃v H',s'.os=s.os/\AllBare s'.gens/\Un (fM outer) [] H H' s.heap s'.heap/\cH P w H' s'.heap/\RelV v u/\Q v H'
def CR(CX:pA)(outer:List Env)(P:Program)(w:World)(H:Hp)(s:Shared)(Q:VK)(E:XK)(r:Result)(s':Shared):Prop:=
 match r with
 | .ok (.ret u)=>CE outer P w H s Q u s'
 | .ok _=>False
 | .error e=>CX outer H s E e s'
structure oq(P:Program)(w:World)(K:Frag)(mg:AB)(base:Heap)(CX:pA)(k:Nat)(f:Addr)(fd:FuncData)(ps:List Str)(sp:Sp):Prop where
 len:∀vs H Q E,sp vs H Q E->vs.length=ps.length
 run:∀(A:Around) (outer:List Env) (s:Shared) (H:Hp) (args:Args) (us:List Value) (vs:List V) (Q:VK) (E:XK),dX k A->dA P w K mg base A outer s H->BindsTo s fd args (ps.zip us)->Vals vs us->sp vs H Q E->
  codeAny (model P w) A (.call (.ref f) args) (CR CX outer P w H s Q E) s
def dA.make{P:Program}{w:World}{K:Frag}{mg:AB}{base:Heap}{A:Around}{outer:List Env}{s:Shared}{H:Hp}(e:dA P w K mg base A outer s H)(C:Addr)(us:List Value)(kw:List (Str×Value)):
  dA P w K mg base (A.under (.builtin "type.__call__" ⟨.ref C::us,kw⟩)) outer s H:=⟨by first|exact e.frames|(simpa[Around.under,Code.envs,Code.isFrame,pushEnvs] using e.frames),e.mod,e.bs,e.fU,e.bV,e.kH,e.aN,e.bare,e.tb⟩
theorem dA.in1{P:Program}{w:World}{K:Frag}{mg:AB}{base:Heap}{A:Around}{outer:List Env}{s:Shared}{H:Hp}(e:dA P w K mg base A outer s H):
  dA P w K mg base A.in1 outer s H:=⟨e.frames,e.mod,e.bs,e.fU,e.bV,e.kH,e.aN,e.bare,e.tb⟩
section
variable{X:Cx}{zd:AE}{σ:St}{H:Hp}{s s':Shared}
def Inv.tab(I:Inv X zd σ H s):oi X.K H:=λc P e=>let⟨_,z⟩:=I.ok.tb c P e;let⟨_,y⟩:=I.base.cC _ _ z;⟨_,y⟩
def Inv.va(I:Inv X zd σ H s):dA X.prog X.w X.K X.mg X.base X.A X.stack s H:=
 ⟨I.ok.frames,I.ok.mod,I.bs,D4 I.ok.fU I.sz,I.stack,I.cP,I.aN,I.bare,I.tab⟩
def Inv.after{Q:VK}{u:Value}(I:Inv X zd σ H s)(h:CE X.stack X.prog X.w H s Q u s'):EP X zd σ Q u s':=by
 obtain⟨v,H',os,bare,un,aN,r,q⟩:=h;obtain⟨hh,g,d,t,mC⟩:=s';obtain rfl:mC=s.os:=os;exact⟨v,H',I.call (h':=hh) (g':=g) (d':=d) (t':=t) (ch:=[]) un aN bare (λb z=>absurd z (by simp)),r,q⟩
end
def Binds(K:Frag)(fd:FuncData)(ps:List Str)(ds:List Value):Prop:=
 ∀(s:Shared) (us:List Value),K.In s.heap->(us ++ ds).length=ps.length->BindsTo s fd ⟨us,[]⟩ (ps.zip (us ++ ds))
def Binds.all{K:Frag}{fd:FuncData}{ps:List Str}(h:∀us:List Value,us.length=ps.length->bindArgs fd ⟨us,[]⟩=pure (ps.zip us)):Binds K fd ps []:=λs us _ hl=>by
 rw[D9]at hl⊢;exact .of_eq (h us hl)
section
variable{X:Cx}{CX:pA}{k:Nat}{f C:Addr}{fd:FuncData}{ps:List Str}{sp:Sp}{dvs:List V}{ds:List Value}{E:XK}{x m:Str}{p pos zh:Pos}{e o:Expr}{es:List Expr}{ta:TE}{t:TA}
structure Mk(K:Frag)(C f:Addr):Prop where
 makes:makesIn K C=true
 init:findIn K (.ref C) "__init__" =some (some (.ref f))
 fn:isFn K (.ref f)=true
 kp:keepIn K (.ref C)=true
end
section
variable{X:Cx}{CX:pA}{k:Nat}{f C:Addr}{fd:FuncData}{ps ks:List Str}{sp:Sp}{E:XK}{x m:Str}{p pos zh jn:Pos}{e o:Expr}{es:List Expr}{kws:List Keyword}{te ta:TE}{t tk:TA}{nm:Option Str}
structure abn(K:Frag)(fd:FuncData)(ps ks:List Str)(g:List Value->List Value->List Value)(gV:List V->List V->List V):Prop where
 to:∀(s:Shared) (us ws:List Value),K.In s.heap->(g us ws).length=ps.length->BindsTo s fd ⟨us,ks.zip ws⟩ (ps.zip (g us ws))
 rel:∀{vs:List V} {us:List Value} {zs:List V} {ws:List Value},Vals vs us->Vals zs ws->Vals (gV vs zs) (g us ws)
variable{g:List Value->List Value->List Value}{gV:List V->List V->List V}
end
structure bA(N P:List Str)(sc:Scope):Prop where
 kind:sc.kind=.function
 co:sc.isCoroutine=false
 gen:sc.isGenerator=false
 nd:N.Nodup
 pre:N.take P.length=P
 par:∀x∈P,sc.names.lookup x=some .local\/sc.names.lookup x=some .cell
 xX:∀y∈sc.names,y.2≠ .free
theorem JT{kindOf:Str->Option NameKind}{x:Str}:∀{binds:List (Str×Value)} {m:AB},(∀v,(x,v)∉binds)->bindL kindOf binds m x=m x
 | [],_,_=>rfl
 |(n,v)::r,m,h=>by
  unfold bindL;rw[JT λw hw=>h w (D5 _ hw)]
  split
  ·have:x≠n:=by rintro rfl;exact h v L4
   simp[this]
  ·rfl
theorem JS{kindOf:Str->Option NameKind}{x:Str}:∀{binds:List (Str×Value)} {m:AB},(∀v,(x,v)∉binds)->bindC kindOf binds m x=m x
 | [],_,_=>rfl
 |(n,v)::r,m,h=>by
  unfold bindC;rw[JS λw hw=>h w (D5 _ hw)]
  split
  ·rfl
  ·have:x≠n:=by rintro rfl;exact h v L4
   simp[this]
theorem JR{kindOf:Str->Option NameKind}{x:Str}{v:Value}:∀{P:List Str} {vs:List Value} {i:Nat} {m:AB},P.Nodup->P[i]? =some x->vs[i]? =some v->kindOf x=some .local->
  bindL kindOf (P.zip vs) m x=some v
 | [],_,_,_,_,h,_,_=>by simp at h
 |_::_,[],_,_,_,_,h,_=>by simp at h
 |p::P,w::vs,0,m,nd,h1,h2,hk=>by
  simp at h1 h2;subst h1;subst h2;show bindL kindOf ((p,w)::P.zip vs) m p=_;unfold bindL;rw[JT λv hv=>(J8.mp nd).1 (Qv hv).1,if_pos hk];simp
 |p::P,w::vs,i + 1,m,nd,h1,h2,hk=>by
  show bindL kindOf ((p,w)::P.zip vs) m x=_;unfold bindL;exact JR (i:=i) (J8.mp nd).2 (by simpa using h1) (by simpa using h2) hk
theorem JQ{kindOf:Str->Option NameKind}{x:Str}{v:Value}:∀{P:List Str} {vs:List Value} {i:Nat} {m:AB},P.Nodup->P[i]? =some x->vs[i]? =some v->kindOf x≠some .local->
  bindC kindOf (P.zip vs) m x=some v
 | [],_,_,_,_,h,_,_=>by simp at h
 |_::_,[],_,_,_,_,h,_=>by simp at h
 |p::P,w::vs,0,m,nd,h1,h2,hk=>by
  simp at h1 h2;subst h1;subst h2;show bindC kindOf ((p,w)::P.zip vs) m p=_;unfold bindC;rw[JS λv hv=>(J8.mp nd).1 (Qv hv).1,if_neg hk];simp
 |p::P,w::vs,i + 1,m,nd,h1,h2,hk=>by
  show bindC kindOf ((p,w)::P.zip vs) m x=_;unfold bindC;exact JQ (i:=i) (J8.mp nd).2 (by simpa using h1) (by simpa using h2) hk
noncomputable def iH(N:List Str)(vs:List V):St:=vs.map some ++ List.replicate (N.length - vs.length) none
noncomputable def Gc(CX:pA)(P:Program)(w:World)(K:Frag)(mg:AB)(base:Heap)(N:List Str)(qual:Str)(scope:Scope)(f:Addr)(cd:Value)(A:Around)(outer:List Env)(s:Shared)(H:Hp)(E:XK):Cx where
 prog:=P
 w:=w
 K:=K
 mg:=mg
 base:=base
 A:=A.deeper (envOfC qual scope s.heap.objs.size f cd)
 N:=N
 s₀:=s
 H₀:=H
 env:=envOfC qual scope s.heap.objs.size f cd
 outer:=outer
 stack:=envOfC qual scope s.heap.objs.size f cd::outer
 ex:=[]
 calm:=true
 fn:=λ_=>true
 pn:=[]
 xe:=λe s'=>wpAny (model P w) (A.deeper (envOfC qual scope s.heap.objs.size f cd)) (leaving (envOfC qual scope s.heap.objs.size f cd) e) (λ_ pG=>CX outer H s E e pG) (λe' pG=>CX outer H s E e' pG) s'
def Jb{sc:Scope}{n:Nat}{x:Str}(h:sc.names.lookup x=some .cell):∃c,(cellsFrom n sc.names []).lookup x=some c:=by
 have q:=ZC7 sc.names n [] (.inl h);exact Q5.mp q
def Yt{CX:pA}{P:Program}{w:World}{K:Frag}{mg:AB}{base:Heap}{N ps:List Str}{qual:Str}{scope:Scope}{f:Addr}{cd:Value}{A:Around}{outer:List Env}{s s1:Shared}{H:Hp}{E:XK}{us:List Value}{vs:List V}
  (S:bA N ps scope) (hd:A.handled=none) (e0:dA P w K mg base A outer s H) (hl:vs.length=ps.length) (r:Vals vs us)
  (x:InCallC s s.heap.objs.size (bindL (envOfC qual scope s.heap.objs.size f cd).kindOf (ps.zip us) λ_=>none) (cellsFrom (s.heap.objs.size + 1) scope.names []) (bindC (envOfC qual scope s.heap.objs.size f cd).kindOf (ps.zip us) λ_=>none) s1):
  Inv (Gc CX P w K mg base N qual scope f cd A outer s H E) [] (iH N vs) H s1:=by
 have bH:ps.length<=N.length:=by have:=L8 List.length S.pre;rw[Z9]at this;lia
 obtain⟨h1,tk,rfl,hk⟩:=x.done;have zE:∀b:Addr,b∉(Gc CX P w K mg base N qual scope f cd A outer s H E).ex:=λb z=>absurd (show b∈([]:List Addr) from z) (by simp);refine⟨⟨e0.mod,S.kind,rfl,rfl,A9 _,λy z c h1 h2=> ?_,λy hy=> ?_,λy c _ h=> ?_,λ_=>hd,X1 e0.frames,.inr ⟨rfl,rfl⟩,λb z=>absurd z (zE b),e0.bs,e0.fU,λb _ _=>zE b,λb z=>absurd z (zE b),e0.bV,e0.kH,e0.tb⟩,
  rfl,e0.bare,Un.kept hk,⟨_,x.toInCall.ns,λi y v h1 h2 h3=> ?_⟩,λy c h=>⟨_,x.cell y c h⟩,e0.aN.fresh (A9 _),λy c h=> ?_,λp hp=>absurd (show p∈([]:AE) from hp) (by simp),e0.aN.kept hk, ?_⟩
 ·exact name_of_addr x.apart (L5 h1) (L5 h2)
 ·have hy:scope.names.lookup y=some .cell\/scope.names.lookup y=some .free:=hy;rcases hy with hy|hy
  ·exact Jb hy
  ·exact absurd rfl (S.xX _ (L5 hy))
 ·exact R7 (x.above y c (L5 h))
 ·have hi:i < vs.length:=by
   unfold iH at h2
   by_cases hi:i < vs.length
   ·exact hi
   ·rw[D2 (by simpa using hi)]at h2;rw[F5]at h2
    split at h2 <;> cases h2
  have ha:vs[i]? =some v:=by
   unfold iH at h2;rw[B7 (by simpa using hi),B3]at h2;cases e:vs[i]? with
   |none=>rw[e]at h2;cases h2
   |some a=>rw[e]at h2;cases h2;rfl
  obtain⟨u,hu,rv⟩:=r.get ha;have hp:ps[i]? =some y:=by
   rw[<-S.pre,List.getElem?_take_of_lt ()];exact h1
  have ndP:ps.Nodup:=by rw[<-S.pre];exact S.nd.sublist (List.take_sublist _ _)
  refine⟨u,rv, ?_⟩;rcases S.par y (N0 hp) with k|k
  ·exact .inl ⟨k,JR ndP hp hu k⟩
  ·obtain⟨c,e⟩:=Jb (n:=s.heap.objs.size + 1) k;refine .inr ⟨.inl k,c,e, ?_⟩;have q:=x.cell y c e;rw[JQ ndP hp hu (by show scope.names.lookup y≠_;rw[k];decide)]at q;exact q
 ·exact e0.aN.fresh (R7 (x.above y c (L5 h)))
 ·unfold iH;show _=N.length;rw[A7,A3,J6];lia
section
variable{X:Cx}{x:Str}{p pos:Pos}{e:Expr}{es:List Expr}{t:TA}{id T:String}{r:List V->Hp->VK->Prop}
def Ox(r:List V->Hp->VK->Prop)(t:TA):TE:=λ σ H Q=>t σ H λvs H1=>r vs H1 Q
def Ja(hc:bN X (.builtin id) r)(hg:Gl X x)(hm:X.mg x=none)(hv:bootBuiltins x=some (.builtin id))(ha:PA X (e::es) t)(hn:x≠ "__name__" :=by decide)(cZ:AG x:=by decide)
  (he:starEach (e::es) X.env=(false,eval e X.env)::starEach es X.env:=by rfl) (bH:(backTo pos (starEach es X.env)).any (·.1)=false:=by rfl):PE X (.Call (.Name x p) (e::es) [] pos) (Ox r t):=by
 intro zd s σ H Q I h;refine N8 (lS I hg hm hv ?_ hn cZ);exact W7 (Bg (ha pos zd s σ H _ I h) λus s1 ⟨vs,H1,I1,r1,q1⟩=>hc zd s1 σ H1 vs us Q I1 r1 q1) he bH
def Ys(hc:bN X (.type T) r)(hg:Gl X x)(hm:X.mg x=none)(hv:bootBuiltins x=some (.type T))(ha:PA X (e::es) t)(hn:x≠ "__name__" :=by decide)(cZ:AG x:=by decide)
  (he:starEach (e::es) X.env=(false,eval e X.env)::starEach es X.env:=by rfl) (bH:(backTo pos (starEach es X.env)).any (·.1)=false:=by rfl):PE X (.Call (.Name x p) (e::es) [] pos) (Ox r t):=by
 intro zd s σ H Q I h;refine N8 (lS I hg hm hv ?_ hn cZ);exact K0 (Bg (ha pos zd s σ H _ I h) λus s1 ⟨vs,H1,I1,r1,q1⟩=>hc zd s1 σ H1 vs us Q I1 r1 q1) he bH
end
end L2
namespace HT
open PySem PyProof.Rows
section
open PySem.SeqAt
open PySem.AutoSeq1 (wpAny_loadPart')
open PySem.MeetsSeq PySem.MeetsSeq2 PySem.MeetsSeq3
end
section
variable{prog:Program}{w:World}{A:Around}{E:AA}{s:Shared}
noncomputable def OC(n d:Nat):Option Int->Nat
 |none=>d
 |some v=>if v < 0 then(v + (n:Int)).toNat else min v.toNat n
end
end HT
namespace L2
open PySem PySem.Spec PyProof.Rows
abbrev TO:=St->Hp->(Option Int->Hp->Prop)->Prop
section
variable{X:Cx}{e:Expr}{te:TE}{lo hi:Option Expr}{tl th:TO}{pos p2:Pos}
def NV(X:Cx)(r:V->Option Int->Option Int->Hp->VK->Prop):Prop:=
 ∀(zd:AE) (s:Shared) (σ:St) (H:Hp) (x:V) (v vl vu:Value) (lo hi:Option Int) (sl:Addr) (Q:VK),Inv X zd σ H s->RelV x v->s.heap.IsSliceOf sl vl vu .none->IsPart vl lo->IsPart vu hi->r x lo hi H Q->
  ∃T id,typeLookup (.type T) "__getitem__" =pure (some (.builtin id))/\s.TypeIs v T/\wpAny (model X.prog X.w) X.A (getItem v (.ref sl)) (EP X zd σ Q) X.xe s
def NV.or{r r':V->Option Int->Option Int->Hp->VK->Prop}(h:NV X r)(h':NV X r'):NV X (λx lo hi H Q=>r x lo hi H Q\/r' x lo hi H Q):=by
 intro zd s σ H x v vl vu lo hi sl Q I rx hs pl pu q;rcases q with q|q
 ·exact h zd s σ H x v vl vu lo hi sl Q I rx hs pl pu q
 ·exact h' zd s σ H x v vl vu lo hi sl Q I rx hs pl pu q
end
noncomputable def kF(n:Nat)(i:Int):Option Nat:=if 0<=i then(if i < n then some i.toNat else none) else if -(n:Int)<=i then some (i + n).toNat else none
def dC{α:Type}(xs:List α)(i:Int):Option α:=(kF xs.length i).bind λj=>xs[j]?
def HM{n:Nat}{i:Int}{j:Nat}(h:kF n i=some j):seqIndex? i n=some j/\j < n/\ -(n:Int)<=i/\i < n:=by
 unfold kF at h
 by_cases h0:0<=i
 ·rw[if_pos h0]at h
  by_cases h1:i < n
  ·rw[if_pos h1]at h;have e:i.toNat=j:=L6 h;exact⟨by rw[seqIndex_of h0 h1,e],by lia,by lia,h1⟩
  ·rw[if_neg h1]at h;cases h
 ·rw[if_neg h0]at h
  by_cases h1: -(n:Int)<=i
  ·rw[if_pos h1]at h;have e:(i + n).toNat=j:=L6 h;exact⟨by rw[Qk () h1,e],by lia,h1,by lia⟩
  ·rw[if_neg h1]at h;cases h
def wb{α:Type}{xs:List α}{i:Int}{v:α}(h:dC xs i=some v):∃j,seqIndex? i xs.length=some j/\xs[j]? =some v/\j < xs.length/\ -(xs.length:Int)<=i/\i < xs.length:=by
 unfold dC at h;cases e:kF xs.length i with
 |none=>rw[e]at h;cases h
 |some j=>
  rw[e]at h;obtain⟨h1,h2,h3,h4⟩:=HM e;exact⟨j,h1,h,h2,h3,h4⟩
def wa(b:Expr):Prop:=∀o i,subscripted b false o i=operate [o,i] (getItem o i)
def px(X:Cx)(r:R2):Prop:=
 ∀(value slice:Expr) (zd:AE) (s:Shared) (σ:St) (H:Hp) (x y:V) (v u:Value) (Q:VK),Inv X zd σ H s->RelV x v->RelV y u->r x y H Q->
  subscripted slice false v u=operate [v,u] (getItem v u)->wpAny (model X.prog X.w) X.A (subscriptTail value slice v u) (EP X zd σ Q) X.xe s
def uN(X:Cx)(id:String)(r:V->List V->Hp->VK->Prop):Prop:=
 ∀(zd:AE) (s:Shared) (σ:St) (H:Hp) (x:V) (xs:List V) (v:Value) (us:List Value) (Q:VK),Inv X zd σ H s->RelV x v->Vals xs us->r x xs H Q->
  wpAny (model X.prog X.w) X.A (call (.builtin id) (v::us)) (EP X zd σ Q) X.xe s
section
variable{X:Cx}{a b:Expr}{ta tb:TE}{pos:Pos}
def px.or{r r':R2}(h:px X r)(h':px X r'):px X (λx y H Q=>r x y H Q\/r' x y H Q):=by
 intro value slice zd s σ H x y v u Q I rx ry q hs;rcases q with q|q
 ·exact h value slice zd s σ H x y v u Q I rx ry q hs
 ·exact h' value slice zd s σ H x y v u Q I rx ry q hs
def uN.or{id:String}{r r':V->List V->Hp->VK->Prop}(h:uN X id r)(h':uN X id r'):uN X id (λx xs H Q=>r x xs H Q\/r' x xs H Q):=by
 intro zd s σ H x xs v us Q I rx rs q;rcases q with q|q
 ·exact h zd s σ H x xs v us Q I rx rs q
 ·exact h' zd s σ H x xs v us Q I rx rs q
def DL{r:R2}(hr:px X r)(ha:PE X a ta)(hb:PE X b tb)(hs:wa b):PE X (.Subscript a b pos) (yV r ta tb):=by
 intro zd s σ H Q I h;exact Subscript_ (wd ha hb I h λv u s2 x y H2 I2 rx ry q=>hr a b zd s2 σ H2 x y v u Q I2 rx ry q (hs _ _))
def CP(K:Frag):R2:=λx y H Q=>∃p xs i v,x=.ref p/\y=.int i/\bU K H p xs/\dC xs i=some v/\Q v H
def CO(K:Frag):R2:=λx y H Q=>∃p xs i v,x=.ref p/\y=.int i/\cU K H p xs/\dC xs i=some v/\Q v H
def QX:R2:=λx y H Q=>∃z i c,x=.str z/\y=.int i/\z.length<=sizeLine/\dC z.cps.toList i=some c/\Q (.str ⟨#[c]⟩) H
def HL:px X (CP X.K):=by
 intro value slice zd s σ H x y v u Q I rx ry h hs;obtain⟨p,xs,i,z,rfl,rfl,hq,he,q⟩:=h;cases rx;obtain⟨t,rfl⟩:=ry;obtain⟨its,r,pl,hz⟩:=I.list hq;obtain⟨j,h1,h2,h3,h4,h5⟩:=wb he;obtain⟨w,ew,my⟩:=r.get h2;have hl:=r.length;have hn:=jz;have fin:EP X zd σ Q w s:=⟨z,H,I,my,q⟩
 by_cases h0:0<=i
 ·have hj:i.toNat=j:=by
   rw[seqIndex_of h0 h5]at h1;exact L6 h1
  exact item_listR pl.isList h0 () (by rw[hj];simpa using ew) fin hs
 ·have hj:(i + (its.toArray.size:Int)).toNat=j:=by
   rw[Qk () h4]at h1;rw[C7,<-hl];exact L6 h1
  exact ZB1 (x:=w) pl.isList.typeIs slot_list_getitem.lookup
   (wpAny_getItem_list_neg (Q:=λr s'=>r=w/\EP X zd σ Q r s') pl.isList () (by rw[C7] <;> lia) () (by rw[hj];simpa using ew) ⟨rfl,fin⟩) hs
def EU:px X (CO X.K):=by
 intro value slice zd s σ H x y v u Q I rx ry h hs;obtain⟨p,xs,i,z,rfl,rfl,hq,he,q⟩:=h;cases rx;obtain⟨t,rfl⟩:=ry;obtain⟨its,r,pl,hz⟩:=I.tuple hq;obtain⟨j,h1,h2,h3,h4,h5⟩:=wb he;obtain⟨w,ew,my⟩:=r.get h2;have hl:=r.length;have hn:=jz;have fin:EP X zd σ Q w s:=⟨z,H,I,my,q⟩;exact ZB1 (x:=w) pl.typeIs slot_tuple_getitem.lookup
  (getItem_tuple (j:=j) (Q:=λr s'=>r=w/\EP X zd σ Q r s') pl () () (by rw[C7,<-hl];exact h1) (by simpa using ew) ⟨rfl,fin⟩) hs
def Ta:px X QX:=by
 intro value slice zd s σ H x y v u Q I rx ry h hs;obtain⟨z,i,c,rfl,rfl,hz,he,q⟩:=h;obtain⟨t,rfl⟩:=rx;obtain⟨t',rfl⟩:=ry;obtain⟨j,h1,h2,h3,h4,h5⟩:=wb he;have hl:z.cps.toList.length=z.length:=by simp[Str.length]
 rw[hl]at h1 h4 h5;have hn:=jz;exact tail_any (typeIs_str s z t) slot_str_getitem.lookup (getItem_str (c:=c) (by
  have e1:decide (i < -(2 ^ 63:Int))=false:=K2 ();have e2:decide (i≥2 ^ 63)=false:=K2 ();rw[e1,e2,Bool.or_false]) (by rw[h1];simpa using h2) ⟨.str ⟨#[c]⟩,H,I.tok _,⟨_,rfl⟩,q⟩) hs
def Zj(its:List Value)(n j:Nat)(u:Value):Obj.mapSeq (·.setIfInBounds j u) {cls:=.type "list",data:=.seq its.toArray n}={cls:=.type "list",data:=.seq (its.set j u).toArray n}:=by
 simp[Obj.mapSeq]
theorem Inv.lst{zd:AE}{σ:St}{H:Hp}{s:Shared}{p:Addr}{xs:List V}(I:Inv X zd σ H s)(h:H p=some (.lst xs)):
  ∃(its:List Value) (n:Nat),Vals xs its/\s.heap.get? p=some {cls:=.type "list",data:=.seq its.toArray n}/\xs.length<=sizeLine:=by
 obtain⟨z,its,n,r,e⟩:=I.aN p _ h;exact⟨its,n,r,e,z⟩
def Inv.xY{zd:AE}{σ:St}{H:Hp}{s:Shared}{p:Addr}{xs ys:List V}{its its':List Value}{n n':Nat}{f:Obj->Obj}(I:Inv X zd σ H s)(h:H p=some (.lst xs))
  (ho:s.heap.get? p=some {cls:=.type "list",data:=.seq its.toArray n}) (hf:f {cls:=.type "list",data:=.seq its.toArray n}={cls:=.type "list",data:=.seq its'.toArray n'}) (r:Vals ys its') (hz:ys.length<=sizeLine) (t:Nat):
  Inv X zd σ (upd H p (.lst ys)) {s with heap:=s.heap.update p f,toks:=t}:=by
 have e:(s.heap.update p f).get? p=some {cls:=.type "list",data:=.seq its'.toArray n'}:=by
  rw[P5 f ho (by rw[hf] <;> rfl),hf]
 refine I.write (x:=p) (e:=p) (by rw[h];trivial) (.inl rfl) (λb u hb q=>(K1 _ _ (Ne.symm hb)).trans q) ⟨_,e⟩ ?_;exact⟨hz,its',n',r,e⟩
def RH:V->V->V->Hp->(Hp->Prop)->Prop:=λo i v H Q=>∃p xs k j,o=.ref p/\i=.int k/\H p=some (.lst xs)/\kF xs.length k=some j/\Q (upd H p (.lst (xs.set j v)))
def Xc:Mt X RH:=by
 intro zd s σ H o i v ov iv u Q I ro ri rv h;obtain⟨p,xs,k,j,rfl,rfl,hp,hj,q⟩:=h;cases ro;obtain⟨t,rfl⟩:=ri;obtain⟨its,n,r,ho,hz⟩:=I.lst hp;obtain⟨h1,h2,h3,h4⟩:=HM hj;have hl:=r.length;have hn:=jz;have I':Inv X zd σ (upd H p (.lst (xs.set j v))) {s with heap:=s.heap.update p (Obj.mapSeq (·.setIfInBounds j u))}:=
  I.xY hp ho (Zj its n j u) (r.set rv j) (by rw[F4];exact hz) s.toks
 by_cases h0:0<=k
 ·have hk:k.toNat=j:=by
   rw[seqIndex_of h0 h4]at h1;exact L6 h1
  exact ki_setAt ho h0 () (by rw[C7,<-hl];exact h4) (by rw[hk];exact⟨_,I',q⟩)
 ·have hk:(k + (its.toArray.size:Int)).toNat=j:=by
   rw[Qk () h3]at h1;rw[C7,<-hl];exact L6 h1
  exact ki_setBack ho () (by rw[C7,<-hl];exact h3) () (by rw[hk];exact⟨_,I',q⟩)
noncomputable def Hm:V->Bool
 | .aJ=>true
 | .bl _=>true
 | .int _=>true
 | .str _=>true
 |_=>false
def qc:V->V->Bool
 | .aJ,.aJ=>true
 | .bl a,.bl b=>a ==b
 | .bl a,.int b=>(if a then 1 else 0) ==b
 | .int a,.bl b=>a ==(if b then 1 else 0)
 | .int a,.int b=>a ==b
 | .str a,.str b=>a ==b
 |_,_=>false
def SY{A:Around}{s:Shared}{y x:V}{u v:Value}(ry:RelV y u)(rx:RelV x v)(fy:Hm y=true)(fx:Hm x=true):SeqAt.EqAt A s u v (qc y x):=by
 cases y with
 |aJ=>
  cases ry;cases x with
  |aJ=>cases rx;exact SeqAt.EqAt.same _
  |bl b=>cases rx;exact SeqAt.EqAt.none_bool b
  |int b=>obtain⟨t,rfl⟩:=rx;exact SeqAt.EqAt.none_int b t
  |str b=>obtain⟨t,rfl⟩:=rx;exact SeqAt.EqAt.none_str b t
  |_=>exact absurd (show false=true from fx) A6
 |bl a=>
  cases ry;cases x with
  |aJ=>cases rx;exact SeqAt.EqAt.bool_none a
  |bl b=>cases rx;exact SeqAt.EqAt.bool_bool a b
  |int b=>obtain⟨t,rfl⟩:=rx;exact SeqAt.EqAt.bool_int a b t
  |str b=>obtain⟨t,rfl⟩:=rx;exact SeqAt.EqAt.bool_str a b t
  |_=>exact absurd (show false=true from fx) A6
 |int a=>
  obtain⟨t',rfl⟩:=ry;cases x with
  |aJ=>cases rx;exact SeqAt.EqAt.int_none a t'
  |bl b=>cases rx;exact SeqAt.EqAt.int_bool a t' b
  |int b=>obtain⟨t,rfl⟩:=rx;exact SeqAt.EqAt.int_int a t' b t
  |str b=>obtain⟨t,rfl⟩:=rx;exact SeqAt.EqAt.int_str a t' b t
  |_=>exact absurd (show false=true from fx) A6
 |str a=>
  obtain⟨t',rfl⟩:=ry;cases x with
  |aJ=>cases rx;exact SeqAt.EqAt.str_none a t'
  |bl b=>cases rx;exact SeqAt.EqAt.str_bool a t' b
  |int b=>obtain⟨t,rfl⟩:=rx;exact SeqAt.EqAt.str_int a t' b t
  |str b=>obtain⟨t,rfl⟩:=rx;exact SeqAt.EqAt.str_str a t' b t
  |_=>exact absurd (show false=true from fx) A6
 |_=>exact absurd (show false=true from fy) A6
def jq(x:V)(u:Value):Bool:=match u with
 | .none=>qc .aJ x
 | .bool b=>qc (.bl b) x
 | .int i _=>qc (.int i) x
 | .str z _=>qc (.str z) x
 |_=>false
def ET{x y:V}{u:Value}(r:RelV y u)(f:Hm y=true):jq x u=qc y x:=by
 cases y with
 |aJ=>cases r;rfl
 |bl b=>cases r;rfl
 |int i=>obtain⟨t,rfl⟩:=r;rfl
 |str z=>obtain⟨t,rfl⟩:=r;rfl
 |_=>exact absurd (show false=true from f) A6
theorem nK{x:V}:∀{xs:List V} {us:List Value},Vals xs us->xs.all Hm=true->us.any (jq x)=xs.any λy=>qc y x
 |_,_,.nil,_=>rfl
 |y::xs,u::us,.cons r t,f=>by
  rw[X0,C9]at f;rw[Q6,Q6,ET r f.1,nK t f.2]
theorem nY{A:Around}{s:Shared}{x:V}{v:Value}(rx:RelV x v)(fx:Hm x=true):∀{xs:List V} {us:List Value},Vals xs us->xs.all Hm=true->∀u∈us,SeqAt.EqAt A s u v (jq x u)
 |_,_,.nil,_=>λu hu=>by cases hu
 |y::xs,u::us,.cons r t,f=>λu' hu=>by
  rw[X0,C9]at f;rcases B8.mp hu with rfl|hu
  ·rw[ET r f.1];exact SY r rx f.1 fx
  ·exact nY rx fx t f.2 u' hu
def Ng(x:V)(xs:List V):Bool:=xs.any λy=>qc y x
def OG(K:Frag)(neg:Bool):R2:=λx y H Q=>∃p xs,y=.ref p/\(bU K H p xs\/cU K H p xs)/\Hm x=true/\xs.all Hm=true/\Q (.bl (if neg then !Ng x xs else Ng x xs)) H
def Yr:cB X (compareOp .In) (OG X.K false):=by
 intro zd s σ H x y v u Q I rx ry h;obtain⟨p,xs,rfl,hq,fx,fs,q⟩:=h;cases ry;rcases hq with hq|hq
 ·obtain⟨its,r,pl,hz⟩:=I.list hq;refine SeqAt.in_listAt (jq x) pl.isList (λw hw=>nY rx fx r fs w (by simpa using hw)) ⟨.bl _,H,I,rfl, ?_⟩;rw[show its.toArray.any (jq x)=its.any (jq x) by simp,nK r fs];exact q
 ·obtain⟨its,r,pl,hz⟩:=I.tuple hq;refine SeqAt.in_tupleAt (jq x) pl (λw hw=>nY rx fx r fs w (by simpa using hw)) ⟨.bl _,H,I,rfl, ?_⟩;rw[show its.toArray.any (jq x)=its.any (jq x) by simp,nK r fs];exact q
def aan:cB X (compareOp .NotIn) (OG X.K true):=by
 intro zd s σ H x y v u Q I rx ry h;obtain⟨p,xs,rfl,hq,fx,fs,q⟩:=h;cases ry;rcases hq with hq|hq
 ·obtain⟨its,r,pl,hz⟩:=I.list hq;refine SeqAt.notIn_listAt (jq x) pl.isList (λw hw=>nY rx fx r fs w (by simpa using hw)) ⟨.bl _,H,I,rfl, ?_⟩;rw[show its.toArray.any (jq x)=its.any (jq x) by simp,nK r fs];exact q
 ·obtain⟨its,r,pl,hz⟩:=I.tuple hq;refine SeqAt.notIn_tupleAt (jq x) pl (λw hw=>nY rx fx r fs w (by simpa using hw)) ⟨.bl _,H,I,rfl, ?_⟩;rw[show its.toArray.any (jq x)=its.any (jq x) by simp,nK r fs];exact q
def aam:cB X (compareOp .NotIn) (λx y H Q=>∃i j,x=.str i/\y=.str j/\Q (.bl (!(!(Builtin.Str.occurrences j i 0 j.length 1).isEmpty))) H):=by
 intro zd s σ H x y v u Q I rx ry h;obtain⟨i,j,rfl,rfl,q⟩:=h;obtain⟨t,rfl⟩:=rx;obtain⟨t',rfl⟩:=ry;exact notIn_str ⟨.bl _,H,I,rfl,q⟩
def LC:bN X (.builtin "len") (λxs H Q=>∃p ys,xs= [.ref p]/\(bU X.K H p ys\/cU X.K H p ys)/\Q (.int ys.length) H):=by
 intro zd s σ H xs us Q I r h;obtain⟨p,ys,rfl,hq,q⟩:=h;obtain⟨u,rfl,rx⟩:=nj r;cases rx;have hn:=jz;rcases hq with hq|hq
 ·obtain⟨its,r',pl,hz⟩:=I.list hq;have zk:=r'.length;exact Calls.call_len_list pl.isList (by simp only[C7] <;> lia) ⟨.int ys.length,H,I.tok _,⟨s.toks + 1,by rw[C7,zk]⟩,q⟩
 ·obtain⟨its,r',pl,hz⟩:=I.tuple hq;have zk:=r'.length;exact len_tuple pl (by simp only[C7] <;> lia) ⟨.int ys.length,H,I.tok _,⟨s.toks + 1,by rw[C7,zk]⟩,q⟩
def aal:bN X (.builtin "len") (λxs H Q=>∃z,xs= [.str z]/\z.length<=sizeLine/\Q (.int z.length) H):=by
 intro zd s σ H xs us Q I r h;obtain⟨z,rfl,hz,q⟩:=h;obtain⟨u,rfl,t,rfl⟩:=nj r;have hn:=jz;exact len_str () ⟨.int z.length,H,I.tok _,⟨_,rfl⟩,q⟩
def bN.or{f:Value}{r r':List V->Hp->VK->Prop}(h:bN X f r)(h':bN X f r'):bN X f (λxs H Q=>r xs H Q\/r' xs H Q):=by
 intro zd s σ H xs us Q I rs q;rcases q with q|q
 ·exact h zd s σ H xs us Q I rs q
 ·exact h' zd s σ H xs us Q I rs q
def LB:bN X (.type "list") (λxs H Q=>∃p ys,xs= [.ref p]/\(bU X.K H p ys\/cU X.K H p ys)/\∀l,H l=none->Q (.ref l) (upd H l (.lst ys))):=by
 intro zd s σ H xs us Q I r h;obtain⟨p,ys,rfl,hq,q⟩:=h;obtain⟨u,rfl,rx⟩:=nj r;cases rx;have fin:∀(its:List Value),Vals ys its->ys.length<=sizeLine->∀(h':Heap) (c':Nat),(∀b o',s.heap.get? b=some o'->h'.get? b=some o')->
   h'.get? s.heap.objs.size=some {cls:=.type "list",dict:=none,data:=.seq its.toArray c',slots:= #[]}->EP X zd σ Q (.ref s.heap.objs.size) {s with heap:=h'}:=λits r' hz h' c' kp e=>
  ⟨.ref s.heap.objs.size,_,I.laid (t':=s.toks) kp (A9 _) (show aY X.prog X.w _ h' _ (.lst ys) from⟨hz,its,c',r',e⟩),rfl,q _ (I.aN.fresh (A9 _))⟩
 rcases hq with hq|hq
 ·obtain⟨its,r',pl,hz⟩:=I.list hq;have zk:=r'.length;obtain⟨o,ho,hc,n,hd⟩:=pl.isList;exact call_list_seq p (.inl rfl) ho hc hd (λh' c' kp e=>fin its r' hz h' c' kp e) (by simp only[C7] <;> lia)
 ·obtain⟨its,r',pl,hz⟩:=I.tuple hq;have zk:=r'.length;obtain⟨o,ho,hc,n,hd⟩:=pl;exact call_list_seq p (.inr rfl) ho hc hd (λh' c' kp e=>fin its r' hz h' c' kp e) (by simp only[C7] <;> lia)
def yT(K:Frag)(T:String)(x:V)(H:Hp):Prop:=match x with
 | .str _=>T= "str"
 | .int _=>T= "int"
 | .ref p=>(T= "list" /\∃xs,bU K H p xs)\/(T= "tuple" /\∃o,K.lookup p=some o/\o.cls=.type "tuple" /\o.dict=none)\/
   (T= "dict" /\((∃kvs,H p=some (.dK kvs))\/∃kvs,H p=some (.dT kvs)))\/(T= "set" /\∃S n,H p=some (.set S n))
 |_=>False
def ES{zd:AE}{σ:St}{H:Hp}{s:Shared}{T:String}{x:V}{v:Value}(I:Inv X zd σ H s)(r:RelV x v)(ty:yT X.K T x H):
  s.TypeIs v T/\∀a,v=.ref a->∃ob,s.heap.get? a=some ob/\ob.dict=none:=by
 cases x with
 |str z=>
  obtain⟨t,rfl⟩:=r;cases(show T= "str" from ty);exact⟨typeIs_str s z t,λ_ e=>nomatch e⟩
 |int i=>
  obtain⟨t,rfl⟩:=r;cases(show T= "int" from ty);exact⟨typeIs_int s i t,λ_ e=>nomatch e⟩
 |ref p=>
  cases r;rcases ty with⟨rfl,xs,hq⟩|⟨rfl,o,hk,hc,hd⟩|⟨rfl,hk⟩|⟨rfl,S,n,hk⟩
  ·obtain⟨its,_,pl,_⟩:=I.list hq;refine⟨pl.isList.typeIs,λa e=> ?_⟩;cases e;obtain⟨o,n,e,c,hd,_⟩:=pl;exact⟨o,e,hd⟩
  ·refine⟨⟨o,I.bY p o hk,hc⟩,λa e=> ?_⟩;cases e;exact⟨o,I.bY _ o hk,hd⟩
  ·have z:∃o,s.heap.get? p=some o/\o.ExactDict:=by
    rcases hk with⟨kvs,hk⟩|⟨kvs,hk⟩
    ·obtain⟨_,_,_,_,o,_,_,e,ex,_⟩:=I.aN p _ hk;exact⟨o,e,ex⟩
    ·obtain⟨_,_,_,_,o,_,_,e,ex,_⟩:=I.aN p _ hk;exact⟨o,e,ex⟩
   obtain⟨o,e,ex⟩:=z;refine⟨⟨o,e,ex.1⟩,λa e2=> ?_⟩;cases e2;exact⟨o,e,ex.2.1⟩
  ·obtain⟨o,_,_,_,e,ex,_⟩:=I.aN p _ hk;refine⟨⟨o,e,ex.1⟩,λa e2=> ?_⟩;cases e2;exact⟨o,e,ex.2.1⟩
 |_=>exact False.elim ty
def QR(K:Frag)(T:String)(r:V->List V->Hp->VK->Prop)(to:TE):TE:=λ σ H Q=>to σ H λx H1=>yT K T x H1/\r x [] H1 Q
def tBM(K:Frag)(T:String)(r:V->List V->Hp->VK->Prop)(to:TE)(t:TA):TE:=λ σ H Q=>to σ H λx H1=>yT K T x H1/\t σ H1 λxs H2=>r x xs H2 Q
variable{o e:Expr}{es:List Expr}{to:TE}{t:TA}{name:Str}{zh zf:Pos}{T id:String}{r:V->List V->Hp->VK->Prop}
def SX(pa:PlainAttrs T)(slot:Slot T name id)(zO:typeOf (.builtin id)=pure (.type "method_descriptor"))(hm:uN X id r)(ho:PE X o to)
  (ae:attributeBase o name X.env (eval o X.env)=eval o X.env:=by rfl) (af:(zh.endLine ==zf.line)=true:=by rfl):PE X (.Call (.Attribute o name zh) [] [] zf) (QR X.K T r to):=by
 intro zd s σ H Q I h;refine wpAny_Call_method0_late ae af (Bg (ho zd s σ H _ I h) λv s1 ⟨x,H1,I1,r1,ty,q1⟩=> ?_);obtain⟨h1,h2⟩:=ES I1 r1 ty;exact⟨T,id,pa,slot,zO,h1,h2,R8 rfl (PySem.evalArgs_none (hm zd s1 σ H1 x [] v [] Q I1 r1 .nil q1))⟩
def qC(pa:PlainAttrs T)(slot:Slot T name id)(zO:typeOf (.builtin id)=pure (.type "method_descriptor"))(hm:uN X id r)(ho:PE X o to)(ha:PA X (e::es) t)
  (ae:attributeBase o name X.env (eval o X.env)=eval o X.env:=by rfl)
  (bb:((backTo zf (starEach (e::es) X.env)).all (λx=> !x.1) && (backToKw zf (keywordEach [] X.env)).all (λx=>x.1.isSome)
   && decide ((e::es).length + ([]:List Keyword).length + (if([]:List Keyword).isEmpty then 0 else 1) < 30))=true:=by rfl)
  (af:(zh.endLine ==zf.line)=true:=by rfl) (hs:starEach (e::es) X.env=(false,eval e X.env)::starEach es X.env:=by rfl) (aa:(backTo zf (starEach es X.env)).any (·.1)=false:=by rfl):
  PE X (.Call (.Attribute o name zh) (e::es) [] zf) (tBM X.K T r to t):=by
 intro zd s σ H Q I h;refine wpAny_Call_method_late ae bb af rfl (Bg (ho zd s σ H _ I h) λv s1 ⟨x,H1,I1,r1,ty,q1⟩=> ?_);obtain⟨h1,h2⟩:=ES I1 r1 ty;refine⟨T,id,pa,slot,zO,h1,h2, ?_⟩;have hA:=ha zf zd s1 σ H1 _ I1 q1;rw[hs]at hA⊢;refine R8 (by show(false || (backTo zf (starEach es X.env)).any (·.1))=false;rw[aa] <;> rfl) (X2 ?_);exact Bg hA λus s2 ⟨vs,H2,I2,r2,q2⟩=>hm zd s2 σ H2 x vs v us Q I2 r1 r2 q2
end
def MtM(X:Cx)(id:String)(r:V->List V->Hp->VK->Prop):Prop:=
 ∀(zd:AE) (s:Shared) (σ:St) (H:Hp) (x:V) (xs:List V) (v:Value) (us:List Value) (Q:VK),Inv X zd σ H s->RelV x v->Vals xs us->r x xs H Q->
  wpAny (model X.prog X.w) X.A (call (.builtin id) (v::us)) (EP X zd σ Q) X.xe s
def Vals.one:∀{x:V} {us:List Value},Vals [x] us->∃u,us= [u]/\RelV x u
 |_,_,.cons r .nil=>⟨_,rfl,r⟩
def Vals.two{x y:V}{us:List Value}(h:Vals [x,y] us):∃u v,us= [u,v]/\RelV x u/\RelV y v:=by
 cases h with
 |cons r t=>
  cases t with
  |cons q t=>
   cases t;exact⟨_,_,rfl,r,q⟩
def Vals.zero:∀{us:List Value},Vals [] us->us= []
 |_,.nil=>rfl
theorem Vals.dropLast{xs:List V}{us:List Value}(h:Vals xs us):Vals xs.dropLast us.dropLast:=by
 induction h with
 |nil=>exact .nil
 |cons r t ih=>
  cases t with
  |nil=>exact .nil
  |cons q t'=>exact .cons r ih
theorem Vals.eraseIdx:∀{xs:List V} {us:List Value} (i:Nat),Vals xs us->Vals (xs.eraseIdx i) (us.eraseIdx i)
 |_,_,_,.nil=> .nil
 |_,_,0,.cons _ t=>t
 |_,_,i + 1,.cons r t=> .cons r (Vals.eraseIdx i t)
theorem Vals.reverse{xs:List V}{us:List Value}(h:Vals xs us):Vals xs.reverse us.reverse:=by
 induction h with
 |nil=>exact .nil
 |cons r t ih=>rw[List.reverse_cons,List.reverse_cons];exact Vals.append ih (.cons r .nil)
theorem Vals.rep{xs:List V}{us:List Value}(h:Vals xs us):∀k:Nat,Vals (List.replicate k xs).flatten (List.replicate k us).flatten
 |0=> .nil
 |k + 1=>by
  rw[M6,M6,Q1,Q1];exact Vals.append h (Vals.rep h k)
def Zi{α:Type}(l:List α):l.eraseIdx (l.length - 1)=l.dropLast:=by
 induction l with
 |nil=>rfl
 |cons a r ih=>
  cases r with
  |nil=>rfl
  |cons b r=>
   have e:(a::b::r).length - 1=((b::r).length - 1) + 1:=by
    have h1:(a::b::r).length=r.length + 2:=rfl;have h2:(b::r).length=r.length + 1:=rfl;lia
   rw[e,List.eraseIdx_cons_succ,ih]
   all_goals rfl
theorem JP(its:List Value):∀(k:Nat) (zn:List Value),
  List.foldl (λx1 x2=>x1 ++ x2) zn.toArray (List.replicate k its.toArray)=(zn ++ (List.replicate k its).flatten).toArray
 |0,zn=>by simp
 |k + 1,zn=>by
  have e:zn.toArray ++ its.toArray=(zn ++ its).toArray:=by simp
  have e2:(zn ++ its) ++ (List.replicate k its).flatten=zn ++ (List.replicate (k + 1) its).flatten:=by
   rw[M6,Q1,K9]
  rw[<-e2,<-JP its k (zn ++ its),<-e,M6,Qu]
section
variable{X:Cx}{zd:AE}{σ:St}{H:Hp}{s:Shared}{l b:Addr}{xs ys zs:List V}
def Inv.CT{its its':List Value}{n:Nat}{f:Array Value->Array Value}{t':Nat}(I:Inv X zd σ H s)(hH:H l=some (.lst xs))
  (e:s.heap.get? l=some {cls:=.type "list",data:=.seq its.toArray n}) (hf:f its.toArray=its'.toArray) (hv:Vals ys its') (hz:ys.length<=sizeLine):
  Inv X zd σ (upd H l (.lst ys)) {s with heap:=s.heap.update l (Obj.mapSeq f),toks:=t'}:=by
 have q:=PySem.IsL.update e f;rw[hf]at q;refine I.write (x:=l) (e:=l) (by rw[hH];exact trivial) (.inl rfl) (λb' u hb hu=>(K1 s.heap (Obj.mapSeq f) (Ne.symm hb)).trans hu) ⟨_,q⟩ ?_;exact⟨hz,its',_,hv,q⟩
def Inv.qr{its:List Value}{t':Nat}(I:Inv X zd σ H s)(hv:Vals ys its)(hz:ys.length<=sizeLine):
  Inv X zd σ (upd H s.heap.objs.size (.lst ys)) {s with heap:=s.heap.push {cls:=.type "list",data:=.seq its.toArray},toks:=t'}:=
 I.laid (λ_ _ q=>A5 _ q) (A9 _) ⟨hz,its,0,hv,C5 _ rfl⟩
theorem Inv.fresh(I:Inv X zd σ H s):H s.heap.objs.size=none:=I.aN.fresh (A9 _)
def Inv.uX(I:Inv X zd σ H s)(hH:H l=some (.lst xs)):xs.length<=sizeLine/\∃(its:List Value) (n:Nat),Vals xs its/\xs.length=its.length/\s.heap.get? l=some {cls:=.type "list",data:=.seq its.toArray n}:=by
 obtain⟨z,its,n,r,e⟩:=I.aN l _ hH;exact⟨z,its,n,r,r.length,e⟩
def Xb{n:Nat}(h:n<=sizeLine):Builtin.List.listTooLong n=false:=by
 unfold Builtin.List.listTooLong;exact K2 ()
end
section
variable{X:Cx}
def vZ:V->List V->Hp->VK->Prop:=λx vs H Q=>∃l xs y,x=.ref l/\vs= [y]/\H l=some (.lst xs)/\xs.length < sizeLine/\Q .aJ (upd H l (.lst (xs ++ [y])))
def oh:MtM X "list.append" vZ:=by
 intro zd s σ H x vs v us Q I rx rv h;obtain⟨l,xs,y,rfl,rfl,hH,hz,q⟩:=h;cases rx;obtain⟨u,rfl,ru⟩:=rv.one;obtain⟨z,its,n,r,hl,e⟩:=I.uX hH;refine NQ F.slot_list_append ⟨_,e,rfl⟩ F.entry_list_append (F.args_list_append_2 _ _) (PySem.list_append l its.toArray n u (by rw[C7];lia)) ⟨e, ?_⟩;refine⟨.aJ,_,I.CT (its':=its ++ [u]) hH e (by simp) (r.append (.cons ru .nil)) ?_,rfl,q⟩;rw[A7,M7];lia
def QW:V->List V->Hp->VK->Prop:=λx vs H Q=>∃l xs y,x=.ref l/\vs= []/\H l=some (.lst xs)/\xs[xs.length - 1]? =some y/\Q y (upd H l (.lst xs.dropLast))
def SW:MtM X "list.pop" QW:=by
 intro zd s σ H x vs v us Q I rx rv h;obtain⟨l,xs,y,rfl,rfl,hH,hy,q⟩:=h;cases rx;have Nj:=rv.zero;subst Nj;obtain⟨z,its,n,r,hl,e⟩:=I.uX hH;obtain⟨u,hu,ru⟩:=r.get hy;have OO:its.toArray[its.toArray.size - 1]? =some u:=by
  show its.toArray[its.length - 1]? =some u;rw[<-S5,<-hl];exact hu
 refine NQ F.slot_list_pop ⟨_,e,rfl⟩ F.entry_list_pop (F.args_list_pop_1 _) (MeetsSeq.list_pop_last l its.toArray n u OO (by rw[C7];lia)) ⟨e, ?_⟩;refine⟨y,_,I.CT (its':=its.dropLast) hH e ?_ r.dropLast ?_,ru,q⟩
 ·show its.toArray.eraseIdxIfInBounds (its.toArray.size - 1)=its.dropLast.toArray;rw[C7,List.eraseIdxIfInBounds_toArray,Zi]
 ·rw[List.length_dropLast];lia
def QV:R2:=λx y H Q=>∃l k xs,x=.ref l/\y=.int k/\H l=some (.lst xs)/\ -(2 ^ 63)<=k/\k < 2 ^ 63/\xs.length * k.toNat<=sizeLine/\
 ∀p,H p=none->Q (.ref p) (upd H p (.lst (List.replicate k.toNat xs).flatten))
def Vl{α:Type}(xs:List α)(k:Nat):(List.replicate k xs).flatten.length=k * xs.length:=by
 induction k with
 |zero=>simp
 |succ k ih=>rw[M6,Q1,A7,ih,Nat.succ_mul,Nat.add_comm]
def SV:cB X (binaryOp .Mult) QV:=by
 intro zd s σ H x y v u Q I rx ry h;obtain⟨l,k,xs,rfl,rfl,hH,h1,h2,hz,q⟩:=h;cases rx;obtain⟨t,rfl⟩:=ry;obtain⟨z,its,n,r,hl,e⟩:=I.uX hH;have zk:its.toArray.size * k.toNat<=sizeLine:=by rw[C7,<-hl];exact hz
 have iy:¬its.toArray.size * k.toNat > (2 ^ 63 - 1) / 8:=by
  have:(sizeLine:Nat)<=(2 ^ 63 - 1) / 8:=by decide
  lia
 have az:¬(!Builtin.List.listFitsIndex k)=true:=by
  rw[fitsIndex_both h1 h2];exact A6
 have dk:¬Builtin.List.listTooLong (its.toArray.size * k.toNat)=true:=by
  rw[Xb zk];exact A6
 have je:List.foldl (λx1 x2=>x1 ++ x2) #[] (List.replicate (if its.toArray.isEmpty=true then 0 else k.toNat) its.toArray)=(List.replicate k.toNat its).flatten.toArray:=by
  have f0:∀m:Nat,List.foldl (λx1 x2=>x1 ++ x2) #[] (List.replicate m its.toArray)=(List.replicate m its).flatten.toArray:=λm=>by
   have:=JP its m [];rw[O5]at this;exact this
  rw[f0];cases its with
  |nil=>simp
  |cons a r'=>rw[if_neg (by simp)]
 refine wpAny_binaryOp_repeat_ref (T:= "list") (U:= "int") ⋯ ⟨_,e,rfl⟩ (λs'=>typeIs_int s' k t) noFill_list_mul F.fills_int_mul F.slot_int_rmul repeat_list F.slot_int_index.lookup
  (NQ F.slot_int_rmul (typeIs_int s k t) F.entry_int_rmul (F.args_int_rmul_2 _ _) (int___rmul___int_list k t l its.toArray n)
   ⟨e,rfl,⟨_,e,rfl⟩,NQ F.slot_list_mul ⟨_,e,rfl⟩ F.entry_list_mul (F.args_list_mul_2 _ _) (AutoListH.list___mul___list_int_3 l its.toArray n k t az iy dk) ⟨e, ?_⟩⟩)
 rw[je];exact⟨.ref _,_,I.qr (t':=s.toks) (r.rep k.toNat) (by rw[Vl,Nat.mul_comm];exact hz),rfl,q _ I.fresh⟩
end
section
variable{prog:Program}{w:World}{A:Around}{E:AA}{s:Shared}
end
section
variable{X:Cx}
end
end L2
namespace Att
open PySem PySem.W PySem.Calls PyProof.Rows
def aaP{P:Params}{h:Heap}:∀(ns:List Int) (vs:List Value),WellAll P h vs (ns.map WData.int)->IntsAre vs ns:=by
 intro ns
 induction ns with
 |nil=>
  intro vs w;rw[O0]at w;cases w;exact .nil
 |cons n ns ih=>
  intro vs w;rw[B1]at w;cases w with
  |cons a b=>
   cases a;exact .cons _ _ (ih _ b)
def Yq{l:OpenLaw}{n:Nat}(hn:l.most=some n){P:Params}{h:Heap}{args:List WData}{vals:List Value}
  (cq:l.row.toRowW.claim.pre args=true) (OR:WellAll P h vals args):
  ∃a vs ns,vals= [Value.ref a]/\args= [WData.list (ns.map WData.int)]/\h.get? a=some {cls:=.type "list",data:=.seq vs.toArray}/\IntsAre vs ns/\ns.length<=n:=by
 have hsh:WShape.hasAll [] args [.list .int]=true:=(pre_splitW cq).1;have hc:l.pre.holds [] {args:=args}=true:=(pre_splitW cq).2;obtain⟨d,r,rfl,h1,h2⟩:=hasAllW_cons hsh;obtain rfl:=hasAllW_nil h2;obtain⟨xs,rfl,h3⟩:=hasW_list h1;obtain⟨ns,rfl⟩:=items_int h3;have zk:ns.length<=n:=by
  unfold OpenLaw.pre at hc;have h4:(WTm.not (.lt (.lit (.int (n:Int))) (.len (.arg 0)))).holds [] {args:=[.list (ns.map .int)]}=true:=by
   have h4:=(holds_andW hc).1;rw[hn]at h4;exact h4
  have h5:=condW_of h4 (w_not (w_lt w_lit (w_len_list (w_arg rfl))));rw[A3]at h5;refine Nat.le_of_not_lt λq=> ?_;have q':(n:Int) < ((ns.length:Nat):Int):=by lia
  first
   |(rw[E8 q']at h5;exact absurd h5 ⋯)
   |(simp at h5;lia)
 cases OR with
 |cons w1 w2=>
  cases w2;cases w1 with
  |list ho cg=>exact⟨_,_,ns,rfl,rfl,ho,aaP ns _ cg,zk⟩
def Yp(l:OpenLaw)(args:List WData):l.row.toRowW.claim.post args (.bool true) args=true:=
 postW_of (r:=l.row.toRowW) (X:=(true ==true))
  (show WShape.has [] (.bool true) .bool=true by first|rfl|decide|simp[WShape.has,WShape.arms,WShape.armsAll])
  (show(WTm.eq .res (.lit (.bool true))).value [] {args:=args,res:=some (.bool true),after:=args}=some (.bool (true ==true)) from w_eq_bool (w_res rfl) w_lit) rfl
def iE{l:OpenLaw}{n:Nat}{q:Program}{loose:List Str}{XP:(AB)->Heap->Prop}{YP:World->Heap->Prop}{d:DefRec}
  (hn:l.most=some n) (AN:d.params.defaults= [])
  (call:∀(w:World) (s₀ s₁:Shared) (mg mb:AB) (fa:Addr) (o:Obj) (pm cd doc:Value) (a:Addr) (vs:List Value) (ns:List Int),
   Ground q loose [] XP w s₀ mg mb s₁.heap->YP w s₁.heap->
   s₁.heap.get? fa=some o->o.data=.func (docDef d.name d.params d.body d.scope pm cd doc)->s₁.heap.CodeRec cd d.name->mg d.name=some (.ref fa)->
   s₁.heap.get? a=some {cls:=.type "list",data:=.seq vs.toArray}->IntsAre vs ns->ns.length<=n->s₁.gens= #[]->
   codeAny (model l.prog w) callerA (.call (.ref fa) ⟨[.ref a],[]⟩) (λr s'=>r=.ok (.ret (.bool true))/\OldK s₁.heap s'.heap/\s'.os=s₁.os/\AllBare s'.gens) s₁):
  WalkO q loose XP YP l.row.toRowW d [] (λf vs=>PySem.call f vs):=by
 intro w s₀ s₁ mg mb G Y fa o pm cd doc dV kV ho hd bT hD AJ hg args vals as cq abt hrd OR hlo;obtain rfl:dV=.none:=Dflts.none hD AN;obtain rfl:kV=.none:=Dflts.noKw hD;obtain⟨a,vs,ns,rfl,rfl,bu,hints,zk⟩:=Yq hn cq OR;refine enter_call (R9 (call w s₀ s₁ mg mb fa o pm cd doc a vs ns G Y ho (fd_plain hd) bT AJ bu hints zk hg) λr s' hq=> ?_);obtain⟨rfl,h2,h3,h4⟩:=hq;exact⟨.inl ⟨.bool true,.bool true,[],rfl,λ_=>rfl,.bool true,Yp l _,λ_=>⟨List.Pairwise.nil,λ_ hm=>(nomatch hm)⟩⟩,h2,h3,h4⟩
section
variable{prog:Program}{w:World}{A:Around}{E:AA}{s:Shared}{K:Frag}
end
end Att
namespace L2
open PySem PySem.Spec PyProof.Rows
theorem JO:∀{vs:List Value} {ns:List Int},IntsAre vs ns->Vals (ns.map V.int) vs
 |_,_,.nil=> .nil
 |_,_,.cons n t h=> .cons ⟨t,rfl⟩ (JO h)
def xT(H:Hp):Prop:=∀b,H b=none\/(∃o xs,H b=some (.cS o (.lst xs)))\/H b=some (.jN #[])
def Xa{P:Program}{w:World}{K:Frag}{mg mb:AB}{CX:pA}{k:Nat}{fa a:Addr}{fd:FuncData}{x:Str}{sp:Sp}{s₁:Shared}{vs:List Value}{ns:List Int}
  (KX:K.In s₁.heap) (zV:s₁.heap.Ns mainGlobals mg) (hb:s₁.heap.Ns builtinsNs mb) (hbb:∀x:Str,x≠ "__name__" ->mb x=bootBuiltins x) (jg:s₁.heap.NoLimit) (hg:s₁.gens= #[])
  (ha:s₁.heap.get? a=some {cls:=.type "list",data:=.seq vs.toArray}) (hi:IntsAre vs ns) (hl:ns.length<=sizeLine) (hr:dX k callerA) (hbm:∃bm o,mg "__builtins__" =some (.ref bm)/\bm≠builtinsNs/\s₁.heap.get? bm=some o/\o.cls=.type "module" /\o.dict=some builtinsNs/\o.data=.plain) (hT:∀c P,PySem.W.tabIn K "numbers_by_bucket" =some (c,P)->isCodeTable s₁.heap P/\s₁.heap.get? P=some {cls:=.none,data:=.fields #[]}/\K.lookup P=none)
  (F:∀base:Heap,K.In base->base.Ns mainGlobals mg->oq P w K mg base CX k fa fd [x] sp) (aq:∀(s:Shared) (u:Value),BindsTo s fd ⟨[u],[]⟩ [(x,u)])
  (sJ:∀H:Hp,xT H->bU K H a (ns.map V.int)->sp [.ref a] H (λv _=>v=.bl true) λ_ _ _=>False)
  (Py:∀H e s',CX [] H s₁ (λ_ _ _=>False) e s'->False):
  codeAny (model P w) callerA (.call (.ref fa) ⟨[.ref a],[]⟩) (λr s'=>r=.ok (.ret (.bool true))/\OldK s₁.heap s'.heap/\s'.os=s₁.os/\AllBare s'.gens) s₁:=by
 have rv:=JO hi;have ip:=hi.length
 
 have core:∀H:Hp,xT H->bU K H a (ns.map V.int)->cH P w H s₁.heap->(∀b,H b≠none->b=a\/(H b=some (.jN #[])/\isCodeTable s₁.heap b/\s₁.heap.get? b=some {cls:=.none,data:=.fields #[]}/\K.lookup b=none))->(H a≠none->K.lookup a=none)->oi K H->
   codeAny (model P w) callerA (.call (.ref fa) ⟨[.ref a],[]⟩) (λr s'=>r=.ok (.ret (.bool true))/\OldK s₁.heap s'.heap/\s'.os=s₁.os/\AllBare s'.gens) s₁:=by
  intro H hO hS aN hA hK hTH;have ao:∀{b:Addr} {o:Obj},s₁.heap.get? b=some o->H b=none->(eN s₁.heap H).get? b=some o:=λe n=>Xl e n;have zE:∀{b:Addr} {o:Obj} {es:Array DictEntry} {ep:Nat},s₁.heap.get? b=some o->o.data=.dict es ep->H b=none:=λ{b o es ep} e d=>by
   cases q:H b with
   |none=>rfl
   |some u=>
    rcases hA b (by rw[q];simp) with e'|⟨_,_,e',_⟩
    ·subst e';rw[ha]at e;cases e;have d':Data.seq vs.toArray _=Data.dict es ep:=d;cases d'
    ·rw[e']at e;cases e;have d':Data.fields #[]=Data.dict es ep:=d;cases d'
  have Na:∀{b:Addr} {m:AB},s₁.heap.Ns b m->(eN s₁.heap H).Ns b m:=λ{b m} ⟨o,es,ep,e,d,r⟩=>⟨o,es,ep,ao e (zE e d),d,r⟩;have hKb:K.In (eN s₁.heap H):=λb o e=>ao (KX b o e) (by
   cases q:H b with
   |none=>rfl
   |some u=>
    rcases hA b (by rw[q];simp) with e'|⟨_,_,_,e'⟩
    ·subst e';rw[hK (by rw[q];simp)]at e;cases e
    ·rw[e']at e;cases e)
  have hM:Mod K mg (eN s₁.heap H):=⟨hKb,Na zV,⟨mb,Na hb,hbb⟩,let⟨mc,h1,h2⟩:=jg;⟨mc,Na h1,h2⟩,let⟨bm,o,b1,b2,b3,b4,b5,b6⟩:=hbm;⟨bm,o,b1,b2,ao b3 (by
   cases q:H bm with
   |none=>rfl
   |some u=>
    rcases hA bm (by rw[q];simp) with e'|⟨_,_,e',_⟩
    ·subst e';rw[ha]at b3;cases b3;have d':Data.seq vs.toArray _=Data.plain:=b6;cases d'
    ·rw[e']at b3;cases b3;have d':Data.fields #[]=Data.plain:=b6;cases d'),b4,b5,b6⟩⟩
  have e0:dA P w K mg (eN s₁.heap H) callerA [] s₁ H:=⟨rfl,hM,λb o e=>Vv e,O6 (YA _ _),trivial,λb hb=>absurd (show b∈([]:List Addr) from hb) (by simp),aN,.of_eq hg,hTH⟩;refine R9 ((F _ hKb (Na zV)).run callerA [] s₁ H ⟨[.ref a],[]⟩ [.ref a] [.ref a] _ _ hr e0 (aq s₁ (.ref a)) (.cons rfl .nil) (sJ H hO hS)) λr s' h=> ?_;cases r with
  |error e=>exact(Py H e s' h).elim
  |ok fl=>
   cases fl with
   |next=>exact False.elim h
   |brk=>exact False.elim h
   |cont=>exact False.elim h
   |ret u=>
    obtain⟨v,H',os,bare,un,eg,r',q⟩:=h;have q':v=.bl true:=q;subst q';obtain rfl:u=Value.bool true:=r';have old:∀b o,s₁.heap.get? b=some o->s'.heap.get? b=some o\/(isCodeTable s₁.heap b/\o={cls:=.none,data:=.fields #[]}/\∃vs,s'.heap.get? b=some {cls:=.none,data:=.fields vs}):=λb o e=>by
     cases q:H b with
     |none=>exact .inl (un.keep b o e q (by intro z;exact absurd (show b∈([]:List Addr) from z) (by simp)) (by simp))
     |some u=>
      rcases hO b with z|⟨ob,xs,z⟩|z
      ·rw[q]at z;cases z
      ·have z2:=un.cK b ob _ z;obtain⟨e1,_⟩:=aN b _ z;obtain⟨e2,_⟩:=eg b _ z2;rw[e]at e1;cases e1;exact .inl e2
      ·obtain⟨m,z2⟩:=un.cC b _ z;obtain⟨vs,e2,_⟩:=eg b _ z2;rcases hA b (by rw[q];simp) with e'|⟨_,c,e',_⟩
       ·subst e';obtain⟨_,e3,_⟩:=aN b _ z;rw[ha]at e3;cases e3
       ·rw[e]at e';cases e';exact .inr ⟨c,rfl,vs,e2⟩
    refine⟨rfl,⟨λb o e=> ?_,λb o e=> ?_⟩,os,bare⟩
    ·rcases old b o e with z|⟨c,rfl,vs,z⟩
     ·exact .inl z
     ·exact .inr (.inl ⟨c,rfl, #[],vs,rfl,by rw[z];simp⟩)
    ·rcases old b o e with z|⟨_,_,vs,z⟩
     ·exact⟨o,z⟩
     ·exact⟨_,z⟩
 have tr:TriplesOk (#[]:Array Value).toList:=trivial;have fh:∀(H:Hp) (b:Addr),s₁.heap.get? b=some {cls:=.none,data:=.fields #[]}->aY P w H s₁.heap b (.jN #[]):=λH b e=>⟨#[],e,tr,λpos cv q=>by simp[codeAmong]at q⟩
 
 let HT:Hp:=λb=>match PySem.W.tabIn K "numbers_by_bucket" with
  |some (_,P)=>if b=P then some (.jN #[]) else none
  |none=>none
 have yF:∀b u,HT b=some u->u=.jN #[]/\isCodeTable s₁.heap b/\s₁.heap.get? b=some {cls:=.none,data:=.fields #[]}/\K.lookup b=none:=λb u z=>by
  dsimp only[HT]at z;cases q:PySem.W.tabIn K "numbers_by_bucket" with
  |none=>rw[q]at z;cases z
  |some cp=>
   obtain⟨c,p⟩:=cp;rw[q]at z;dsimp only at z
   split at z
   ·rename_i hb;cases z;subst hb;exact⟨rfl,hT c b q⟩
   ·cases z
 have bo:oi K HT:=λc p e=>⟨#[],by dsimp only[HT];rw[e];dsimp only;rw[if_pos rfl]⟩;have neA:∀b,HT b≠none->b≠a:=λb z e=>by
  cases q:HT b with
  |none=>exact z q
  |some u=>
   have:=(yF b u q).2.2.1;rw[e,ha]at this;cases this
 have bx:∀b,HT b=none\/HT b=some (.jN #[]):=λb=>by
  cases q:HT b with
  |none=>exact .inl rfl
  |some u=>rw[(yF b u q).1];exact .inr rfl
 cases hk:K.lookup a with
 |some o=>
  have e:=KX a o hk;rw[ha]at e;cases e;refine core HT (λb=>(bx b).imp_right .inr) (.inr ⟨_,vs.toArray,_,hk,rfl,rfl,rfl,by rw[C7,ip];exact hl,by simpa using rv⟩) (λb u z=> ?_) (λb z=> ?_) (λz=>absurd rfl (neA a z)) bo
  ·obtain⟨rfl,_,e,_⟩:=yF b u z;exact fh _ _ e
  ·cases q:HT b with
   |none=>exact absurd q z
   |some u=>obtain⟨rfl,r⟩:=yF b u q;exact .inr ⟨rfl,r⟩
 |none=>
  refine core (λb=>if b=a then some (.cS {cls:=.type "list",data:=.seq vs.toArray} (.lst (ns.map V.int))) else HT b) (λb=> ?_) (.inl (.inr ⟨{cls:=.type "list",data:=.seq vs.toArray},if_pos rfl⟩)) (λb u z=> ?_) (λb z=> ?_) (λ_=>hk) λc p e=> ?_
  ·by_cases hb:b=a
   ·exact .inr (.inl ⟨_,_,if_pos hb⟩)
   ·rcases bx b with z|z
    ·exact .inl ((if_neg hb).trans z)
    ·exact .inr (.inr ((if_neg hb).trans z))
  ·by_cases hb:b=a
   ·have z':=(if_pos hb).symm.trans z;cases z';subst hb;exact⟨ha,by rw[A3];exact hl,vs,_,rv,ha⟩
   ·have z':=(if_neg hb).symm.trans z;obtain⟨rfl,_,e,_⟩:=yF b u z';exact fh _ _ e
  ·by_cases hb:b=a
   ·exact .inl hb
   ·have z':HT b≠none:=λq=>z ((if_neg hb).trans q);cases q:HT b with
    |none=>exact absurd q z'
    |some u=>obtain⟨rfl,r⟩:=yF b u q;exact .inr ⟨if_neg hb,r⟩
  ·obtain⟨ps,z⟩:=bo c p e;exact⟨ps,(if_neg (neA p (by rw[z];simp))).trans z⟩
def Vk{l:PySem.W.OpenLaw}{n k:Nat}{q:Program}{loose:List Str}{XP:(AB)->Heap->Prop}{YP:World->Heap->Prop}{d:DefRec}{K:Params->Frag}{CX:World->pA}{sp:World->Sp}{x:Str}
  (hn:l.most=some n) (Np:n<=sizeLine) (AN:d.params.defaults= []) (hr:dX k callerA)
  (hY:∀(w:World) (h:Heap),YP w h->(K w.params).In h) (hT:∀(w:World) (h:Heap),YP w h->∀c P,PySem.W.tabIn (K w.params) "numbers_by_bucket" =some (c,P)->isCodeTable h P/\h.get? P=some {cls:=.none,data:=.fields #[]}/\(K w.params).lookup P=none)
  (F:∀(w:World) (mg:AB) (fa:Addr) (h:Heap),(K w.params).In h->h.Ns mainGlobals mg->mg d.name=some (.ref fa)->
   ∃fd:FuncData,(∀(s:Shared) (u:Value),BindsTo s fd ⟨[u],[]⟩ [(x,u)])/\
    ∀base:Heap,(K w.params).In base->base.Ns mainGlobals mg->oq l.prog w (K w.params) mg base (CX w) k fa fd [x] (sp w))
  (sJ:∀(w:World) (H:Hp) (a:Addr) (ns:List Int),ns.length<=n->xT H->bU (K w.params) H a (ns.map V.int)->sp w [.ref a] H (λv _=>v=.bl true) λ_ _ _=>False)
  (Py:∀(w:World) (H:Hp) (s:Shared) (e:Value) (s':Shared),CX w [] H s (λ_ _ _=>False) e s'->False):
  PySem.W.WalkO q loose XP YP l.row.toRowW d [] (λf vs=>PySem.call f vs):=by
 refine Att.iE hn AN λw s₀ s₁ mg mb fa o pm cd doc a vs ns G Y ho hd bT AJ bu hints zk hg=> ?_;have KX:=hY w _ Y;obtain⟨fd,hb,hF⟩:=F w mg fa _ KX G.T.g AJ;exact Xa KX G.T.g G.T.b G.T.builtins G.T.nolimit hg bu hints (D4 zk Np) hr G.T.bmain (hT w _ Y) hF hb (λH hO hS=>sJ w H a ns zk hO hS) λH e s'=>Py w H s₁ e s'
noncomputable def iV(s:Stmt):Arguments:=match s with
 | .FunctionDef _ a _ _ _ _ _ _ _ _=>a
 |_=>{posonlyargs:=[],args:=[],vararg:=none,kwonlyargs:=[],kw_defaults:=[],kwarg:=none,defaults:=[]}
def Gk(s:Stmt):List Stmt:=match s with
 | .FunctionDef _ _ b _ _ _ _ _ _ _=>b
 |_=> []
def Cr(s:Stmt):Scope:=match s with
 | .FunctionDef _ _ _ _ _ _ sc _ _ _=>sc
 |_=>{kind:=.function,names:=[],isGenerator:=false,isCoroutine:=false}
abbrev Oe:pA:=λ_ _ _ _ _ _=>False
abbrev E0:XK:=λ_ _ _=>False
structure bI(K:Frag)(x qual:Str)(st:Stmt)(f:Addr)(fd:FuncData):Prop where
 ex:∃(oc:Value) (od:Option Addr) (kV doc pm:Value) (an:Option Addr) (zp ct:Value) (oO:Array (Option Value)),
  fd=fnOf x qual (iV st) (Gk st) (Cr st) .none kV doc pm an zp ct/\K.lookup f=some ⟨oc,od,.func fd,oO⟩/\codeIn K zp qual=true
 kp:keepIn K (.ref f)=true
section
variable{P:Program}{w:World}{K:Frag}{mg:AB}{base:Heap}
def bI.binds{x qual:Str}{st:Stmt}{f:Addr}{fd:FuncData}{ps:List Str}(F:bI K x qual st f fd)
  (h:∀(kV doc pm:Value) (an:Option Addr) (zp ct:Value) (us:List Value),us.length=ps.length->bindArgs (fnOf x qual (iV st) (Gk st) (Cr st) .none kV doc pm an zp ct) ⟨us,[]⟩=pure (ps.zip us)):Binds K fd ps []:=by
 obtain⟨oc,od,kV,doc,pm,an,zp,ct,oO,rfl,lk,bT⟩:=F.ex;exact .all (h kV doc pm an zp ct)
def vA{x qual:Str}{st:Stmt}{f:Addr}{oc:Value}{od an:Option Addr}{oO:Array (Option Value)}{kV doc pm zp ct:Value}(l:K.lookup f=some ⟨oc,od,.func (fnOf x qual (iV st) (Gk st) (Cr st) .none kV doc pm an zp ct),oO⟩)
  (c:codeIn K zp qual=true) (k:keepIn K (.ref f)=true):bI K x qual st f (fnOf x qual (iV st) (Gk st) (Cr st) .none kV doc pm an zp ct):=⟨⟨oc,od,kV,doc,pm,an,zp,ct,oO,rfl,l,c⟩,k⟩
end
section
variable{X:Cx}
end
def aA(H H':Hp):Prop:=∀b o,H b=some o->H' b=some o
def aA.refl(H:Hp):aA H H:=λ_ _ h=>h
def aA.trans{H H1 H2:Hp}(a:aA H H1)(b:aA H1 H2):aA H H2:=λc o h=>b c o (a c o h)
def aA.free{H H':Hp}(e:aA H H'){l:Addr}(h:H' l=Option.none):H l=Option.none:=by
 cases q:H l with
 |none=>rfl
 |some o=>
  rw[e l o q]at h;cases h
def aA.seq{K:Frag}{H H':Hp}{a:Addr}{xs:List V}(e:aA H H')(h:bU K H a xs):bU K H' a xs:=by
 rcases h with(h|⟨o,h⟩)|h
 ·exact .inl (.inl (e _ _ h))
 ·exact .inl (.inr ⟨o,e _ _ h⟩)
 ·exact .inr h
end L2
namespace L3
open PySem PySem.Spec PyProof.Rows L2
variable{K:Frag}{fd:FuncData}{mg:AB}{us:List Value}{base:Heap}{H:Hp}{X:Cx}{pos:Pos}
abbrev Sg:=L2.St
inductive D where
 |aJ|bl (b:Bool)|int (i:Int)|str (x:Str)|lst (ds:List D)|tup (ds:List D)|aD (kvs:List (Ap×D))
 |qb (c:Str) (ns:List Str) (vs:List D)|obj (c:Str) (ns:List Str) (vs:List D)
structure Xn where
 c:Str
 ns:List Str
 vs:List D
inductive R(α:Type) where
 |ok (a:α)|ex (x:Xn)|no
namespace R
noncomputable def bind{α β:Type}(r:R α)(k:α->R β):R β:=match r with
 | .ok a=>k a
 | .ex x=> .ex x
 | .no=> .no
@[simp] theorem aI{α β:Type}(a:α)(k:α->R β):(R.ok a).bind k=k a:=rfl
@[simp] theorem kr{α β:Type}(x:Xn)(k:α->R β):(R.ex x).bind k=.ex x:=rfl
@[simp] theorem kq{α β:Type}(k:α->R β):(R.no).bind k=.no:=rfl
end R
inductive Tn where
 |sh (d:D)|lst (ts:List Tn)|tup (ts:List Tn)|aD (zm:List (Ap×Tn))|obj (c:Str) (ns:List Str) (ts:List Tn)
mutual
noncomputable def Tn.d:Tn->D
 | .sh d=>d
 | .lst ts=> .lst (Tn.ds ts)
 | .tup ts=> .tup (Tn.ds ts)
 | .aD zm=> .aD (Tn.ks zm)
 | .obj c ns ts=> .obj c ns (Tn.ds ts)
noncomputable def Tn.ds:List Tn->List D
 | []=> []
 |t::ts=>t.d::Tn.ds ts
noncomputable def Tn.ks:List (Ap×Tn)->List (Ap×D)
 | []=> []
 |(k,t)::ts=>(k,t.d)::Tn.ks ts
end
noncomputable def Tn.of:D->Tn
 | .lst ds=> .lst (ds.map .sh)
 | .aD kvs=> .aD (kvs.map λp=>(p.1,.sh p.2))
 | .obj c ns vs=> .obj c ns (vs.map .sh)
 |d=> .sh d
theorem Tn.ou:∀ds:List D,Tn.ds (ds.map .sh)=ds
 | []=>rfl
 |d::ds=>by
  show(Tn.sh d).d::Tn.ds (ds.map .sh)=_;rw[Tn.ou ds];rfl
theorem Tn.tq:∀kvs:List (Ap×D),Tn.ks (kvs.map λp=>(p.1,Tn.sh p.2))=kvs
 | []=>rfl
 |(k,d)::kvs=>by
  show(k,(Tn.sh d).d)::Tn.ks (kvs.map λp=>(p.1,Tn.sh p.2))=_;rw[Tn.tq kvs];rfl
theorem Tn.oC:∀zm:List (Ap×Tn),(Tn.ks zm).map (·.1)=zm.map (·.1)
 | []=>rfl
 |(k,t)::zm=>by show k::(Tn.ks zm).map (·.1)=_;rw[Tn.oC zm];rfl
theorem Tn.oB:∀zm:List (Ap×Tn),(Tn.ks zm).map (·.2)=Tn.ds (zm.map (·.2))
 | []=>rfl
 |(k,t)::zm=>by show t.d::(Tn.ks zm).map (·.2)=_;rw[Tn.oB zm];rfl
def Tn.kN(d:D):(Tn.of d).d=d:=by
 cases d with
 |lst ds=>show D.lst (Tn.ds (ds.map .sh))=_;rw[Tn.ou]
 |aD kvs=>show D.aD (Tn.ks (kvs.map λp=>(p.1,.sh p.2)))=_;rw[Tn.tq]
 |obj c ns vs=>show D.obj c ns (Tn.ds (vs.map .sh))=_;rw[Tn.ou]
 |_=>rfl
inductive W where
 |sh (d:D)|ow (d:D)|tr (t:Tn)
def W.d:W->D
 | .sh d=>d
 | .ow d=>d
 | .tr t=>t.d
@[simp] theorem W.dU(d:D):(W.sh d).d=d:=rfl
@[simp] theorem W.WY(d:D):(W.ow d).d=d:=rfl
@[simp] theorem W.abu(t:Tn):(W.tr t).d=t.d:=rfl
def ClsAt(K:Frag)(c:Str)(C:Addr):Prop:=PySem.W.nsIn K mainGlobals c=some (some (.ref C))
noncomputable def XO(a C:Addr)(dx:Option Addr):HO:=.ext λh=>∃us sl,h.get? a=some ⟨.ref C,dx,.fields us,sl⟩/\us[2]? =some .none
mutual
inductive aU(K:Frag)(G:Hp):V->D->Prop where
 |aJ:aU K G .aJ .aJ
 |bl (b:Bool):aU K G (.bl b) (.bl b)
 |int (i:Int):aU K G (.int i) (.int i)
 |str (x:Str):aU K G (.str x) (.str x)
 |lst {a:Addr} {vs:List V} {ds:List D} (h:bU K G a vs) (r:aB K G vs ds):aU K G (.ref a) (.lst ds)
 |tup {a:Addr} {vs:List V} {ds:List D} (h:cU K G a vs) (r:aB K G vs ds):aU K G (.ref a) (.tup ds)
 |dS {a C:Addr} {o:Obj} {c:Str} (hc:ClsAt K c C) (h:G a=some (.cS o (XO a C none))):aU K G (.ref a) (.qb c [] [])
 |dR {a C d:Addr} {o:Obj} {c:Str} {ns:List Str} {us:List V} {vs:List D} (hc:ClsAt K c C) (h:G a=some (.cS o (XO a C (some d)))) (hd:G d=some (.xd (ns.zip us))) (hl:ns.length=us.length) (r:aB K G us vs):aU K G (.ref a) (.qb c ns vs)
 |aD {a:Addr} {kvs:List (Ap×V)} {aW:List (Ap×D)} (h:Rd G a (.dK kvs)) (hk:kvs.map (·.1)=aW.map (·.1)) (r:aB K G (kvs.map (·.2)) (aW.map (·.2))):aU K G (.ref a) (.aD aW)
 |obj {a C dx:Addr} {c:Str} {ns:List Str} {us:List V} {vs:List D} (hc:ClsAt K c C) (h:G a=some (.ins C dx (ns.zip us))) (hl:ns.length=us.length) (r:aB K G us vs):aU K G (.ref a) (.obj c ns vs)
inductive aB(K:Frag)(G:Hp):List V->List D->Prop where
 |nil:aB K G [] []
 |cons {v:V} {d:D} {vs:List V} {ds:List D} (h:aU K G v d) (r:aB K G vs ds):aB K G (v::vs) (d::ds)
end
abbrev AS:=Addr->Prop
mutual
inductive Ow(K:Frag)(G H:Hp):V->Tn->AS->Prop where
 |sh {v:V} {d:D} {S:AS} (h:aU K G v d):Ow K G H v (.sh d) S
 |lst {a:Addr} {vs:List V} {ts:List Tn} {S S1:AS} (h:H a=some (.lst vs)) (ha:S a) (sub:∀b,S1 b->S b/\b≠a) (r:aX K G H vs ts S1):Ow K G H (.ref a) (.lst ts) S
 |tup {a:Addr} {vs:List V} {ts:List Tn} {S S1:AS} (h:H a=some (.tup vs)) (ha:S a) (sub:∀b,S1 b->S b/\b≠a) (r:aX K G H vs ts S1):Ow K G H (.ref a) (.tup ts) S
 |aD {a:Addr} {kvs:List (Ap×V)} {zm:List (Ap×Tn)} {S S1:AS} (h:H a=some (.dK kvs)) (hk:kvs.map (·.1)=zm.map (·.1)) (ha:S a) (sub:∀b,S1 b->S b/\b≠a) (r:aX K G H (kvs.map (·.2)) (zm.map (·.2)) S1):Ow K G H (.ref a) (.aD zm) S
 |obj {a C dx:Addr} {c:Str} {ns:List Str} {us:List V} {ts:List Tn} {S S1:AS} (hc:ClsAt K c C) (h:H a=some (.ins C dx (ns.zip us))) (hl:ns.length=us.length) (ha:S a) (sub:∀b,S1 b->S b/\b≠a) (r:aX K G H us ts S1):Ow K G H (.ref a) (.obj c ns ts) S
inductive aX(K:Frag)(G H:Hp):List V->List Tn->AS->Prop where
 |nil {S:AS}:aX K G H [] [] S
 |cons {v:V} {t:Tn} {vs:List V} {ts:List Tn} {S S1 S2:AS} (h:Ow K G H v t S1) (r:aX K G H vs ts S2) (dj:∀b,S1 b->S2 b->False) (s1:∀b,S1 b->S b) (s2:∀b,S2 b->S b):aX K G H (v::vs) (t::ts) S
end
def aA.pH{H H':Hp}{a:Addr}{u:HO}(e:aA H H')(h:Rd H a u):Rd H' a u:=by
 rcases h with h|⟨o,h⟩
 ·exact .inl (e _ _ h)
 ·exact .inr ⟨o,e _ _ h⟩
def aA.tupS{H H':Hp}{a:Addr}{xs:List V}(e:aA H H')(h:cU K H a xs):cU K H' a xs:=by
 rcases h with(h|⟨o,h⟩)|h
 ·exact .inl (.inl (e _ _ h))
 ·exact .inl (.inr ⟨o,e _ _ h⟩)
 ·exact .inr h
mutual
theorem aU.mono{G G':Hp}(e:aA G G'):∀{v:V} {d:D},aU K G v d->aU K G' v d
 |_,_,.aJ=> .aJ
 |_,_,.bl b=> .bl b
 |_,_,.int i=> .int i
 |_,_,.str x=> .str x
 |_,_,.lst h r=> .lst (e.seq h) (aB.mono e r)
 |_,_,.tup h r=> .tup (aA.tupS e h) (aB.mono e r)
 |_,_,.dS hc h=> .dS hc (e _ _ h)
 |_,_,.dR hc h hd hl r=> .dR hc (e _ _ h) (e _ _ hd) hl (aB.mono e r)
 |_,_,.aD h hk r=> .aD (aA.pH e h) hk (aB.mono e r)
 |_,_,.obj hc h hl r=> .obj hc (e _ _ h) hl (aB.mono e r)
theorem aB.mono{G G':Hp}(e:aA G G'):∀{vs:List V} {ds:List D},aB K G vs ds->aB K G' vs ds
 |_,_,.nil=> .nil
 |_,_,.cons h r=> .cons (aU.mono e h) (aB.mono e r)
end
theorem aB.length{G:Hp}:∀{vs:List V} {ds:List D},aB K G vs ds->vs.length=ds.length
 |_,_,.nil=>rfl
 |_,_,.cons _ r=>by rw[B5,B5,r.length]
theorem aB.append{G:Hp}:∀{vs ws:List V} {ds es:List D},aB K G vs ds->aB K G ws es->aB K G (vs ++ ws) (ds ++ es)
 |_,_,_,_,.nil,s=>s
 |_,_,_,_,.cons h r,s=> .cons h (r.append s)
theorem aB.get{G:Hp}:∀{vs:List V} {ds:List D} {i:Nat} {d:D},aB K G vs ds->ds[i]? =some d->∃v,vs[i]? =some v/\aU K G v d
 |_,_,_,_,.nil,e=>by simp at e
 |_,_,0,_,.cons h _,e=>by simp at e;subst e;exact⟨_,rfl,h⟩
 |_,_,i + 1,d,.cons _ r,e=>by
  obtain⟨u,h1,h2⟩:=aB.get (i:=i) (d:=d) r (by simpa using e);exact⟨u,by simpa using h1,h2⟩
theorem aB.take{G:Hp}:∀{vs:List V} {ds:List D} (n:Nat),aB K G vs ds->aB K G (vs.take n) (ds.take n)
 |_,_,0,_=> .nil
 |_,_,_ + 1,.nil=> .nil
 |_,_,n + 1,.cons h r=> .cons h (aB.take n r)
theorem aB.set{G:Hp}{v:V}{d:D}(h:aU K G v d):∀{vs:List V} {ds:List D} (i:Nat),aB K G vs ds->aB K G (vs.set i v) (ds.set i d)
 |_,_,_,.nil=> .nil
 |_,_,0,.cons _ r=> .cons h r
 |_,_,i + 1,.cons q r=> .cons q (aB.set h i r)
mutual
theorem Ow.mono{G G' H H':Hp}(e:aA G G'):∀{v:V} {d:Tn} {S S':AS},Ow K G H v d S->(∀b o,S b->H b=some o->H' b=some o)->(∀b,S b->S' b)->Ow K G' H' v d S'
 |_,_,_,_,.sh h,_,_=> .sh (h.mono e)
 |_,_,_,_,.lst h ha sub r,f,i=> .lst (f _ _ ha h) (i _ ha) (λb hb=>⟨i b (sub b hb).1,(sub b hb).2⟩) (aX.mono e r (λb o hb q=>f b o (sub b hb).1 q) λ_ q=>q)
 |_,_,_,_,.tup h ha sub r,f,i=> .tup (f _ _ ha h) (i _ ha) (λb hb=>⟨i b (sub b hb).1,(sub b hb).2⟩) (aX.mono e r (λb o hb q=>f b o (sub b hb).1 q) λ_ q=>q)
 |_,_,_,_,.aD h hk ha sub r,f,i=> .aD (f _ _ ha h) hk (i _ ha) (λb hb=>⟨i b (sub b hb).1,(sub b hb).2⟩) (aX.mono e r (λb o hb q=>f b o (sub b hb).1 q) λ_ q=>q)
 |_,_,_,_,.obj hc h hl ha sub r,f,i=> .obj hc (f _ _ ha h) hl (i _ ha) (λb hb=>⟨i b (sub b hb).1,(sub b hb).2⟩) (aX.mono e r (λb o hb q=>f b o (sub b hb).1 q) λ_ q=>q)
theorem aX.mono{G G' H H':Hp}(e:aA G G'):∀{vs:List V} {ds:List Tn} {S S':AS},aX K G H vs ds S->(∀b o,S b->H b=some o->H' b=some o)->(∀b,S b->S' b)->aX K G' H' vs ds S'
 |_,_,_,_,.nil,_,_=> .nil
 |_,_,_,_,.cons h r dj s1 s2,f,i=> .cons (Ow.mono e h (λb o hb q=>f b o (s1 b hb) q) λ_ q=>q) (aX.mono e r (λb o hb q=>f b o (s2 b hb) q) λ_ q=>q) dj (λb q=>i b (s1 b q)) λb q=>i b (s2 b q)
end
mutual
theorem Ow.has{G G' H:Hp}(e:aA G G'):∀{v:V} {d:Tn} {S:AS},Ow K G H v d S->(∀b o,S b->H b=some o->G' b=some o)->aU K G' v d.d
 |_,_,_,.sh h,_=>h.mono e
 |_,_,_,.lst h ha sub r,f=> .lst (bU.of (f _ _ ha h)) (aX.has e r λb o hb q=>f b o (sub b hb).1 q)
 |_,_,_,.tup h ha sub r,f=> .tup (cU.of (f _ _ ha h)) (aX.has e r λb o hb q=>f b o (sub b hb).1 q)
 |_,_,_,.aD h hk ha sub r,f=> .aD (.inl (f _ _ ha h)) (by rw[Tn.oC];exact hk) (by rw[Tn.oB];exact aX.has e r λb o hb q=>f b o (sub b hb).1 q)
 |_,_,_,.obj hc h hl ha sub r,f=> .obj hc (f _ _ ha h) hl (aX.has e r λb o hb q=>f b o (sub b hb).1 q)
theorem aX.has{G G' H:Hp}(e:aA G G'):∀{vs:List V} {ds:List Tn} {S:AS},aX K G H vs ds S->(∀b o,S b->H b=some o->G' b=some o)->aB K G' vs (Tn.ds ds)
 |_,_,_,.nil,_=> .nil
 |_,_,_,.cons h r dj s1 s2,f=> .cons (Ow.has e h λb o hb q=>f b o (s1 b hb) q) (aX.has e r λb o hb q=>f b o (s2 b hb) q)
end
theorem aX.of{G H:Hp}:∀{vs:List V} {ds:List D} {S:AS},aB K G vs ds->aX K G H vs (ds.map .sh) S
 |_,_,_,.nil=> .nil
 |_,_,_,.cons h r=> .cons (S1:=λ_=>False) (S2:=λ_=>False) (.sh h) (aX.of r) (λ_ z _=>z) (λ_ z=>z.elim) λ_ z=>z.elim
theorem aX.off{G H:Hp}:∀{vs:List V} {ds:List D} {S:AS},aX K G H vs (ds.map .sh) S->aB K G vs ds
 |_,[],_,h=>by cases h;exact .nil
 |_,d::ds,_,h=>by
  cases h with
  |cons h r dj s1 s2=>
   cases h with
   |sh h=>exact .cons h (aX.off r)
theorem aX.length{G H:Hp}:∀{vs:List V} {ds:List Tn} {S:AS},aX K G H vs ds S->vs.length=ds.length
 |_,_,_,.nil=>rfl
 |_,_,_,.cons _ r _ _ _=>by rw[B5,B5,r.length]
def Ow.list{G H:Hp}{a:Addr}{vs:List V}{ds:List D}{S:AS}(h:H a=some (.lst vs))(ha:S a)(r:aB K G vs ds):Ow K G H (.ref a) (Tn.of (.lst ds)) S:=
 .lst (S1:=λ_=>False) h ha (λ_ z=>z.elim) (.of r)
def Ow.dB{G H:Hp}{v:V}{ds:List D}{S:AS}(t:Ow K G H v (Tn.of (.lst ds)) S):∃a vs,v=.ref a/\S a/\H a=some (.lst vs)/\aB K G vs ds:=by
 cases t with
 |lst h ha sub r=>exact⟨_,_,rfl,ha,h,r.off⟩
def ER(aW:List (Ap×D)):(aW.map λp=>(p.1,Tn.sh p.2)).map (·.2)=(aW.map (·.2)).map Tn.sh:=by
 rw[D7,D7];rfl
def HK(aW:List (Ap×D)):(aW.map λp=>(p.1,Tn.sh p.2)).map (·.1)=aW.map (·.1):=by
 rw[D7];rfl
def Ow.dict{G H:Hp}{a:Addr}{kvs:List (Ap×V)}{aW:List (Ap×D)}{S:AS}(h:H a=some (.dK kvs))(hk:kvs.map (·.1)=aW.map (·.1))(ha:S a)(r:aB K G (kvs.map (·.2)) (aW.map (·.2))):Ow K G H (.ref a) (Tn.of (.aD aW)) S:=
 .aD (S1:=λ_=>False) h (by rw[HK];exact hk) ha (λ_ z=>z.elim) (by rw[ER];exact .of r)
def Ow.rL{G H:Hp}{v:V}{aW:List (Ap×D)}{S:AS}(t:Ow K G H v (Tn.of (.aD aW)) S):∃a kvs,v=.ref a/\S a/\H a=some (.dK kvs)/\kvs.map (·.1)=aW.map (·.1)/\aB K G (kvs.map (·.2)) (aW.map (·.2)):=by
 generalize e:Tn.of (.aD aW)=t' at t;cases t with
 |aD h hk ha sub r=>
  injection e with e
  subst e;rw[ER]at r;rw[HK]at hk;exact⟨_,_,rfl,ha,h,hk,r.off⟩
 |_=>cases e
structure Step(G H G' H':Hp):Prop where
 hh:aA H H'
 gh:aA G' H'
 gg:aA G G'
 nw:∀b,G b=none->H b≠none->G' b=none
theorem Step.refl{G H:Hp}(h:aA G H):Step G H G H:=⟨aA.refl _,h,aA.refl _,λ_ e _=>e⟩
theorem Step.trans{G H G1 H1 G2 H2:Hp}(a:Step G H G1 H1)(b:Step G1 H1 G2 H2):Step G H G2 H2:=
 ⟨a.hh.trans b.hh,b.gh,a.gg.trans b.gg,λc e n=>b.nw c (a.nw c e n) λz=>n (a.hh.free z)⟩
def kE{p:Addr}(h:H p=none)(o:HO):aA H (upd H p o):=λb u q=>by rw[Be (En q h)];exact q
def WX{G H:Hp}(h:aA G H)(p:Addr)(o:HO):aA (upd G p o) (upd H p o):=λb u q=>by
 by_cases e:b=p
 ·subst e;rw[Ce]at q⊢;exact q
 ·rw[Be e]at q⊢;exact h b u q
def Step.new{G H:Hp}(h:aA G H){p:Addr}(e:H p=none)(o:HO):Step G H (L2.upd G p o) (L2.upd H p o):=
 ⟨kE e o,WX h p o,kE (h.free e) o,λb n z=>by
  by_cases q:b=p
  ·subst q;exact absurd e z
  ·rw[Be q];exact n⟩
def Step.own{G H:Hp}(h:aA G H){p:Addr}(e:H p=none)(o:HO):Step G H G (L2.upd H p o):=
 ⟨kE e o,h.trans (kE e o),aA.refl _,λ_ n _=>n⟩
open Classical in
def Dr(G H:Hp)(S:AS):Hp:=λb=>if S b then H b else G b
def WP(K:Frag)(G H:Hp)(w:W)(Q:VK):Prop:=match w with
 | .sh d=>∀v G' H',Step G H G' H'->aU K G' v d->Q v H'
 | .ow d=>∀v S G' H',Step G H G' H'->(∀a,S a->H a=none/\G' a=none/\H' a≠none)->Ow K G' H' v (Tn.of d) S->Q v H'
 | .tr t=>∀v S G' H',Step G H G' H'->(∀a,S a->H a=none/\G' a=none/\H' a≠none)->Ow K G' H' v t S->Q v H'
structure jt where
 p:Xn->Hp->Hp->Prop
 mono:∀x G H G' H',Step G H G' H'->p x G H->p x G' H'
def EX0:jt:=⟨λ_ _ _=>False,λ_ _ _ _ _ _ h=>h⟩
abbrev Bi:=Sg->jt
def Ej:Bi:=λ_=>EX0
def Out(K:Frag)(EX:jt)(G H:Hp)(r:R W)(Q:VK):Prop:=match r with
 | .ok w=>WP K G H w Q
 | .ex x=>EX.p x G H
 | .no=>False
section
variable{K:Frag}{EX:jt}{G H G' H':Hp}{Q Q':VK}{w:W}
def WP.mono(s:Step G H G' H')(h:WP K G H w Q):WP K G' H' w Q:=by
 cases w with
 |sh d=>exact λv G2 H2 s2 r=>h v G2 H2 (s.trans s2) r
 |ow d=>exact λv S G2 H2 s2 fr t=>h v S G2 H2 (s.trans s2) (λa ha=>⟨s.hh.free (fr a ha).1,(fr a ha).2⟩) t
 |tr d=>exact λv S G2 H2 s2 fr t=>h v S G2 H2 (s.trans s2) (λa ha=>⟨s.hh.free (fr a ha).1,(fr a ha).2⟩) t
theorem Out.mono{r:R W}(s:Step G H G' H')(h:Out K EX G H r Q):Out K EX G' H' r Q:=by
 cases r with
 |ok w=>exact WP.mono s h
 |ex x=>exact EX.mono _ _ _ _ _ s h
 |no=>exact h
def WP.join{v:V}{t:Tn}{S:AS}(h:∀v G' H',Step G H G' H'->aU K G' v t.d->Q v H')(s:Step G H G' H')(fr:∀a,S a->H a=none/\G' a=none/\H' a≠none)(t:Ow K G' H' v t S):Q v H':=by
 have sg:aA G' (Dr G' H' S):=λb o q=>by
  unfold Dr
  split
  ·rename_i hb;rw[(fr b hb).2.1]at q;cases q
  ·exact q
 refine h v (Dr G' H' S) H' ⟨s.hh,λb o q=> ?_,s.gg.trans sg,λb n z=> ?_⟩ (t.has sg λb o hb q=> ?_)
 ·unfold Dr at q
  split at q
  ·exact q
  ·exact s.gh b o q
 ·unfold Dr
  split
  ·rename_i hb;exact absurd (fr b hb).1 z
  ·exact s.nw b n z
 ·unfold Dr;rw[if_pos hb];exact q
def WP.intro(h:∀v G' H',Step G H G' H'->aU K G' v w.d->Q v H'):WP K G H w Q:=by
 cases w with
 |sh d=>exact h
 |ow d=>exact λv S G' H' s fr t=>WP.join (t:=Tn.of d) (by rw[Tn.kN];exact h) s fr t
 |tr d=>exact λv S G' H' s fr t=>WP.join h s fr t
theorem WP.sh(h:WP K G H (.sh w.d) Q):WP K G H w Q:=WP.intro h
def WP.use{d:D}{v:V}(h:WP K G H (.sh d) Q)(s:aA G H)(r:aU K G v d):Q v H:=h v G H (Step.refl s) r
end
inductive ExcAt(K:Frag)(G:Hp):Value->Option Addr->Xn->Prop where
 |bare {C:Addr} {c:Str} (hc:ClsAt K c C):ExcAt K G (.ref C) none ⟨c,[],[]⟩
 |gX {C d:Addr} {c:Str} {ns:List Str} {us:List V} {vs:List D} (hc:ClsAt K c C) (hd:G d=some (.xd (ns.zip us))) (hl:ns.length=us.length) (r:aB K G us vs):ExcAt K G (.ref C) (some d) ⟨c,ns,vs⟩
def bQ(K:Frag)(E:XK):jt:=⟨λx G H=>∀cls dx G' H',Step G H G' H'->ExcAt K G' cls dx x->E cls dx H',λ_ _ _ _ _ s h cls dx G2 H2 s2=>h cls dx G2 H2 (s.trans s2)⟩
def pz(K:Frag)(EX:jt):XK:=λcls dx H=>∃x G,aA G H/\ExcAt K G cls dx x/\EX.p x G H
def pz.of{E:XK}{cls:Value}{dx:Option Addr}(h:pz K (bQ K E) cls dx H):E cls dx H:=by
 obtain⟨x,G,s,e,q⟩:=h;exact q cls dx G H (Step.refl s) e
def bQ.in{EX:jt}{G H:Hp}{x:Xn}(q:EX.p x G H):(bQ K (pz K EX)).p x G H:=λ_ _ G' H' st e=>⟨x,G',st.gh,e,EX.mono _ _ _ _ _ st q⟩
abbrev DE:=List (Option D)
abbrev FE:=DE->R W
abbrev FT:=DE->R Bool
abbrev FA:=DE->R (List D)
structure aR(K:Frag)(G:Hp)(σ:Sg)(δ:DE):Prop where
 len:σ.length=δ.length
 get:∀(i:Nat) (d:D),δ[i]? =some (some d)->∃v,σ[i]? =some (some v)/\aU K G v d
theorem aR.mono{G G':Hp}{σ:Sg}{δ:DE}(e:aA G G')(h:aR K G σ δ):aR K G' σ δ:=⟨h.len,λi d q=>by
 obtain⟨v,e1,r⟩:=h.get i d q;exact⟨v,e1,r.mono e⟩⟩
def tD(K:Frag)(EX:Bi)(f:FE):TE:=λ σ H Q=>∃G δ,aA G H/\aR K G σ δ/\Out K (EX σ) G H (f δ) Q
def fF(K:Frag)(EX:Bi)(f:FT):TT:=λ σ H Q=>∃G δ,aA G H/\aR K G σ δ/\match f δ with
 | .ok b=>∀G' H',Step G H G' H'->Q b H'
 | .ex x=>(EX σ).p x G H
 | .no=>False
def dY(K:Frag)(EX:Bi)(f:FA):TA:=λ σ H Q=>∃G δ,aA G H/\aR K G σ δ/\match f δ with
 | .ok ds=>∀vs G' H',Step G H G' H'->aB K G' vs ds->Q vs H'
 | .ex x=>(EX σ).p x G H
 | .no=>False
abbrev ED(X:Cx)(EX:Bi)(e:Expr)(f:FE):Prop:=PE X e (tD X.K EX f)
abbrev TD(X:Cx)(EX:Bi)(e:Expr)(f:FT):Prop:=PT X e (fF X.K EX f)
abbrev AD(X:Cx)(EX:Bi)(es:List Expr)(f:FA):Prop:=PA X es (dY X.K EX f)
def PE.imp{e:Expr}{t t':TE}(h:PE X e t)(i:∀σ H Q,t' σ H Q->t σ H Q):PE X e t':=λzd s σ H Q I q=>h zd s σ H Q I (i σ H Q q)
def PT.imp{e:Expr}{t t':TT}(h:PT X e t)(i:∀σ H Q,t' σ H Q->t σ H Q):PT X e t':=λzd s σ H Q I q=>h zd s σ H Q I (i σ H Q q)
def PW.imp{e:Expr}{t t':TT}(h:PW X e t)(i:∀σ H Q,t' σ H Q->t σ H Q):PW X e t':=λwh zd s σ H Q I q=>h wh zd s σ H Q I (i σ H Q q)
def PA.imp{e:List Expr}{t t':TA}(h:PA X e t)(i:∀σ H Q,t' σ H Q->t σ H Q):PA X e t':=λpos zd s σ H Q I q=>h pos zd s σ H Q I (i σ H Q q)
def PS.imp{e:Stmt}{t t':TS}(h:PS X e t)(i:∀D σ H,t' D σ H->t D σ H):PS X e t':=λzd s σ H D I q=>h zd s σ H D I (i D σ H q)
def fW.imp{e:List Stmt}{t t':TS}(h:fW X e t)(i:∀D σ H,t' D σ H->t D σ H):fW X e t':=λzd s σ H D I q=>h zd s σ H D I (i D σ H q)
section
variable{K:Frag}{EX:Bi}{G H:Hp}{σ:Sg}{δ:DE}{Q:VK}
def tD.seq{f:FE}{k:W->R W}{P:VK}(g:aA G H)(s:aR K G σ δ)(h:Out K (EX σ) G H ((f δ).bind k) Q)
  (i:∀w v G' H',f δ=.ok w->Step G H G' H'->aU K G' v w.d->Out K (EX σ) G' H' (k w) Q->P v H'):tD K EX f σ H P:=by
 refine⟨G,δ,g,s, ?_⟩;cases e:f δ with
 |ok w=>
  rw[e]at h;exact WP.intro λv G' H' st r=>i w v G' H' e st r (Out.mono st h)
 |ex x=>rw[e]at h;exact h
 |no=>rw[e]at h;exact h
abbrev AF:=List D->R W
def dY.seq{f:FA}{k:AF}{P:List V->Hp->Prop}(g:aA G H)(s:aR K G σ δ)(h:Out K (EX σ) G H ((f δ).bind k) Q)
  (i:∀ds vs G' H',f δ=.ok ds->Step G H G' H'->aB K G' vs ds->Out K (EX σ) G' H' (k ds) Q->P vs H'):dY K EX f σ H P:=by
 refine⟨G,δ,g,s, ?_⟩;cases e:f δ with
 |ok w=>
  rw[e]at h;exact λvs G' H' st r=>i w vs G' H' e st r (Out.mono st h)
 |ex x=>rw[e]at h;exact h
 |no=>rw[e]at h;exact h
end
def rR{EX:jt}{G H:Hp}{Q:VK}{ds:List D}{vs:List V}(o:Out K EX G H (.ok (.ow (.lst ds))) Q)(g:aA G H)(r:aB K G vs ds):∀p,H p=none->Q (.ref p) (upd H p (.lst vs)):=
 λp hp=>o (.ref p) (λb=>b=p) G _ (Step.own g hp _) (λa e=>by subst e;exact⟨hp,g.free hp,by rw[Ce];simp⟩) (.list Ce rfl r)
end L3
namespace L3
open PySem PySem.Spec PyProof.Rows L2
variable{K:Frag}{fd:FuncData}{mg:AB}{us:List Value}{base:Heap}{H:Hp}{X:Cx}{pos:Pos}
section
variable{prog:Program}{w:World}{A:Around}{E:AA}{s:Shared}
end
structure Tr(h:Heap)(a C:Addr)(dx:Option Addr)(fl:Value)(T:Addr):Prop where
 ob:∃o us,h.get? a=some o/\o.cls=.ref C/\o.dict=dx/\o.data=.fields us/\us[1]? =some (.ref T)/\us[2]? =some .none
 ne:T≠a
 tb:∃o us,h.get? T=some o/\o.data=.fields us/\us[3]? =some fl
structure bM(xs fr:List Addr)(h h':Heap):Prop where
 same:∀b o,b∉xs->b∉fr->h.get? b=some o->h'.get? b=some o
 slot:∀b o,b∉xs->h.get? b=some o->∃sl,h'.get? b=some {o with slots:=sl}
def bM.trans{xs ys fr:List Addr}{h1 h2 h3:Heap}(a:bM xs fr h1 h2)(b:bM ys fr h2 h3):bM (xs ++ ys) fr h1 h3:=
 ⟨λc o n m e=>b.same c o (λz=>n (B2 _ z)) m (a.same c o (λz=>n (M9 _ z)) m e),λc o n e=>by
  obtain⟨sl,e1⟩:=a.slot c o (λz=>n (M9 _ z)) e;obtain⟨OA,e2⟩:=b.slot c _ (λz=>n (B2 _ z)) e1;exact⟨OA,e2⟩⟩
def bM.of_same{xs fr:List Addr}{h h':Heap}(k:∀b o,b∉xs->h.get? b=some o->h'.get? b=some o):bM xs fr h h':=
 ⟨λb o n _ e=>k b o n e,λb o n e=>⟨o.slots,k b o n e⟩⟩
def WW(o:Obj)(f:Array Value->Array Value):(o.mapFields f).dict=o.dict:=by
 obtain⟨c,d,dt,sl⟩:=o;cases dt <;> rfl
section
variable{M:Model}{A:Around}{E:AA}{s:Shared}{env:Env}{outer:List Env}{base:Heap}{L a C:Addr}{dx:Option Addr}{Q:Unit->Shared->Prop}
def HJ{o:Obj}{us:Array Value}{head:Value}{b:Bool}(pS:A.frames=some (env::outer))(hl:s.heap.FunFrames base (env::outer))(hf:env.frame=some L)
  (he:s.heap.get? a=some o) (hc:o.cls=.ref C) (hx:o.dict=dx) (hd:o.data=.fields us) (hz:1 < us.size) (c2:us[2]? =some .none)
  (h:∀h' T,s.heap.objs.size<=T->bM [a] (fM (env::outer)) s.heap h'->Tr h' a C dx (rawInt L) T->Q .unit {s with heap:=h'}):
  wpAny M A (do let fv<-frameOf env;let pl<-entryPlaceOf L b;let en<-EntryCells.newEntry head fv .none (rawInt L) .none pl;setField (.ref a) 1 en) Q E s:=by
 have nfr:a∉fM (env::outer):=λhm=>by
  obtain⟨_,u,hu,hn⟩:=hl.mem hm;rw[he]at hu;cases hu;exact hn us hd
 refine A4 (wpAny_frameOf_fun pS hl hf λh1 so=> ?_);refine A4 (wpAny_entryPlaceOf λpl bH=> ?_);unfold EntryCells.newEntry newFields;refine A4 (S7 ?_ (bH.sizeOk5 _ _ _ _ _));have e1:h1.get? a=some o:=(so.2.1 a nfr).trans he;generalize hT:({cls:=.type "traceback",dict:=none,data:=.fields ([head,.ref L,.none,rawInt L,.none] ++ (if pl.isEmpty then List.replicate 6 Value.none else pl)).toArray}:Obj)=oT;have eT:oT.data=.fields ([head,.ref L,.none,rawInt L,.none] ++ (if pl.isEmpty then List.replicate 6 Value.none else pl)).toArray:=by rw[<-hT]
 have e2:(h1.push oT).get? a=some o:=A5 oT e1;refine Qm e2 hd hz ?_;have sz:h1.objs.size=s.heap.objs.size:=so.1;have ltA:a < s.heap.objs.size:=A8 he;have neT:h1.objs.size≠a:=λz=>absurd ltA (by rw[<-z,sz];exact F1 _);have d3:=Y4 hd (·.setIfInBounds 1 (Value.ref h1.objs.size));refine h _ h1.objs.size (by rw[sz];exact A9 _) ⟨λb u n m e=> ?_,λb u n e=> ?_⟩ ⟨⟨_,_,P5 _ e2 (W2 d3),(Obj.cls_mapFields _ _).trans hc,(WW _ _).trans hx,d3, ?_, ?_⟩,neT,⟨oT,_, ?_,eT, ?_⟩⟩
 ·have nb:a≠b:=λz=>n (by simp[z]);rw[K1 _ _ nb];exact A5 oT ((so.2.1 b m).trans e)
 ·have nb:a≠b:=λz=>n (by simp[z]);obtain⟨sl,es⟩:=so.2.2 b u e;exact⟨sl,by rw[K1 _ _ nb];exact A5 oT es⟩
 ·simp[hz]
 ·rw[<-c2];simp
 ·rw[K1 _ _ (Ne.symm neT)];exact C5 h1 (W2 eT)
 ·first|(simp;done)|(rcases bH with rfl|⟨_,_,_,_,_,_,_,rfl⟩ <;> simp)
def Zh{o:Obj}{us:Array Value}(pS:A.frames=some (env::outer))(hl:s.heap.FunFrames base (env::outer))(hf:env.frame=some L)
  (he:s.heap.get? a=some o) (hc:o.cls=.ref C) (hx:o.dict=dx) (hd:o.data=.fields us) (h1:us[1]? =some .none) (c2:us[2]? =some .none)
  (h:∀h' T,s.heap.objs.size<=T->bM [a] (fM (env::outer)) s.heap h'->Tr h' a C dx (rawInt L) T->Q .unit {s with heap:=h'}):wpAny M A (noteFrame (.ref a) env) Q E s:=by
 unfold noteFrame;simp only[hf];refine A4 (U7 he hd h1 ?_);rw[if_neg ⋯];exact HJ pS hl hf he hc hx hd (P1.mp h1).1 c2 h
def JN{T0:Addr}(pS:A.frames=some (env::outer))(hl:s.heap.FunFrames base (env::outer))(hf:env.frame=some L)(t:Tr s.heap a C dx .none T0)
  (h:∀h' T,s.heap.objs.size<=T->bM [a,T0] (fM (env::outer)) s.heap h'->Tr h' a C dx (rawInt L) T->Q .unit {s with heap:=h'}):wpAny M A (noteFrame (.ref a) env) Q E s:=by
 obtain⟨⟨o,us,he,hc,hx,hd,h1,c2⟩,ne,⟨oT,ws,hT,pV,h3⟩⟩:=t;unfold noteFrame;simp only[hf];refine A4 (U7 he hd h1 ?_);rw[if_pos (show(Value.ref T0 != Value.none)=true from by simp)];refine A4 (U7 hT pV h3 ?_);rw[if_neg (show¬((Value.none ==rawInt L)=true) from by simp[rawInt])];refine A4 (Qm hT pV (P1.mp h3).1 ?_);have MY:∀b,b≠T0->(s.heap.update T0 (Obj.mapFields (·.setIfInBounds 3 Value.none))).get? b=s.heap.get? b:=λb hb=>K1 _ _ (Ne.symm hb);have gb:∀b u,s.heap.get? b=some u->(∀zs,u.data≠ .fields zs)->b≠T0:=λb u hb hn q=>by
  subst q;rw[hT]at hb;cases hb;exact hn ws pV
 refine HJ (s:={s with heap:=s.heap.update T0 (Obj.mapFields (·.setIfInBounds 3 Value.none))}) pS (hl.of_keeps λb u hb hn=>⟨u,(MY b (gb b u hb hn)).trans hb,rfl⟩) hf ((MY a (Ne.symm ne)).trans he) hc hx hd (P1.mp h1).1 c2 λh' T n k tr=>h h' T ?_ ?_ tr
 ·have zz:(s.heap.update T0 (Obj.mapFields (·.setIfInBounds 3 Value.none))).objs.size=s.heap.objs.size:=Heap.size_update _ _ _;rw[<-zz];exact n
 ·have na:∀b,b∉ [a,T0]->b∉ [a]:=λb nb z=>nb (by rw[J9.mp z];exact L4);have nT:∀b,b∉ [a,T0]->b≠T0:=λb nb z=>nb (by rw[z];simp);exact⟨λb u nb m e=>k.same b u (na b nb) m ((MY b (nT b nb)).trans e),λb u nb e=>k.slot b u (na b nb) ((MY b (nT b nb)).trans e)⟩
def MI{T:Addr}{fl:Value}(t:Tr s.heap a C dx fl T)(h:∀h',(∀b o,b∉ [T]->s.heap.get? b=some o->h'.get? b=some o)->Tr h' a C dx .none T->Q .unit {s with heap:=h'}):wpAny M A (setFlight (.ref a) none) Q E s:=by
 obtain⟨⟨o,us,he,hc,hx,hd,h1,c2⟩,ne,⟨oT,ws,hT,pV,h3⟩⟩:=t;have sz3:3 < ws.size:=(P1.mp h3).1;unfold setFlight;refine A4 (U7 he hd h1 ?_);rw[if_pos (show(Value.ref T != Value.none)=true from by simp)];refine Qm hT pV sz3 (h _ (λb u n e=> ?_) ⟨⟨o,us, ?_,hc,hx,hd,h1,c2⟩,ne,⟨_,_,P5 _ hT (W2 (Y4 pV _)),Y4 pV _, ?_⟩⟩)
 ·rw[K1 _ _ (λz=>n (by simp[z]))];exact e
 ·rw[K1 _ _ ne];exact he
 ·simp[sz3]
end
def ke(P:Program)(w:World):pA:=λouter H s E e s'=>∃a C dx T H',e=.ref a/\s'.os=s.os/\AllBare s'.gens/\Un (fM outer) [] H H' s.heap s'.heap/\cH P w H' s'.heap/\
 Tr s'.heap a C dx .none T/\H' a=none/\H' T=none/\s.heap.objs.size<=a/\s.heap.objs.size<=T/\E (.ref C) dx H'
section
variable{X:Cx}{zd:AE}{σ:Sg}{H H':Hp}{s s':Shared}
def Inv.settle{ch:List Addr}{h2:Heap}(I:Inv X zd σ H s)(I':Inv X zd σ H' s')(n:∀b∈ch,s.heap.objs.size<=b/\H' b=none)(k:bM ch (fM X.stack) s'.heap h2):Inv X zd σ H' {s' with heap:=h2}:=by
 have pD:∀b u,H' b=some u->b∉ch/\b∉fM X.stack:=λb u e=>⟨λz=>(by rw[(n b z).2]at e;cases e),λz=>(by rw[I'.cP b z]at e;cases e)⟩;refine I'.step (g':=s'.gens) (d':=s'.drawn) (t':=s'.toks) (ch:=ch) (λb hb=> ?_) (λb o h1 h2 h3 e _=>k.same b o h3 (λz=> ?_) e) (λb o _ _ h3 e _=>k.slot b o h3 e) (λ_ _ _ _ z=>z) (λb o h3 e=> ?_) (λ_ _ z=>z) (λ_ _ _ z=>z) (λb ps z=>⟨#[],by rw[z];simp⟩) (λm hm=> ?_) (λb u e=> ?_) I'.bare
 ·have lb:=(n b hb).1;refine⟨.inr (D4 I.sz lb),λz=> ?_,λx c e z=> ?_,λp hp z=> ?_⟩
  ·exact absurd (C1 I.lt lb) (by rw[z];exact F1 _)
  ·obtain⟨v,hv⟩:=I.cell x c e;exact absurd (C1 hv.lt lb) (by rw[z];exact F1 _)
  ·exact absurd (C1 (A8 (I.pin p hp).1) lb) (by rw[z];exact F1 _)
 ·rcases B8.mp (I'.bP b z) with z|z
  ·exact h1 z
  ·exact h2 z
 ·obtain⟨sl,q⟩:=k.slot b o h3 e;exact⟨_,q⟩
 ·obtain⟨o,es,ep,ho,r⟩:=hm;have nl:X.env.locals∉ch:=λz=>absurd (C1 I.lt (n _ z).1) (F1 _);obtain⟨sl,q⟩:=k.slot _ o nl ho;exact⟨_,es,ep,q,r⟩
 ·refine(I'.aN b u e).cO (λc v hc q=> ?_) (λ_ z=>z) λ_ _ z=>z;rcases hc with rfl|hc
  ·exact k.same c v (pD c u e).1 (pD c u e).2 q
  ·exact k.same c v (pD c _ hc).1 (pD c _ hc).2 q
def Inv.raised{E:XK}{e:Value}(I:Inv X zd σ H s)(c:ke X.prog X.w X.stack H s E e s'):∃a C dx T H',e=.ref a/\Inv X zd σ H' s'/\Tr s'.heap a C dx .none T/\H' a=none/\H' T=none/\s.heap.objs.size<=a/\s.heap.objs.size<=T/\E (.ref C) dx H':=by
 obtain⟨a,C,dx,T,H',e1,os,br,un,aN,tr,n1,n2,z1,z2,q⟩:=c;exact⟨a,C,dx,T,H',e1,I.oy (ch:=[]) os un aN br (λb z=>absurd z (by simp)),tr,n1,n2,z1,z2,q⟩
end
section
variable{cm:Bool}{P:Program}{w:World}{K:Frag}{mg:AB}{base:Heap}{N:List Str}{qual:Str}{scope:Scope}{f:Addr}{cd:Value}{A:Around}{outer:List Env}{s0:Shared}{H0:Hp}{E E':XK}
def Yo{zd:AE}{σ:Sg}{s s':Shared}{e:Value}(I:Inv ({Gc (ke P w) P w K mg base N qual scope f cd A outer s0 H0 E with calm:=cm}:Cx) zd σ H s)
  (c:ke P w ({Gc (ke P w) P w K mg base N qual scope f cd A outer s0 H0 E with calm:=cm}:Cx).stack H s E' e s') (i:∀cls dx H',E' cls dx H'->E cls dx H'):({Gc (ke P w) P w K mg base N qual scope f cd A outer s0 H0 E with calm:=cm}:Cx).xe e s':=by
 obtain⟨a,C,dx,T,H',rfl,I',tr,n1,n2,z1,z2,q⟩:=Inv.raised I c;show wpAny (model P w) _ (leaving _ _) _ _ s';unfold leaving;refine A4 (JN I'.ok.frames I'.stack rfl tr λh1 T2 z3 k1 t1=> ?_);refine MI t1 λh2 k2 t2=> ?_;have rT:H' T2=none:=I'.aN.fresh z3;have J:Inv ({Gc (ke P w) P w K mg base N qual scope f cd A outer s0 H0 E with calm:=cm}:Cx) zd σ H' {s' with heap:=h2}:=by
  refine Inv.settle (ch:=[a,T] ++ [T2]) I I' (λb hb=> ?_) (k1.trans (bM.of_same k2));have:b=a\/b=T\/b=T2:=by simpa using hb
  rcases this with rfl|rfl|rfl
  ·exact⟨z1,n1⟩
  ·exact⟨z2,n2⟩
  ·exact⟨D4 (D4 (A9 _) z1) (D4 (R7 (A8 tr.ob.choose_spec.choose_spec.1)) z3),rT⟩
 exact⟨a,C,dx,T2,H',rfl,J.os,J.bare,J.base,J.aN,t2,n1,rT,D4 I.sz z1,D4 I'.sz z3,i _ _ _ q⟩
def aak{zd:AE}{σ:Sg}{H H':Hp}{s s':Shared}{a C:Addr}{dx:Option Addr}{o:Obj}{us:Array Value}(I:Inv ({Gc (ke P w) P w K mg base N qual scope f cd A outer s0 H0 E with calm:=cm}:Cx) zd σ H s)
  (I':Inv ({Gc (ke P w) P w K mg base N qual scope f cd A outer s0 H0 E with calm:=cm}:Cx) zd σ H' s') (he:s'.heap.get? a=some o) (hc:o.cls=.ref C) (hx:o.dict=dx) (hd:o.data=.fields us) (h1:us[1]? =some .none) (c2:us[2]? =some .none) (n1:H' a=none) (z1:s.heap.objs.size<=a) (q:E (.ref C) dx H'):
  ({Gc (ke P w) P w K mg base N qual scope f cd A outer s0 H0 E with calm:=cm}:Cx).xe (.ref a) s':=by
 show wpAny (model P w) _ (leaving _ _) _ _ s';unfold leaving;refine A4 (Zh I'.ok.frames I'.stack rfl he hc hx hd h1 c2 λh1 T2 z3 k1 t1=> ?_);refine MI t1 λh2 k2 t2=> ?_;have rT:H' T2=none:=I'.aN.fresh z3;have J:Inv ({Gc (ke P w) P w K mg base N qual scope f cd A outer s0 H0 E with calm:=cm}:Cx) zd σ H' {s' with heap:=h2}:=by
  refine Inv.settle (ch:=[a] ++ [T2]) I I' (λb hb=> ?_) (k1.trans (bM.of_same k2));have:b=a\/b=T2:=by simpa using hb
  rcases this with rfl|rfl
  ·exact⟨z1,n1⟩
  ·exact⟨D4 z1 (D4 (R7 (A8 he)) z3),rT⟩
 exact⟨a,C,dx,T2,H',rfl,J.os,J.bare,J.base,J.aN,t2,n1,rT,D4 I.sz z1,D4 I'.sz z3,q⟩
end
section
variable{prog:Program}{w:World}{A:Around}{E:AA}{h:Heap}{g:Array GenState}{d:Drawn}{t:Nat}{os:OsState}
variable{nm q:Str}{C N:Addr}{bs bm qi:List Value}{bq:Bool}{sn:List Str}{sub:List Value}{ab:Bool}{col:Option Bool}{dd:Option Addr}{k0 k1 k2 k3 k5:Option Value}{B newId ak:String}
def Yn(FB:ExcBaseFacts B newId ak qi)(T:OwnTail h qi bm){mN:AB}{fI:Addr}{oI:Obj}{Q:PySem.Fin->Shared->Prop}
  (hC:h.get? C=some (excClassObj nm q C N bs bm bq sn sub ab col dd k0 k1 k2 k3 k5 newId)) (hn:h.Ns N mN) (hi:mN "__init__" =some (.ref fI)) (ho:h.get? fI=some oI) (hf:oI.cls=.type "function")
  (z:∀h' e,Heap.MadeExcOf h h' e (.ref C) us->h.objs.size<=e->wpAny (model prog w) A (call (.ref fI) (.ref e::us)) (λr s'=>r=.none/\Q (.done (.ret (.ref e))) s') E ⟨h',g,d,t,os⟩) (hu:us.length<=sizeLine):
  wpAny (model prog w) A (Builtin.«type.__call__» ⟨.ref C::us,[]⟩) Q E ⟨h,g,d,t,os⟩:=by
 wp_walk using N2 hC,wpAny_madeBy_exc hC
 refine Y9 (U4 _ FB.quiet) (wpAny_check_new_subT FB T hC ?_);refine codeAny_exc_new_subT FB T hC ?_ hu;show wpAny _ _ _ _ _ _;generalize e1:({cls:=.type "tuple",data:=.seq us.toArray}:Obj)=o1;generalize e2:({cls:=.ref C,data:=.fields #[.ref h.objs.size,.none,.none,.none,.bool false,.none]}:Obj)=o2;have up:∀b o,h.get? b=some o->((h.push o1).push o2).get? b=some o:=λb o e=>A5 _ (A5 _ e);have ge:((h.push o1).push o2).get? (h.objs.size + 1)=some o2:=by
  have:=C5 (h.push o1) (o:=o2) (by rw[<-e2];rfl)
  rwa[L9]at this
 have gt:((h.push o1).push o2).get? h.objs.size=some o1:=A5 _ (C5 h (by rw[<-e1];rfl));have uz:=up _ _ hC;have zY:((h.push o1).push o2).Ns N mN:=hn.keeps up;have cl:o2.cls=.ref C:=by rw[<-e2]
 have sO:List.contains (Value.ref C::bm) (.ref C)=true:=S6.mpr (.head _);unfold isInstance
 repeat (first|(with_reducible refine N2 ge ?_;rw[cl])|(with_reducible refine X8 uz ?_;rw[sO])|wp_step)
 change wpAny _ _ (mroOf (.ref C) >>=λl=>lookupAlong l _) _ _ _;refine A4 (wpAny_mroOf_exc uz ?_);rw[lookupAlong_cons];refine A4 (wpAny_classOwn_exc uz zY ?_);rw[hi];refine D0 (N9 (A4 ?_));unfold bindSpecial;refine A4 (wpAny_typeOf (T:= "function") ⟨_,up _ _ ho,hf⟩ ?_);rw[if_pos ⋯];refine D0 (A4 (D6 (z _ (h.objs.size + 1) ⟨up,P9 (N5 _),h.objs.size,by rw[e2];exact ge,P9 (A9 _),by rw[e1];exact gt⟩ (N5 _)) (λr s' hr=> ?_) λ_ _ x=>x));obtain⟨rfl,hQ⟩:=hr
 wp_walk
 exact hQ
def WV(FB:ExcBaseFacts B newId ak qi)(T:OwnTail h qi bm){mN:AB}{fI:Addr}{oI:Obj}{Q:AA}
  (hC:h.get? C=some (excClassObj nm q C N bs bm bq sn sub ab col dd k0 k1 k2 k3 k5 newId)) (hn:h.Ns N mN) (hi:mN "__init__" =some (.ref fI)) (ho:h.get? fI=some oI) (hf:oI.cls=.type "function")
  (z:∀h' e,Heap.MadeExcOf h h' e (.ref C) us->h.objs.size<=e->wpAny (model prog w) (A.under (.builtin "type.__call__" ⟨.ref C::us,[]⟩)) (call (.ref fI) (.ref e::us)) (λr s'=>r=.none/\Q (.ref e) s') E ⟨h',g,d,t,os⟩) (hu:us.length<=sizeLine):
  wpAny (model prog w) A (call (.ref C) us) Q E ⟨h,g,d,t,os⟩:=by
 have f1:=tc_lookup;have f2:=tc_bind (.ref C);have Dq:Shared.TypeIs ⟨h,g,d,t,os⟩ (.ref C) "type" :=⟨_,hC,rfl⟩;refine U5 (Qt (?_:wpAny _ _ (callAny (.ref C) _) _ _ _))
 wp_walk using N2 hC
 refine⟨rfl, ?_⟩;exact ZA0 (U4 _ nofun) entry_typeCall (Z0 hC (Yn FB T hC hn hi ho hf (λh' e hm hz=>z h' e hm hz) hu))
def JM{M:Model}{env:Env}{s:Shared}{x:Sem Value}{Q:Flow->Shared->Prop}(hb:bm.contains (.type "BaseException")=true)(hh:A.handled=none)
  (z:wpAny M A x (λv s1=>∃e t dx,v=.ref e/\s1.heap.get? C=some (excClassObj nm q C N bs bm bq sn sub ab col dd k0 k1 k2 k3 k5 newId)/\
   s1.heap.get? e=some {cls:=.ref C,dict:=dx,data:=.fields #[.ref t,.none,.none,.none,.bool false,.none]}/\E (.ref e) s1) E s):wpAny M A (raiseStmt env (some x) none) Q E s:=by
 have hcB:(Value.ref C::bm).contains (.type "BaseException")=true:=by rw[P2,hb,Qj]
 unfold raiseStmt;refine A4 (D6 z (λv s1 z1=> ?_) λ_ _ y=>y);obtain⟨e,t,dx,rfl,hC,he,hE⟩:=z1;obtain⟨hp,g,d,tk,os⟩:=s1
 repeat (first|with_reducible refine N2 he ?_|with_reducible refine N2 hC ?_|(with_reducible refine X8 hC ?_;rw[hcB])|wp_step)
 exact wpAny_raiseNew_none hh hE
end
section
variable{X:Cx}{EX:Bi}{a b c:Expr}{f g h:FE}{pos:Pos}
noncomputable def Ab(i:Nat):FE:=λ δ=>match δ[i]? with
 |some (some d)=> .ok (.sh d)
 |_=> .no
def eC(d:D):FE:=λ_=> .ok (.sh d)
def Ad(i:Nat){x:Str}(hN:X.N[i]? =some x:=by rfl)(hv:fV X.env.scope x:=by trivial)(hd:AG x:=by decide)
  (bT:(x ==("__classdict__" :Str))=false:=by decide):ED X EX (.Name x pos) (Ab i):=
 PE.imp (iJ hN hv hd bT) λ σ H Q ⟨G,δ,g,s,o⟩=>by
  unfold Ab at o
  split at o
  ·rename_i d e;obtain⟨v,e1,r⟩:=s.get i d e;exact⟨v,e1,WP.use o g r⟩
  ·exact o.elim
def lM{e:Expr}{v:V}{d:D}(he:PE X e (tC v))(hd:∀G,aU X.K G v d):ED X EX e (eC d):=
 PE.imp he λ σ H Q ⟨G,δ,g,s,o⟩=>WP.use o g (hd G)
def Aq{i:Int}{j pos}:ED X EX (.Constant (.int i) j pos) (eC (.int i)):=lM TC λ_=> .int i
def iG{b:Bool}{j pos}:ED X EX (.Constant (.bool b) j pos) (eC (.bl b)):=lM RY λ_=> .bl b
def eF{j pos}:ED X EX (.Constant .none j pos) (eC .aJ):=lM TB λ_=> .aJ
def vz{x:Str}{j pos}:ED X EX (.Constant (.str x) j pos) (eC (.str x)):=lM Tz λ_=> .str x
def jC{x:Str}{i:Int}{t:Tok}(hg:Gl X x)(hm:X.mg x=some (.int i t))(hd:AG x:=by decide):ED X EX (.Name x pos) (eC (.int i)):=lM (HU (v:=.int i) hg hm ⟨t,rfl⟩ hd) λ_=> .int i
def HI{x:Str}{z:Str}{t:Tok}(hg:Gl X x)(hm:X.mg x=some (.str z t))(hd:AG x:=by decide):ED X EX (.Name x pos) (eC (.str z)):=lM (HU (v:=.str z) hg hm ⟨t,rfl⟩ hd) λ_=> .str z
def rD(K:Frag)(r:D->D->R W):R2:=λx y H Q=>∃(EX:jt) (G:Hp) (a b:D),aA G H/\aU K G x a/\aU K G y b/\Out K EX G H (r a b) Q
abbrev Ey(X:Cx)(f:Value->Value->Sem Value)(r:D->D->R W):Prop:=cB X f (rD X.K r)
def Ah(r:D->D->R W)(f g:FE):FE:=λ δ=>(f δ).bind λa=>(g δ).bind λb=>r a.d b.d
def two{r:D->D->R W}{σ:Sg}{Q:VK}(q:tD K EX (Ah r f g) σ H Q):yV (rD K r) (tD K EX f) (tD K EX g) σ H Q:=by
 obtain⟨G,δ,g0,s0,o⟩:=q;exact tD.seq g0 s0 o λw v G1 H1 _ cG r1 o1=>tD.seq cG.gh (s0.mono cG.gg) o1 λw2 v2 G2 H2 _ bC r2 o2=>⟨_,G2,w.d,w2.d,bC.gh,r1.mono bC.gg,r2,o2⟩
def Au{op:Operator}{r:D->D->R W}(ho:Ey X (binaryOp op) r)(ha:ED X EX a f)(hb:ED X EX b g):ED X EX (.BinOp a op b pos) (Ah r f g):=
 PE.imp (DO ho ha hb) λ_ _ _ q=>two q
def jQ{op:CmpOp}{r:D->D->R W}(ho:Ey X (compareOp op) r)(ha:ED X EX a f)(hb:ED X EX b g)(hm:behindInMarks op b=false):ED X EX (.Compare a [op] [b] pos) (Ah r f g):=
 PE.imp (Vp ho ha hb hm) λ_ _ _ q=>two q
noncomputable def Eb:D->R Bool
 | .bl b=> .ok b
 |_=> .no
def An(f:FE):FT:=λ δ=>(f δ).bind λw=>Eb w.d
def HH{σ:Sg}{Q:Bool->Hp->Prop}(q:fF K EX (An f) σ H Q):tD K EX f σ H λx H'=>∃k,x=.bl k/\Q k H':=by
 obtain⟨G,δ,g0,s0,o⟩:=q;refine⟨G,δ,g0,s0, ?_⟩;unfold An at o;cases e:f δ with
 |ok w=>
  rw[e]at o;simp only[R.aI]at o;refine WP.intro λv G' H' st r=> ?_;revert r o;cases w.d with
  |bl k=>intro o r;cases r;exact⟨k,rfl,o G' H' st⟩
  |_=>intro o _;exact False.elim o
 |ex x=>rw[e]at o;exact o
 |no=>rw[e]at o;exact o
def Cl{op:CmpOp}{r:D->D->R W}(ho:Ey X (compareOp op) r)(ha:ED X EX a f)(hb:ED X EX b g)(hm:behindInMarks op b=false):TD X EX (.Compare a [op] [b] pos) (An (Ah r f g)):=
 PT.imp (Vo ho ha hb hm) λ σ H Q q=>two (HH q)
def gU(r r':D->D->R W)(f g h:FE):FE:=λ δ=>(f δ).bind λa=>(g δ).bind λb=>(r a.d b.d).bind λz=>(Eb z.d).bind λk=>
 if k=true then(h δ).bind λc=>r' b.d c.d else .ok (.sh (.bl false))
def DK{r r':D->D->R W}{σ:Sg}{Q:VK}(q:tD K EX (gU r r' f g h) σ H Q):vC (rD K r) (rD K r') (tD K EX f) (tD K EX g) (tD K EX h) σ H Q:=by
 obtain⟨G,δ,g0,s0,o⟩:=q;refine tD.seq g0 s0 o λw v G1 H1 _ cG r1 o1=>tD.seq cG.gh (s0.mono cG.gg) o1 λw2 v2 G2 H2 _ bC r2 o2=>⟨EX σ,G2,w.d,w2.d,bC.gh,r1.mono bC.gg,r2, ?_⟩;revert o2;cases r w.d w2.d with
 |ok z=>
  intro o2;refine WP.intro λv3 G3 H3 iO r3=> ?_;have o2:Out K (EX σ) G2 H2 ((Eb z.d).bind λk=>if k=true then(h δ).bind λc=>r' w2.d c.d else .ok (.sh (.bl false))) Q:=o2;revert r3 o2;cases z.d with
  |bl k=>
   intro r3 o2;cases r3;refine⟨k,rfl, ?_⟩;cases k with
   |true=>
    rw[if_pos rfl];have o3:Out K (EX σ) G2 H2 ((h δ).bind λc=>r' w2.d c.d) Q:=o2;exact tD.seq iO.gh (s0.mono (cG.gg.trans (bC.gg.trans iO.gg))) (o3.mono iO) λw4 v4 G4 H4 _ pE r4 o4=>⟨_,G4,w2.d,w4.d,pE.gh,r2.mono (iO.gg.trans pE.gg),r4,o4⟩
   |false=>
    rw[if_neg A6];have o3:WP K G2 H2 (.sh (.bl false)) Q:=o2;exact(o3.mono iO).use iO.gh (.bl false)
  |_=>intro _ o2;exact False.elim o2
 |ex x=>exact λo2=>o2
 |no=>exact λo2=>o2
def WU{op iS:CmpOp}{r r':D->D->R W}(ho:Ey X (compareOp op) r)(dP:Ey X (compareOp iS) r')(ha:ED X EX a f)(hb:ED X EX b g)(hc:ED X EX c h)
  (hm:lastMarks [op,iS] [b,c]=false:=by with_unfolding_all rfl):ED X EX (.Compare a [op,iS] [b,c] pos) (gU r r' f g h):=
 PE.imp (Xh ho dP ha hb hc hm) λ_ _ _ q=>DK q
def WT{op iS:CmpOp}{r r':D->D->R W}(ho:Ey X (compareOp op) r)(dP:Ey X (compareOp iS) r')(ha:ED X EX a f)(hb:ED X EX b g)(hc:ED X EX c h)
  (hm:lastMarks [op,iS] [b,c]=false:=by with_unfolding_all rfl):TD X EX (.Compare a [op,iS] [b,c] pos) (An (gU r r' f g h)):=
 PT.imp (Xg ho dP ha hb hc hm) λ_ _ _ q=>DK (HH q)
abbrev TW(X:Cx)(EX:Bi)(e:Expr)(f:FT):Prop:=PW X e (fF X.K EX f)
variable{p q:FT}{Cz:List Expr}
def gY(p q:FT):FT:=λ δ=>(p δ).bind λb=>if b=true then q δ else .ok false
def Fa(p q:FT):FT:=λ δ=>(p δ).bind λb=>if b=true then .ok true else q δ
def Cg(p:FT):FT:=λ δ=>(p δ).bind λb=> .ok (!b)
def HG(ha:TD X EX a p):TW X EX (.BoolOp .And [a] pos) p:=Vs ha
def lC(ha:TD X EX a p):TW X EX (.BoolOp .Or [a] pos) p:=Tx ha
def fF.two{σ:Sg}{Q:Bool->Hp->Prop}{k:Bool->DE->R Bool}{P:Bool->Hp->Prop}(h:fF K EX (λ δ=>(p δ).bind λb=>k b δ) σ H Q)
  (i:∀b H',fF K EX (k b) σ H' Q->P b H'):fF K EX p σ H P:=by
 obtain⟨G,δ,g0,s0,o⟩:=h;refine⟨G,δ,g0,s0, ?_⟩;cases e:p δ with
 |ok b=>
  simp only[e,R.aI]at o;refine λG' H' st=>i b H' ⟨G',δ,st.gh,s0.mono st.gg, ?_⟩;cases e2:k b δ with
  |ok c=>rw[e2]at o;exact λG2 H2 bC=>o G2 H2 (st.trans bC)
  |ex x=>rw[e2]at o;exact(EX σ).mono _ _ _ _ _ st o
  |no=>rw[e2]at o;exact o
 |ex x=>simp only[e,R.kr]at o;exact o
 |no=>simp only[e,R.kq]at o
def fF.now{σ:Sg}{Q:Bool->Hp->Prop}{c:Bool}(h:fF K EX (λ_=> .ok c) σ H Q):Q c H:=by
 obtain⟨G,δ,g0,s0,o⟩:=h;exact o G H (Step.refl g0)
def vy(ha:TD X EX a p)(hb:TW X EX (.BoolOp .And (b::Cz) pos) q):TW X EX (.BoolOp .And (a::b::Cz) pos) (gY p q):=
 PW.imp (Tw ha hb) λ σ H Q h=>fF.two (k:=λb δ=>if b=true then q δ else .ok false) h λb H' h'=>by
  cases b with
  |true=>rw[if_pos rfl];exact h'
  |false=>rw[if_neg A6];exact fF.now h'
def gO(ha:TD X EX a p)(hb:TW X EX (.BoolOp .Or (b::Cz) pos) q):TW X EX (.BoolOp .Or (a::b::Cz) pos) (Fa p q):=
 PW.imp (RX ha hb) λ σ H Q h=>fF.two (k:=λb δ=>if b=true then .ok true else q δ) h λb H' h'=>by
  cases b with
  |true=>rw[if_pos rfl];exact fF.now h'
  |false=>rw[if_neg A6];exact h'
def fZ{e:Expr}(h:TW X EX e p):TD X EX e p:=h.pt
def Gn(ha:TD X EX a p):TD X EX (.UnaryOp .Not a pos) (Cg p):=
 PT.imp (Tv ha) λ σ H Q h=>fF.two (k:=λb _=> .ok (!b)) h λb H' h'=>fF.now h'
def kR(f g:FE):FE:=λ δ=>(f δ).bind λa=>(Eb a.d).bind λk=>if k=true then g δ else .ok (.sh (.bl false))
def eOr(f g:FE):FE:=λ δ=>(f δ).bind λa=>(Eb a.d).bind λk=>if k=true then .ok (.sh (.bl true)) else g δ
def SN(f:FE):FE:=λ δ=>(f δ).bind λa=>(Eb a.d).bind λk=> .ok (.sh (.bl (!k)))
def qM{op}(h:ED X EX a f):ED X EX (.BoolOp op [a] pos) f:=Tu h
def tD.oF{σ:Sg}{Q:VK}{k:Bool->DE->R W}{P:Bool->Hp->Prop}(h:tD K EX (λ δ=>(f δ).bind λa=>(Eb a.d).bind λc=>k c δ) σ H Q)
  (i:∀c H',tD K EX (k c) σ H' Q->P c H'):tD K EX f σ H λx H'=>∃c,x=.bl c/\P c H':=by
 obtain⟨G,δ,g0,s0,o⟩:=h;refine tD.seq g0 s0 o λw v G1 H1 _ cG r1 o1=> ?_;revert r1 o1;cases w.d with
 |bl c=>intro r1 o1;cases r1;exact⟨c,rfl,i c H1 ⟨G1,δ,cG.gh,s0.mono cG.gg,o1⟩⟩
 |_=>intro _ o1;exact False.elim o1
def tD.now{σ:Sg}{Q:VK}{v:V}{d:D}(h:tD K EX (λ_=> .ok (.sh d)) σ H Q)(r:∀G,aU K G v d):Q v H:=by
 obtain⟨G,δ,g0,s0,o⟩:=h;exact WP.use o g0 (r G)
def qL(ha:ED X EX a f)(hb:ED X EX (.BoolOp .And (b::Cz) pos) g):ED X EX (.BoolOp .And (a::b::Cz) pos) (kR f g):=
 PE.imp (Tt ha hb) λ σ H Q h=>tD.oF (k:=λk δ=>if k=true then g δ else .ok (.sh (.bl false))) h λc H' h'=>by
  cases c with
  |true=>rw[if_pos rfl];exact h'
  |false=>rw[if_neg A6];exact tD.now h' λ_=> .bl false
def eIf(p:FT)(f g:FE):FE:=λ δ=>(p δ).bind λk=>if k=true then f δ else g δ
noncomputable def Cj:D->R Bool
 | .aJ=> .ok false
 | .bl b=> .ok b
 | .int i=> .ok (i != 0)
 | .str x=>if x.length<=16777216 then .ok ((x.length:Int) != 0) else .no
 | .lst ds=> .ok (!ds.isEmpty)
 | .tup ds=> .ok (!ds.isEmpty)
 |_=> .no
def Bb(f:FE):FT:=λ δ=>(f δ).bind λw=>Cj w.d
def IZ{G:Hp}{vs:List V}{ds:List D}(r:aB K G vs ds):(!ds.isEmpty)= !vs.isEmpty:=by cases r <;> rfl
def SU{G H:Hp}{v:V}{d:D}{k:Bool}(g:aA G H)(r:aU K G v d)(e:Cj d=.ok k):xR K v H k:=by
 cases r with
 |aJ=>cases e;rfl
 |bl b=>cases e;rfl
 |int i=>cases e;rfl
 |str x=>
  have e:(if x.length<=16777216 then R.ok ((x.length:Int) != 0) else .no)=.ok k:=e
  split at e
  ·rename_i hz;cases e;exact⟨by rw[F0];exact hz,rfl⟩
  ·cases e
 |lst h r=>cases e;exact .inl ⟨_,g.seq h,IZ r⟩
 |tup h r=>cases e;exact .inr (.inl ⟨_,aA.tupS g h,IZ r⟩)
 |dS _ _=>cases e
 |dR _ _ _ _ _=>cases e
 |aD _ _ _=>cases e
 |obj _ _ _ _=>cases e
def eJ(ha:ED X EX a f)(he:∀whole,isTrue a X.env whole=(do let v<-whole;standAt a.pos;holding [v] (truthy v)):=by intro _;rfl):TD X EX a (Bb f):=
 PT.imp (Xf ha he) λ σ H Q ⟨G,δ,g0,s0,o⟩=>by
  refine⟨G,δ,g0,s0, ?_⟩;unfold Bb at o;cases e:f δ with
  |ok w=>
   rw[e]at o;simp only[R.aI]at o;refine WP.intro λv G' H' st r=> ?_;cases e2:Cj w.d with
   |ok k=>rw[e2]at o;exact⟨k,SU st.gh r e2,o G' H' st⟩
   |ex x=>rw[e2]at o;exfalso;revert e2;cases w.d <;> simp only[Cj] <;> intro e2 <;> first|cases e2|(split at e2 <;> cases e2)
   |no=>rw[e2]at o;exact o.elim
  |ex x=>rw[e]at o;exact o
  |no=>rw[e]at o;exact o
variable{e:Expr}{es:List Expr}{fa:FA}
def Ac:FA:=λ_=> .ok []
def Aa(f:FE)(fa:FA):FA:=λ δ=>(f δ).bind λw=>(fa δ).bind λds=> .ok (w.d::ds)
def Am:AD X EX [] Ac:=PA.imp mn λ σ H Q ⟨G,δ,g0,s0,o⟩=>o [] G H (Step.refl g0) .nil
def Ae(ha:ED X EX e f)(hr:AD X EX es fa)(hs:starEach (e::es) X.env=(false,eval e X.env)::starEach es X.env:=by rfl):AD X EX (e::es) (Aa f fa):=
 PA.imp (lV ha hr hs) λ σ H Q ⟨G,δ,g0,s0,o⟩=>by
  refine⟨G,δ,g0,s0, ?_⟩;unfold Aa at o;cases e1:f δ with
  |ok w=>
   rw[e1]at o;simp only[R.aI]at o;refine WP.intro λv G' H' st r=>⟨G',δ,st.gh,s0.mono st.gg, ?_⟩;cases e2:fa δ with
   |ok ds=>rw[e2]at o;exact λvs G2 H2 bC r2=>o (v::vs) G2 H2 (st.trans bC) (.cons (r.mono bC.gg) r2)
   |ex x=>rw[e2]at o;exact(EX σ).mono _ _ _ _ _ st o
   |no=>rw[e2]at o;exact o
  |ex x=>rw[e1]at o;exact o
  |no=>rw[e1]at o;exact o
def qt(fa:FA):FE:=λ δ=>(fa δ).bind λds=>if ds.length<=16777216 then .ok (.sh (.tup ds)) else .no
def Ci(fa:FA):FE:=λ δ=>(fa δ).bind λds=>if ds.length<=16777216 then .ok (.ow (.lst ds)) else .no
def EO{x1}(ha:AD X EX es fa):ED X EX (.Tuple es x1 pos) (qt fa):=
 PE.imp (Tb ha) λ σ H Q ⟨G,δ,g0,s0,o⟩=>dY.seq g0 s0 o λds vs G' H' _ st r o'=>by
  split at o'
  ·rename_i hz;refine⟨by rw[r.length,F0];exact hz,λp hp=>o' (.ref p) _ _ (Step.new st.gh hp _) (.tup (cU.of Ce) (r.mono (kE (st.gh.free hp) _)))⟩
  ·exact o'.elim
def iR(ha:AD X EX es fa):ED X EX (.List es pos) (Ci fa):=
 PE.imp (vB ha) λ σ H Q ⟨G,δ,g0,s0,o⟩=>dY.seq g0 s0 o λds vs G' H' _ st r o'=>by
  split at o'
  ·rename_i hz;refine⟨by rw[r.length,F0];exact hz,λp hp=>rR o' st.gh r p hp⟩
  ·exact o'.elim
def rDc(K:Frag)(fn:AF):List V->Hp->VK->Prop:=λvs H Q=>∃(EX:jt) (G:Hp) (ds:List D),aA G H/\aB K G vs ds/\Out K EX G H (fn ds) Q
abbrev Ff(X:Cx)(v:Value)(fn:AF):Prop:=bN X v (rDc X.K fn)
def Ag(fn:AF)(fa:FA):FE:=λ δ=>(fa δ).bind fn
def HF{fn:AF}{σ:Sg}{Q:VK}(q:tD K EX (Ag fn fa) σ H Q):Ox (rDc K fn) (dY K EX fa) σ H Q:=by
 obtain⟨G,δ,g0,s0,o⟩:=q;exact dY.seq g0 s0 o λds vs G' H' _ st r o'=>⟨_,G',ds,st.gh,r,o'⟩
variable{x:Str}{pp:Pos}{id T:String}{fn:AF}
def Bx(hc:Ff X (.builtin id) fn)(hg:Gl X x)(hm:X.mg x=none)(hv:bootBuiltins x=some (.builtin id))(ha:AD X EX (e::es) fa)(hn:x≠ "__name__" :=by decide)(cZ:AG x:=by decide)
  (he:starEach (e::es) X.env=(false,eval e X.env)::starEach es X.env:=by rfl) (bH:(backTo pos (starEach es X.env)).any (·.1)=false:=by rfl):ED X EX (.Call (.Name x pp) (e::es) [] pos) (Ag fn fa):=
 PE.imp (Ja hc hg hm hv ha hn cZ he bH) λ_ _ _ q=>HF q
def tQ(hc:Ff X (.type T) fn)(hg:Gl X x)(hm:X.mg x=none)(hv:bootBuiltins x=some (.type T))(ha:AD X EX (e::es) fa)(hn:x≠ "__name__" :=by decide)(cZ:AG x:=by decide)
  (he:starEach (e::es) X.env=(false,eval e X.env)::starEach es X.env:=by rfl) (bH:(backTo pos (starEach es X.env)).any (·.1)=false:=by rfl):ED X EX (.Call (.Name x pp) (e::es) [] pos) (Ag fn fa):=
 PE.imp (Ys hc hg hm hv ha hn cZ he bH) λ_ _ _ q=>HF q
def Bw:D->D->R W
 | .lst ds,.int i=>match dC ds i with|some d=> .ok (.sh d)|none=> .no
 | .tup ds,.int i=>match dC ds i with|some d=> .ok (.sh d)|none=> .no
 | .str z,.int i=>if z.length<=16777216 then(match dC z.cps.toList i with|some c=> .ok (.sh (.str ⟨#[c]⟩))|none=> .no) else .no
 |_,_=> .no
theorem aB.dC{G:Hp}{vs:List V}{ds:List D}{i:Int}{d:D}(r:aB K G vs ds)(h:L2.dC ds i=some d):∃v,L2.dC vs i=some v/\aU K G v d:=by
 unfold L2.dC at h⊢;rw[r.length];cases e:kF ds.length i with
 |none=>rw[e]at h;cases h
 |some j=>rw[e]at h;exact r.get h
def Rc:px X (rD X.K Bw):=by
 intro value slice zd s σ H x y v u Q I rx ry h hs;obtain⟨EX,G,a,b,g,ra,rb,o⟩:=h;cases rb with
 |int i=>
  cases ra with
  |lst h r=>
   simp only[Bw]at o
   split at o
   ·rename_i d e;obtain⟨v,e1,r1⟩:=aB.dC r e;exact HL value slice zd s σ H _ _ _ _ Q I rx ry ⟨_,_,i,v,rfl,rfl,g.seq h,e1,WP.use o g r1⟩ hs
   ·exact o.elim
  |tup h r=>
   simp only[Bw]at o
   split at o
   ·rename_i d e;obtain⟨v,e1,r1⟩:=aB.dC r e;exact EU value slice zd s σ H _ _ _ _ Q I rx ry ⟨_,_,i,v,rfl,rfl,aA.tupS g h,e1,WP.use o g r1⟩ hs
   ·exact o.elim
  |str z=>
   simp only[Bw]at o
   split at o
   ·rename_i hz
    split at o
    ·rename_i c e;exact Ta value slice zd s σ H _ _ _ _ Q I rx ry ⟨z,i,c,rfl,rfl,by rw[F0];exact hz,e,WP.use o g (.str _)⟩ hs
    ·exact o.elim
   ·exact o.elim
  |_=>exact False.elim o
 |_=>cases ra <;> exact False.elim o
def Hl(ha:ED X EX a f)(hb:ED X EX b g)(hs:wa b:=by intro _ _;rfl):ED X EX (.Subscript a b pos) (Ah Bw f g):=
 PE.imp (DL Rc ha hb hs) λ_ _ _ q=>two q
end
end L3
namespace L2
open PySem PySem.Spec PyProof.Rows
section
variable{κ:Type} [DecidableEq κ]
noncomputable def Dk(kvs:List (κ×V))(k:κ):Option V:=(kvs.find? λkv=>decide (kv.1=k)).map (·.2)
noncomputable def Co(kvs:List (κ×V))(k:κ)(v:V):List (κ×V):=
 if(kvs.any λkv=>decide (kv.1=k))=true then kvs.map (λkv=>if kv.1=k then(kv.1,v) else kv) else kvs ++ [(k,v)]
def kC{p:κ×V}{r:List (κ×V)}{k:κ}(e:p.1=k):Dk (p::r) k=some p.2:=by simp[Dk,N6,e]
def jV{p:κ×V}{r:List (κ×V)}{k:κ}(e:¬p.1=k):Dk (p::r) k=Dk r k:=by simp[Dk,N6,e]
theorem nX(k:κ):∀kvs:List (κ×V),(kvs.any λkv=>decide (kv.1=k))=(Dk kvs k).isSome
 | []=>rfl
 |p::r=>by
  rw[Q6]
  by_cases e:p.1=k
  ·simp only[kC e,E8 e,Bool.true_or,Option.isSome_some]
  ·rw[jV e,K2 e,Bool.false_or];exact nX k r
theorem IY(k j:κ)(y:V):∀kvs:List (κ×V),Dk (kvs.map λkv=>if kv.1=k then(kv.1,y) else kv) j=(Dk kvs j).map λx=>if j=k then y else x
 | []=>rfl
 |p::r=>by
  have ih:=IY k j y r;rw[B1]
  by_cases h:p.1=k
  ·rw[if_pos h]
   by_cases e:p.1=j
   ·rw[kC (p:=(p.1,y)) e,kC e,L7,if_pos (e.symm.trans h)]
   ·rw[jV (p:=(p.1,y)) e,jV e,ih]
  ·rw[if_neg h]
   by_cases e:p.1=j
   ·rw[kC (p:=p) e,kC e,L7,if_neg (λz=>h (e.trans z))]
   ·rw[jV (p:=p) e,jV e,ih]
theorem JL(k j:κ)(y:V):∀kvs:List (κ×V),Dk kvs k=none->Dk (kvs ++ [(k,y)]) j=if j=k then some y else Dk kvs j
 | [],_=>by
  by_cases e:k=j
  ·rw[if_pos e.symm];exact kC (p:=(k,y)) e
  ·rw[if_neg (λz=>e z.symm)];exact jV (p:=(k,y)) e
 |p::r,hn=>by
  rw[Q9];have hk:¬p.1=k:=λz=>by rw[kC z]at hn;cases hn
  rw[jV hk]at hn;have ih:=JL k j y r hn
  by_cases e:p.1=j
  ·rw[kC e,kC e,if_neg (λz=>hk (e.trans z))]
  ·rw[jV e,jV e,ih]
def WS(kvs:List (κ×V))(k j:κ)(y:V):Dk (Co kvs k y) j=if j=k then some y else Dk kvs j:=by
 unfold Co
 by_cases a:(kvs.any λkv=>decide (kv.1=k))=true
 ·rw[if_pos a,IY];rw[nX]at a
  by_cases e:j=k
  ·obtain⟨x,hx⟩:=Q5.mp a;rw[if_pos e,e,hx,L7,if_pos rfl]
  ·rw[if_neg e];cases Dk kvs j with
   |none=>rfl
   |some x=>rw[L7,if_neg e]
 ·rw[if_neg a];refine JL k j y kvs ?_;rw[nX]at a;cases q:Dk kvs k with
  |none=>rfl
  |some x=>rw[q]at a;exact(a rfl).elim
def xC(kvs:List (κ×V))(k:κ)(v:V):(Co kvs k v).length<=kvs.length + 1:=by
 unfold Co
 split
 ·rw[A3];lia
 ·rw[A7,B5,K3];lia
def bJ.cW{o:Option V}{u:Option Value}(r:bJ o u):o.isSome=u.isSome:=by
 cases o with
 |none=>cases u with
  |none=>rfl
  |some _=>exact(show False from r).elim
 |some _=>cases u with
  |none=>exact(show False from r).elim
  |some _=>rfl
theorem bJ.getD{o:Option V}{u:Option Value}{d:V}{d':Value}(r:bJ o u)(rd:RelV d d'):RelV (o.getD d) (u.getD d'):=by
 cases o with
 |none=>cases u with
  |none=>exact rd
  |some _=>exact(show False from r).elim
 |some _=>cases u with
  |none=>exact(show False from r).elim
  |some _=>exact r
def KV.val{kvs:List (κ×V)}{vs:List (κ×Value)}(r:KV kvs vs)(k:κ):bJ (Dk kvs k) (valueAt vs k):=by
 unfold KV at r
 induction r with
 |nil=>exact True.intro
 | @cons p q ps qs h t ih=>
  obtain⟨h1,h2⟩:=h
  by_cases e:p.1=k
  ·have e':q.1=k:=h1.symm.trans e;have b:valueAt (q::qs) k=some q.2:=by simp[valueAt,N6,e']
   rw[kC e,b];exact h2
  ·have e':¬q.1=k:=λz=>e (h1.trans z);have b:valueAt (q::qs) k=valueAt qs k:=by simp[valueAt,N6,e']
   rw[jV e,b];exact ih
theorem KV.any{kvs:List (κ×V)}{vs:List (κ×Value)}(r:KV kvs vs)(k:κ):(kvs.any λkv=>decide (kv.1=k))=vs.any λkv=>decide (kv.1=k):=by
 unfold KV at r
 induction r with
 |nil=>rfl
 |cons h t ih=>rw[Q6,Q6,ih,h.1]
def KV.uS{kvs:List (κ×V)}{vs:List (κ×Value)}(r:KV kvs vs)(k:κ){y:V}{u:Value}(ry:RelV y u):
  KV (kvs.map λkv=>if kv.1=k then(kv.1,y) else kv) (vs.map λkv=>if kv.1=k then(kv.1,u) else kv):=by
 unfold KV at r⊢
 induction r with
 |nil=>exact .nil
 | @cons p q ps qs h t ih=>
  rw[B1,B1];refine .cons ?_ ih;obtain⟨h1,h2⟩:=h
  by_cases e:p.1=k
  ·rw[if_pos e,if_pos (h1.symm.trans e)];exact⟨h1,ry⟩
  ·rw[if_neg e,if_neg (λz=>e (h1.trans z))];exact⟨h1,h2⟩
def KV.put{kvs:List (κ×V)}{vs:List (κ×Value)}(r:KV kvs vs)(k:κ){y:V}{u:Value}(ry:RelV y u):KV (Co kvs k y) (stored vs k u):=by
 unfold Co stored;rw[r.any k]
 by_cases e:(vs.any λkv=>decide (kv.1=k))=true
 ·rw[if_pos e,if_pos e];exact r.uS k ry
 ·rw[if_neg e,if_neg e];exact Paired.snoc r ⟨rfl,ry⟩
theorem KV.length{kvs:List (κ×V)}{vs:List (κ×Value)}(r:KV kvs vs):kvs.length=vs.length:=S4 r
end
def la{P:Program}{w:World}{k:Ap}{u:Value}(r:RelV (kV k) u):(eG P w).is k u=true:=by
 cases k with
 |inl i=>obtain⟨t,e⟩:=(show∃t,u=Value.int i t from r);subst e;exact ZT P w i t
 |inr x=>obtain⟨t,e⟩:=(show∃t,u=Value.str x t from r);subst e;exact ZS P w x t
theorem JK{P:Program}{w:World}:∀{ks:List Ap} {us:List Value},Vals (ks.map kV) us->ItemsAre (eG P w) ks us
 | [],_,r=>by rw[O0]at r;cases r;exact .nil
 |k::ks,_,r=>by
  rw[B1]at r;cases r with
  |cons h t=>exact .cons (la h) (JK t)
abbrev KT(H:Hp):List (List Ap×V)->List (List Ap×Addr×Value)->Prop:=Paired λp q=>p.1=q.1/\H q.2.1=some (.tup (p.1.map kV))/\RelV p.2 q.2.2
def KT.val{kvs:List (List Ap×V)}{xs:List (List Ap×Addr×Value)}(r:KT H kvs xs)(k:List Ap):bJ (Dk kvs k) ((atKey xs k).map (·.2)):=by
 induction r with
 |nil=>exact True.intro
 | @cons p q ps qs h t ih=>
  obtain⟨h1,_,h2⟩:=h
  by_cases e:p.1=k
  ·have e':q.1=k:=h1.symm.trans e;have b:atKey (q::qs) k=some q.2:=by simp[atKey,N6,e']
   rw[kC e,b];exact h2
  ·have e':¬q.1=k:=λz=>e (h1.trans z);have b:atKey (q::qs) k=atKey qs k:=by simp[atKey,N6,e']
   rw[jV e,b];exact ih
def KT.uS{kvs:List (List Ap×V)}{xs:List (List Ap×Addr×Value)}(r:KT H kvs xs)(k:List Ap){y:V}{u:Value}(ry:RelV y u):
  KT H (kvs.map λkv=>if kv.1=k then(kv.1,y) else kv) (xs.map (putAt k u)):=by
 induction r with
 |nil=>exact .nil
 | @cons p q ps qs h t ih=>
  rw[B1,B1];refine .cons ?_ ih;obtain⟨h1,h2,h3⟩:=h;unfold putAt
  by_cases e:p.1=k
  ·rw[if_pos e,if_pos (h1.symm.trans e)];exact⟨h1,h2,ry⟩
  ·rw[if_neg e,if_neg (λz=>e (h1.trans z))];exact⟨h1,h2,h3⟩
def KT.put{kvs:List (List Ap×V)}{xs:List (List Ap×Addr×Value)}(r:KT H kvs xs)(k:List Ap){b:Addr}{y:V}{u:Value}(hb:H b=some (.tup (k.map kV)))(ry:RelV y u):
  KT H (Co kvs k y) (storedH xs k b u):=by
 have e:(kvs.any λkv=>decide (kv.1=k))=(atKey xs k).isSome:=by
  rw[nX,(r.val k).cW,Z2]
 unfold Co storedH;rw[e]
 by_cases q:(atKey xs k).isSome=true
 ·rw[if_pos q,if_pos q];exact r.uS k ry
 ·rw[if_neg q,if_neg q];exact Paired.snoc r ⟨rfl,hb,ry⟩
def KT.keeps{H H':Hp}{kvs:List (List Ap×V)}{xs:List (List Ap×Addr×Value)}(r:KT H kvs xs)(ht:∀b ys,H b=some (.tup ys)->H' b=some (.tup ys)):KT H' kvs xs:=
 Paired.uW r λ_ _ z=>⟨z.1,ht _ _ z.2.1,z.2.2⟩
section
variable{P:Program}{w:World}{H:Hp}{h:Heap}{a:Addr}
def DJ{u:HO}(ok:cH P w H h)(e:Rd H a u):aY P w H h a u:=e.ok ok
def gN{kvs:List (Ap×V)}(ok:cH P w H h)(e:Rd H a (.dK kvs)):kvs.length<=sizeLine/\(a ==sysModules)=false/\∃vs,KV kvs vs/\h.DictOf (eG P w) a vs:=
 show aY P w H h a (.dK kvs) from DJ ok e
def DI{kvs:List (Ap×V)}(ok:cH P w H h)(e:H a=some (.dK kvs)):kvs.length<=sizeLine/\(a ==sysModules)=false/\∃vs,KV kvs vs/\h.DictOf (eG P w) a vs:=gN ok (.inl e)
def nC{ks:List Ap}(ok:cH P w H h)(e:H a=some (.tup (ks.map kV))):(tupleKind (eG P w)).is h ks a:=by
 obtain⟨_,its,r,o,h1,h2,n,h3⟩:=(show aY P w H h a (.tup (ks.map kV)) from ok a _ e);exact⟨o,its.toArray,n,h1,h2,h3,by simpa using JK r⟩
def kZ{kvs:List (List Ap×V)}(ok:cH P w H h)(e:Rd H a (.dT kvs)):kvs.length<=sizeLine/\(a ==sysModules)=false/\
  ∃xs,KT H kvs xs/\h.DictOfH (tupleKind (eG P w)) a xs:=by
 obtain⟨z,y,xs,r,o,es,ep,h1,h2,h3,h4,h5⟩:=(show aY P w H h a (.dT kvs) from DJ ok e);refine⟨z,y,xs,r,o,es,ep,h1,h2,h3,h4,λx hx=> ?_,h5⟩;have all:∀{l:List (List Ap×V)} {m:List (List Ap×Addr×Value)},KT H l m->∀x∈m,(tupleKind (eG P w)).is h x.1 x.2.1:=by
  intro l m q
  induction q with
  |nil=>intro x hx;exact nomatch hx
  | @cons p q ps qs hq t ih=>
   intro x hx;rcases B8.mp hx with e|hx
   ·subst e;exact nC ok (by rw[<-hq.1];exact hq.2.1)
   ·exact ih x hx
 exact all r x hx
def RG{kvs:List (List Ap×V)}(ok:cH P w H h)(e:H a=some (.dT kvs)):kvs.length<=sizeLine/\(a ==sysModules)=false/\
  ∃xs,KT H kvs xs/\h.DictOfH (tupleKind (eG P w)) a xs:=kZ ok (.inl e)
end
def cV(H:Hp)(a:Addr)(y:V)(r:Option V):Prop:=
 (∃kvs k,Rd H a (.dK kvs)/\y=kV k/\r=Dk kvs k)\/∃kvs k b,Rd H a (.dT kvs)/\y=.ref b/\H b=some (.tup (k.map kV))/\r=Dk kvs k
def jG(H:Hp)(a:Addr)(y v:V)(H':Hp):Prop:=
 (∃kvs k,H a=some (.dK kvs)/\y=kV k/\kvs.length < sizeLine/\H'=upd H a (.dK (Co kvs k v)))\/
 ∃kvs k b,H a=some (.dT kvs)/\y=.ref b/\H b=some (.tup (k.map kV))/\kvs.length < sizeLine/\H'=upd H a (.dT (Co kvs k v))
def cV.t{a b:Addr}{kvs:List (List Ap×V)}{k:List Ap}(e:H a=some (.dT kvs))(eb:H b=some (.tup (k.map kV))):cV H a (.ref b) (Dk kvs k):=.inr ⟨kvs,k,b,.inl e,rfl,eb,rfl⟩
theorem jG.k{a:Addr}{kvs:List (Ap×V)}{k:Ap}{v:V}(e:H a=some (.dK kvs))(hl:kvs.length < sizeLine):jG H a (kV k) v (upd H a (.dK (Co kvs k v))):=.inl ⟨kvs,k,e,rfl,hl,rfl⟩
def jG.t{a b:Addr}{kvs:List (List Ap×V)}{k:List Ap}{v:V}(e:H a=some (.dT kvs))(eb:H b=some (.tup (k.map kV)))(hl:kvs.length < sizeLine):
  jG H a (.ref b) v (upd H a (.dT (Co kvs k v))):=.inr ⟨kvs,k,b,e,rfl,eb,hl,rfl⟩
section
variable{X:Cx}{zd:AE}{σ:St}{H:Hp}{s:Shared}{a:Addr}{y v:V}{u r:Value}{o:Option V}{A:Around}{E:AA}
def Inv.big(I:Inv X zd σ H s):sysModules < s.heap.objs.size:=by
 have h:mainGlobals < s.heap.objs.size:=(I.mod.glob.keeps I.bk).lt;exact Nat.lt_trans ⋯ h
def Ym{Q:AA}(hu:A.units + 1 < cLine)(I:Inv X zd σ H s)(g:cV H a y (some v))(ry:RelV y u)(h:∀w' s',Inv X zd σ H s'->RelV v w'->Q w' s'):
  wpAny (model X.prog X.w) A (getItem (.ref a) u) Q E s:=by
 rcases g with⟨kvs,k,e,ey,l⟩|⟨kvs,k,b,e,ey,eb,l⟩
 ·subst ey;obtain⟨z,hd,vs,rel,dd⟩:=gN I.aN e;obtain⟨w',hw,my⟩:=bJ.some_of (v:=v) (o:=valueAt vs k) (by rw[l];exact rel.val k);exact wpAny_getItem_of (la ry) dd.mapOf hw (h w' _ (I.tok _) my)
 ·subst ey;cases(show u=Value.ref b from ry);obtain⟨z,hd,xs,rel,dd⟩:=kZ I.aN e;obtain⟨w',hw,my⟩:=bJ.some_of (v:=v) (o:=(atKey xs k).map (·.2)) (by rw[l];exact rel.val k);obtain⟨p,hp,mI⟩:=N3.mp hw;refine wpAny_getItem_heap (U6 hu) (nC I.aN eb) dd hp ?_;rw[mI];exact h w' _ (I.tok _) my
def WZ{Q:AA}(hu:A.units + 1 < cLine)(I:Inv X zd σ H s)(g:cV H a y o)(ry:RelV y u)(h:∀s',Inv X zd σ H s'->Q (.bool o.isSome) s'):
  wpAny (model X.prog X.w) A (compareOp .In u (.ref a)) Q E s:=by
 rcases g with⟨kvs,k,e,ey,l⟩|⟨kvs,k,b,e,ey,eb,l⟩
 ·subst ey;obtain⟨z,hd,vs,rel,dd⟩:=gN I.aN e;refine wpAny_in_of (la ry) hd dd.mapOf ?_;rw[<-(rel.val k).cW,<-l];exact h _ (I.tok _)
 ·subst ey;cases(show u=Value.ref b from ry);obtain⟨z,hd,xs,rel,dd⟩:=kZ I.aN e;refine wpAny_in_heap (U6 hu) (nC I.aN eb) hd dd ?_;have q:=(rel.val k).cW;rw[Z2]at q;rw[<-q,<-l];exact h _ (I.tok _)
def vY{h':Heap}{t':Nat}{ob:HO}(I:Inv X zd σ H s)(mu:CF (H a))(hs:Heap.SameBut a s.heap h')(he:∃q,h'.get? a=some q)(new:aY X.prog X.w (upd H a ob) h' a ob):
  Inv X zd σ (upd H a ob) {s with heap:=h',toks:=t'}:=
 I.write (x:=a) (e:=a) mu (.inl rfl) (λb q hb z=>(hs.2 b hb).trans z) he new
def EN{P:Program}{w:World}{H':Hp}{h':Heap}{kvs:List (Ap×V)}{vs:List (Ap×Value)}(z:kvs.length<=sizeLine)(hd:(a ==sysModules)=false)(rel:KV kvs vs)(dd:h'.DictOf (eG P w) a vs):
  aY P w H' h' a (.dK kvs):=⟨z,hd,vs,rel,dd⟩
def Yl{H':Hp}{Q:Unit->Shared->Prop}(hu:A.units + 1 < cLine)(I:Inv X zd σ H s)(g:jG H a y v H')(ry:RelV y u)(rv:RelV v r)(h:∀s',Inv X zd σ H' s'->Q .unit s'):
  wpAny (model X.prog X.w) A (setItem (.ref a) u r) Q E s:=by
 rcases g with⟨kvs,k,e,ey,l,eH⟩|⟨kvs,k,b,e,ey,eb,l,eH⟩
 ·subst ey eH;obtain⟨z,hd,vs,rel,dd⟩:=DI I.aN e;have hz:vs.length<=sizeLine:=by rw[<-rel.length];exact z
  have hl:(Co kvs k v).length<=sizeLine:=by have:=xC kvs k v;lia
  refine wpAny_setItem_pairs (hsz:=hz) (la ry) dd λh' sW hs=>h _ ?_;have he:∃q,h'.get? a=some q:=let⟨q,_,_,hq,_⟩:=sW;⟨q,hq⟩;exact vY I (by rw[e];exact True.intro) hs he (EN hl hd (rel.put k rv) sW)
 ·subst ey eH;cases(show u=Value.ref b from ry);obtain⟨z,hd,xs,rel,dd⟩:=RG I.aN e;have hz:xs.length<=sizeLine:=by rw[<-S4 rel];exact z
  have hl:(Co kvs k v).length<=sizeLine:=by have:=xC kvs k v;lia
  refine wpAny_setItem_heap (hsz:=hz) (U6 hu) (nC I.aN eb) dd λh' sW hs=>h _ ?_;obtain⟨q,es,ep,hq,h2,h3,h4,_,h5⟩:=sW;refine vY I (by rw[e];exact True.intro) hs ⟨q,hq⟩ ⟨hl,hd,_,(rel.put k eb rv).keeps λc ys ec=> ?_,q,es,ep,hq,h2,h3,h4,h5⟩;rw[Be (RZ ec e (λz=>nomatch z))];exact ec
end
section
variable{X:Cx}{zd:AE}{σ:St}{H:Hp}{s:Shared}{a:Addr}{kvs:List (Ap×V)}{k:Ap}{u:Value}{A:Around}{E:AA}
end
def xU(i:Expr):Prop:=∀ov iv,subscripted i false ov iv=operate [ov,iv] (getItem ov iv)
def Vj{prog:Program}{w:World}{A:Around}{E:AA}{s:Shared}{env:Env}{value slice:Expr}{T id:String}{Q:AA}
  (hl:typeLookup (.type T) "__getitem__" =pure (some (.builtin id))) (hs:xU slice)
  (h:wpAny (model prog w) A (eval value env) (λo s₁=>wpAny (model prog w) A (eval slice env) (λi s₂=>s₂.TypeIs o T/\wpAny (model prog w) A (getItem o i) Q E s₂) E s₁) E s):
  wpAny (model prog w) A (eval (.Subscript value slice pos) env) Q E s:=by
 refine Subscript_ (D6 h (λo s₁ h₁=>D6 h₁ (λi s₂ h₂=> ?_) λ_ _ x=>x) λ_ _ x=>x);obtain⟨hT,h₂⟩:=h₂;unfold subscriptTail;refine A4 ?_;rw[getitemInPython_of_ne hT.not_modules];refine A4 (wpAny_specialOf hT hl ?_);have fin:wpAny (model prog w) A (subscripted slice false o i) (λr s₃=>wpAny (model prog w) A (letTemporaryGo value o r >>=λ_=>pure r) Q E s₃) E s₂:=by
  rw[hs o i];exact wpAny_operating (D6 h₂ (λr s₃ h₃=>A4 (wpAny_letTemporaryGo (D0 h₃))) λ_ _ x=>x)
 first
  |exact D0 (A4 fin)
  |exact A4 (D0 (A4 fin))
  |exact A4 fin
def ZR{zd:AE}{σ:St}{s:Shared}{a:Addr}{y:V}{o:Option V}(I:Inv X zd σ H s)(g:cV H a y o):s.TypeIs (.ref a) "dict" :=by
 rcases g with⟨kvs,k,e,_,_⟩|⟨kvs,k,b,e,_,_,_⟩
 ·obtain⟨_,_,vs,_,dd⟩:=gN I.aN e;exact dd.typeIs
 ·obtain⟨_,_,xs,_,dd⟩:=kZ I.aN e;exact dd.typeIs
def RF(td ty:TE):TE:=λ σ H Q=>td σ H λx H1=>ty σ H1 λy H2=>∃a v,x=.ref a/\cV H2 a y (some v)/\Q v H2
def RE(td ty tv:TE):TS:=λD σ H=>tv σ H λv H1=>td σ H1 λx H2=>ty σ H2 λy H3=>∃a H4,x=.ref a/\jG H3 a y v H4/\D.nx σ H4
section
variable{X:Cx}{o i e value:Expr}{pos pos' zi:Pos}{td ty tv:TE}
def Vi(hu:X.A.units + 1 < cLine)(ho:PE X o td)(hi:PE X i ty)(hs:xU i):PE X (.Subscript o i pos) (RF td ty):=by
 intro zd s σ H Q I h;refine Vj PySem.F.slot_dict_getitem.lookup hs (Bg (ho zd s σ H _ I h) λu s1 ⟨x,H1,I1,rx,q1⟩=>Bg (hi zd s1 σ H1 _ I1 q1) λiv s2 ⟨y,H2,I2,ry,a,v,ex,g,q2⟩=> ?_);subst ex;obtain rfl:u=Value.ref a:=rx;exact⟨ZR I2 g,Ym hu I2 g ry λw' s3 I3 my=>⟨v,H2,I3,my,q2⟩⟩
def Vh(hu:X.A.units + 1 < cLine)(ho:PE X o td)(hi:PE X i ty)(hv:PE X value tv)(hs:swapsWith value (some (.Subscript o i pos')) pos.line X.env=pure false):
  PS X (.Assign [.Subscript o i pos'] value pos) (RE td ty tv):=by
 intro zd s σ H D I h;refine wpAny_Assign_Subscript (Bg (hv zd s σ H _ I h) λr s1 ⟨v,H1,I1,rv,q1⟩=>Bg (ho zd s1 σ H1 _ I1 q1) λu s2 ⟨x,H2,I2,rx,q2⟩=>Bg (hi zd s2 σ H2 _ I2 q2) λiv s3 ⟨y,H3,I3,ry,a,H4,ex,g,q3⟩=> ?_) hs;subst ex;obtain rfl:u=Value.ref a:=rx;exact Yl hu I3 g ry rv λs4 I4=>⟨σ,H4,I4,q3⟩
end
def WR{P:Program}{w:World}(h:Heap)(hb:sysModules < h.objs.size):aY P w H (h.push {cls:=.type "dict",data:=.dict #[]}) h.objs.size (.dK []):=
 ⟨K8 _,N4.mpr (Ne.symm (C4 hb)),[],.nil,Heap.DictOf.new h⟩
def SS:TE:=λ_ H Q=>∀p,H p=none->Q (.ref p) (upd H p (.dK []))
section
variable{X:Cx}{pos:Pos}
def WQ:PE X (.Dict [] [] pos) SS:=λzd s σ H Q I h=>
 wpAny_Dict_empty ⟨.ref s.heap.objs.size,_,I.laid (a:=s.heap.objs.size) (o:=.dK []) (t':=s.toks) (λ_ _ q=>A5 _ q) (A9 _) (WR s.heap I.big),rfl,h _ (I.aN.fresh (A9 _))⟩
end
structure M1(X:Cx)(o:Expr)(m:Str)(zh:Pos)(e:Expr)(zf:Pos):Prop where
 base:attributeBase o m X.env (eval o X.env)=eval o X.env
 BH:((backTo zf (starEach [e] X.env)).all (λx=> !x.1) && (backToKw zf (keywordEach [] X.env)).all (λx=>x.1.isSome)
  && decide (([e]:List Expr).length + ([]:List Keyword).length + (if([]:List Keyword).isEmpty then 0 else 1) < 30))=true
 line:(zh.endLine ==zf.line)=true
 trees:backTo zf (starEach [e] X.env)= [(false,eval e X.env)]
structure M2(X:Cx)(o:Expr)(m:Str)(zh:Pos)(e f:Expr)(zf:Pos):Prop where
 base:attributeBase o m X.env (eval o X.env)=eval o X.env
 BH:((backTo zf (starEach [e,f] X.env)).all (λx=> !x.1) && (backToKw zf (keywordEach [] X.env)).all (λx=>x.1.isSome)
  && decide (([e,f]:List Expr).length + ([]:List Keyword).length + (if([]:List Keyword).isEmpty then 0 else 1) < 30))=true
 line:(zh.endLine ==zf.line)=true
 trees:backTo zf (starEach [e,f] X.env)= [(false,eval e X.env),(false,eval f X.env)]
def QI(H:Hp)(a:Addr):Prop:=(∃kvs,Rd H a (.dK kvs))\/∃kvs,Rd H a (.dT kvs)
def EK{zd:AE}{σ:St}{s:Shared}{a:Addr}(I:Inv X zd σ H s)(d:QI H a):
  s.TypeIs (.ref a) "dict" /\(∀b,Value.ref a=.ref b->∃ob,s.heap.get? b=some ob/\ob.dict=none)/\(a ==sysModules)=false:=by
 rcases d with⟨kvs,e⟩|⟨kvs,e⟩
 ·obtain⟨_,hd,vs,_,dd⟩:=gN I.aN e;refine⟨dd.typeIs,λb q=> ?_,hd⟩;cases q;obtain⟨ob,_,_,h1,h2,_⟩:=dd;exact⟨ob,h1,h2.2.1⟩
 ·obtain⟨_,hd,xs,_,dd⟩:=kZ I.aN e;refine⟨dd.typeIs,λb q=> ?_,hd⟩;cases q;obtain⟨ob,_,_,h1,h2,_⟩:=dd;exact⟨ob,h1,h2.2.1⟩
section
variable{X:Cx}{zd:AE}{σ:St}{H:Hp}{s:Shared}{a:Addr}{y d:V}{u r:Value}{o:Option V}{A:Around}{E:AA}
def SR{Q:AA}(hu:A.units + 1 < cLine)(I:Inv X zd σ H s)(g:cV H a y o)(ry:RelV y u)(rd:RelV d r)(h:∀w' s',Inv X zd σ H s'->RelV (o.getD d) w'->Q w' s'):
  wpAny (model X.prog X.w) A (call (.builtin "dict.get") [.ref a,u,r]) Q E s:=by
 rcases g with⟨kvs,k,e,ey,l⟩|⟨kvs,k,b,e,ey,eb,l⟩
 ·subst ey;obtain⟨z,hd,vs,rel,dd⟩:=gN I.aN e;refine Qi W3 dd.typeIs ZB2 (ZA1 _ _ _) (meets_dict_get_default (eG X.prog X.w) a (la ry) hd r) ⟨_,dd.mapOf,h _ _ (I.tok _) ?_⟩;rw[l];exact(rel.val k).getD rd
 ·subst ey;cases(show u=Value.ref b from ry);obtain⟨z,hd,xs,rel,dd⟩:=kZ I.aN e;refine Qi W3 dd.typeIs ZB2 (ZA1 _ _ _) (meetsH_dict_get_default (tupleKind (eG X.prog X.w)) a b hd r) ⟨U6 hu,k,xs,nC I.aN eb,dd,h _ _ (I.tok _) ?_⟩;rw[l];exact(rel.val k).getD rd
end
def SQ(td ty tx:TE):TE:=λ σ H Q=>td σ H λx H1=>∃a,x=.ref a/\QI H1 a/\ty σ H1 λy H2=>tx σ H2 λz H3=>∃o,cV H3 a y o/\Q (o.getD z) H3
section
variable{X:Cx}{o e f:Expr}{zh zf:Pos}{td ty tx:TE}
def WO(hu:X.A.units + 1 < cLine)(ho:PE X o td)(he:PE X e ty)(hf:PE X f tx)(m:M2 X o "get" zh e f zf):PE X (.Call (.Attribute o "get" zh) [e,f] [] zf) (SQ td ty tx):=by
 intro zd s σ H Q I h;refine wpAny_Call_method m.base m.BH m.line ZA2 W3 PySem.F.type_dict_get (Bg (ho zd s σ H _ I h) λu s1 ⟨x,H1,I1,rx,a,ex,d,q1⟩=> ?_);subst ex;obtain rfl:u=Value.ref a:=rx;obtain⟨t1,t2,_⟩:=EK I1 d;refine⟨t1,t2, ?_⟩;rw[m.trees];refine R8 rfl (X2 (M8 (Bg (he zd s1 σ H1 _ I1 q1) λiv s2 ⟨y,H2,I2,ry,q2⟩=>
  M8 (Bg (hf zd s2 σ H2 _ I2 q2) λfv s3 ⟨z,H3,I3,rz,ov,g,q3⟩=>Q0 ?_))))
 exact SR hu I3 g ry rz λw' s4 I4 my=>⟨_,H3,I4,my,q3⟩
end
section
variable{X:Cx}{zd:AE}{σ:St}{H:Hp}{s:Shared}{a:Addr}{kvs:List (Ap×V)}{A:Around}{E:AA}
end
section
variable{X:Cx}{zd:AE}{σ:St}{H:Hp}{s:Shared}{a:Addr}{y:V}{u:Value}{A:Around}{E:AA}
end
section
variable{X:Cx}
end
section
variable{κ:Type} [DecidableEq κ]
end
end L2
namespace L3
open PySem PySem.Spec PyProof.Rows L2
variable{K:Frag}{fd:FuncData}{mg:AB}{us:List Value}{base:Heap}{H:Hp}{X:Cx}{pos:Pos}
section
variable{X:Cx}
def Dl{EX:jt}{G H:Hp}{Q:VK}{d:D}{v:V}(o:Out K EX G H (.ok (.sh d)) Q)(g:aA G H)(r:aU K G v d):Q v H:=WP.use o g r
def RD(K:Frag):R2:=λx y H Q=>∃l b xs zs,x=.ref l/\y=.ref b/\bU K H l xs/\bU K H b zs/\xs.length + zs.length<=sizeLine/\∀p,H p=none->Q (.ref p) (upd H p (.lst (xs ++ zs)))
def Vg:cB X (binaryOp .Add) (RD X.K):=by
 intro zd s σ H x y v u Q I rx ry h;obtain⟨l,b,xs,zs,rfl,rfl,hH,hB,hz,q⟩:=h;cases rx;cases ry;obtain⟨its,r,⟨o,n,e,c,dd,dat⟩,z⟩:=I.list hH;obtain⟨uY,r2,⟨o2,n2,e2,c2,dd2,EL⟩,z2⟩:=I.list hB;have hl:=r.length;have hl2:=r2.length;obtain⟨cls,sW,data,sl⟩:=o;obtain⟨jm,jl,data2,tV⟩:=o2;simp only at c dd dat c2 dd2 EL;subst c dd dat c2 dd2 EL;refine concat_meets ⟨_,e,rfl⟩ ⟨_,e2,rfl⟩ noFill_list_add seq_list_add PySem.F.slot_list_add PySem.F.entry_list_add (PySem.F.args_list_add_2 _ _) (list_addW l b its.toArray uY.toArray n n2 none none sl tV (by rw[C7,C7];lia)) ⟨e,e2, ?_⟩;have ea:its.toArray ++ uY.toArray=(its ++ uY).toArray:=by simp
 rw[ea];exact⟨.ref _,_,I.qr (t':=s.toks) (r.append r2) (by rw[A7];lia),rfl,q _ I.fresh⟩
def Bq:D->D->R W
 | .int i,.int j=> .ok (.sh (.int (i + j)))
 | .str x,.str y=>if x.length + y.length<=16777216 then .ok (.sh (.str (x ++ y))) else .no
 | .lst a,.lst b=>if a.length + b.length<=16777216 then .ok (.ow (.lst (a ++ b))) else .no
 |_,_=> .no
def Cb:Ey X (binaryOp .Add) Bq:=by
 intro zd s σ H x y v u Q I rx ry h;obtain⟨EX,G,a,b,g,ra,rb,o⟩:=h;cases ra with
 |int i=>
  cases rb with
  |int j=>exact To zd s σ H _ _ _ _ Q I rx ry ⟨i,j,rfl,rfl,Dl o g (.int _)⟩
  |_=>exact False.elim o
 |str x=>
  cases rb with
  |str y=>
   simp only[Bq]at o
   split at o
   ·rename_i hz;exact Zo zd s σ H _ _ _ _ Q I rx ry ⟨x,y,rfl,rfl,by rw[F0];exact hz,Dl o g (.str _)⟩
   ·exact o.elim
  |_=>exact False.elim o
 |lst h1 r1=>
  cases rb with
  |lst h2 r2=>
   simp only[Bq]at o
   split at o
   ·rename_i hz;exact Vg zd s σ H _ _ _ _ Q I rx ry ⟨_,_,_,_,rfl,rfl,g.seq h1,g.seq h2,by rw[r1.length,r2.length,F0];exact hz,rR o g (r1.append r2)⟩
   ·exact o.elim
  |_=>exact False.elim o
 |_=>cases rb <;> exact False.elim o
def intD(C:Int->Int->Bool)(f:Int->Int->Int):D->D->R W
 | .int i,.int j=>if C i j=true then .ok (.sh (.int (f i j))) else .no
 |_,_=> .no
def nJ{fn:Value->Value->Sem Value}{C:Int->Int->Bool}{P:Int->Int->Prop}{f:Int->Int->Int}(h:cB X fn (rI P λi j=> .int (f i j)))(hC:∀i j,C i j=true->P i j):Ey X fn (intD C f):=by
 intro zd s σ H x y v u Q I rx ry q;obtain⟨EX,G,a,b,g,ra,rb,o⟩:=q;cases ra with
 |int i=>
  cases rb with
  |int j=>
   simp only[intD]at o
   split at o
   ·rename_i hc;exact h zd s σ H _ _ _ _ Q I rx ry ⟨i,j,rfl,rfl,hC i j hc,Dl o g (.int _)⟩
   ·exact o.elim
  |_=>exact False.elim o
 |_=>cases rb <;> exact False.elim o
def eM:D->D->R W:=intD (λ_ _=>true) (λi j=>i - j)
def Hg(i j:Int):Bool:=decide (i.natAbs < 18446744073709551616\/j.natAbs < 18446744073709551616)
def Et:D->D->R W:=intD Hg (λi j=>i * j)
noncomputable def divC(_ j:Int):Bool:=decide (0 < j/\j.natAbs < 1361129467683753853853498429727072845824)
def Cw:D->D->R W:=intD divC (λi j=>i / j)
def CS(_ j:Int):Bool:=decide (0 < j)
def Dz:D->D->R W:=intD CS (λi j=>i % j)
noncomputable def powC(i j:Int):Bool:=decide (0<=j/\j.natAbs<=1000000/\i.natAbs < 18446744073709551616)
def qo:D->D->R W:=intD powC (λi j=>i ^ j.toNat)
def jB:Ey X (binaryOp .Sub) eM:=nJ (P:=λ_ _=>True) (zy λ_ _ _ _ _ _ _ _ q=>sub_int q) λ_ _ _=>trivial
def Fm:Ey X (binaryOp .Mult) Et:=nJ Tj λi j h=>by
 have h:=D3 h;rcases h with h|h
 ·exact .inl ⟨by lia,by lia⟩
 ·exact .inr ⟨by lia,by lia⟩
def iU:Ey X (binaryOp .FloorDiv) Cw:=nJ (P:=λ_ j=>0 < j/\j.natAbs < 1361129467683753853853498429727072845824) (zy λi j _ _ _ _ _ hc q=>by
 have h1:(0:Int) < j:=hc.1;have h2:=hc.2;refine floordiv_int () ?_ (.inl (PyProof.noPylong_of_log2 ?_))
 ·rw[Int.fdiv_eq_ediv_of_nonneg i ()];exact q
 ·have:j.natAbs < 2 ^ 130:=by
   have e:(2:Nat) ^ 130=1361129467683753853853498429727072845824:=by decide
   lia
  have l:j.natAbs.log2 < 130:=(Nat.log2_lt ()).mpr this;lia) λi j h=>D3 h
def Ex:Ey X (binaryOp .Mod) Dz:=nJ Ti λi j h=>D3 h
def Vf{i j:Int}(h:powC i j=true):Mv i j:=by
 obtain⟨h1,h2,h3⟩:=D3 h;refine⟨h1,by lia, ?_⟩;have e:(2:Nat) ^ 64=18446744073709551616:=by decide
 lia
def Ve:Ey X (binaryOp .Pow) qo:=nJ Th λi j h=>Vf h
def mW(f:Int->Int->Bool):D->D->R W
 | .int i,.int j=> .ok (.sh (.bl (f i j)))
 |_,_=> .no
def rg{fn:Value->Value->Sem Value}{f:Int->Int->Bool}(h:cB X fn (sj λi j=> .bl (f i j))):Ey X fn (mW f):=by
 intro zd s σ H x y v u Q I rx ry q;obtain⟨EX,G,a,b,g,ra,rb,o⟩:=q;cases ra with
 |int i=>
  cases rb with
  |int j=>exact h zd s σ H _ _ _ _ Q I rx ry ⟨i,j,rfl,rfl,Dl o g (.bl _)⟩
  |_=>exact False.elim o
 |_=>cases rb <;> exact False.elim o
def mE:D->D->R W:=mW λi j=>decide (i < j)
def lY:D->D->R W:=mW λi j=>decide (i<=j)
def sT:D->D->R W:=mW λi j=>decide (j < i)
def BB:D->D->R W:=mW λi j=>decide (j<=i)
def lB:Ey X (compareOp .Lt) mE:=rg RL
def jy:Ey X (compareOp .LtE) lY:=rg RK
def qK:Ey X (compareOp .Gt) sT:=rg RJ
def EJ:Ey X (compareOp .GtE) BB:=rg RI
mutual
noncomputable def Ef:D->PyData
 | .aJ=> .none
 | .bl b=> .bool b
 | .int i=> .int i
 | .str x=> .str x
 | .lst ds=> .list (Fo ds)
 | .tup ds=> .tuple (Fo ds)
 | .aD _=> .dict []
 | .qb _ _ _=> .dict []
 | .obj _ _ _=> .dict []
noncomputable def Fo:List D->List PyData
 | []=> []
 |d::ds=>Ef d::Fo ds
end
mutual
theorem aU.reads(hK:X.K=K){zd:AE}{σ:Sg}{s:Shared}(I:Inv X zd σ H s){G:Hp}(g:aA G H):∀{v:V} {d:D} {u:Value},(Ef d).canLay0=true->aU K G v d->RelV v u->∃as,Reads s.heap u (Ef d) as
 |_,_,_,_,.aJ,r=>by cases r;exact⟨_,.none⟩
 |_,_,_,_,.bl b,r=>by cases r;exact⟨_,.bool b⟩
 |_,_,_,_,.int i,r=>by obtain⟨t,rfl⟩:=r;exact⟨_,.int i t⟩
 |_,_,_,_,.str x,r=>by obtain⟨t,rfl⟩:=r;exact⟨_,.str x t⟩
 |_,_,_,c,.lst h r,q=>by
  cases q;obtain⟨its,rv,⟨o,n,e,c',_,dat⟩,_⟩:=I.list (by rw[hK];exact g.seq h);obtain⟨as,z⟩:=aB.reads hK I g c r rv;exact⟨_,.list e c' dat z⟩
 |_,_,_,c,.tup h r,q=>by
  cases q;obtain⟨its,rv,⟨o,e,c',n,dat⟩,_⟩:=I.tuple (by rw[hK];exact aA.tupS g h);obtain⟨as,z⟩:=aB.reads hK I g c r rv;exact⟨_,.tuple e c' dat z⟩
 |_,_,_,c,.dS _ _,_=>absurd c A6
 |_,_,_,c,.dR _ _ _ _ _,_=>absurd c A6
 |_,_,_,c,.aD _ _ _,_=>absurd c A6
 |_,_,_,c,.obj _ _ _ _,_=>absurd c A6
theorem aB.reads(hK:X.K=K){zd:AE}{σ:Sg}{s:Shared}(I:Inv X zd σ H s){G:Hp}(g:aA G H):∀{vs:List V} {ds:List D} {us:List Value},PyData.canLayAll0 (Fo ds)=true->aB K G vs ds->Vals vs us->∃as,ReadsAll s.heap us (Fo ds) as
 |_,_,_,_,.nil,r=>by cases r;exact⟨_,.nil⟩
 |_,_,_,c,.cons h t,r=>by
  cases r with
  |cons r1 r2=>
   have c':(PyData.canLay0 (Ef _) && PyData.canLayAll0 (Fo _))=true:=c;rw[C9]at c';obtain⟨a1,z1⟩:=aU.reads hK I g c'.1 h r1;obtain⟨a2,z2⟩:=aB.reads hK I g c'.2 t r2;exact⟨_,.cons z1 z2⟩
end
def ka(a b:D):Bool:=(Ef a).canLay0 && (Ef b).canLay0 && decide ((Ef a).depth<=60)
def Hc(a b:D):Bool:=(Ef a).eqv (Ef b)
def Dm(a b:D):R W:=match a,b with
 | .str x,.str y=> .ok (.sh (.bl (decide (x=y))))
 |a,b=>if ka a b=true then .ok (.sh (.bl (Hc a b))) else .no
def fP(a b:D):R W:=match a,b with
 | .str x,.str y=> .ok (.sh (.bl (!decide (x=y))))
 |a,b=>if ka a b=true then .ok (.sh (.bl (!Hc a b))) else .no
def IX(x y:Str):decide (V.str x=V.str y)=decide (x=y):=by
 by_cases e:x=y
 ·subst e;simp
 ·rw[K2 e,K2 (λz=>e (by injection z))]
def Gg(hu:X.A.units + 64 < cLine):Ey X (compareOp .Eq) Dm:=by
 intro zd s σ H x y v u Q I rx ry q;obtain⟨EX,G,a,b,g,ra,rb,o⟩:=q;unfold Dm at o
 split at o
 ·rename_i x y;cases ra;cases rb;exact RN zd s σ H _ _ _ _ Q I rx ry ⟨rfl,by rw[IX];exact Dl o g (.bl _)⟩
 ·split at o
  ·rename_i hc;unfold ka at hc;rw[C9,C9]at hc;obtain⟨⟨h1,h2⟩,h3⟩:=hc;have h3:=D3 h3;obtain⟨as,za⟩:=aU.reads rfl I g h1 ra rx;obtain⟨bs,zb⟩:=aU.reads rfl I g h2 rb ry;refine PySem.SeqAt.compareEq_reads za zb h1 h2 ?_ ⟨.bl _,H,I,rfl,Dl o g (.bl _)⟩;have:=Nat.min_le_left (Ef a).depth (Ef b).depth;lia
  ·exact o.elim
def qJ(hu:X.A.units + 64 < cLine):Ey X (compareOp .NotEq) fP:=by
 intro zd s σ H x y v u Q I rx ry q;obtain⟨EX,G,a,b,g,ra,rb,o⟩:=q;unfold fP at o
 split at o
 ·rename_i x y;cases ra;cases rb;exact RM zd s σ H _ _ _ _ Q I rx ry ⟨rfl,by rw[IX];exact Dl o g (.bl _)⟩
 ·split at o
  ·rename_i hc;unfold ka at hc;rw[C9,C9]at hc;obtain⟨⟨h1,h2⟩,h3⟩:=hc;have h3:=D3 h3;obtain⟨as,za⟩:=aU.reads rfl I g h1 ra rx;obtain⟨bs,zb⟩:=aU.reads rfl I g h2 rb ry;refine PySem.SeqAt.compareNe_reads za zb h1 h2 ?_ ⟨.bl _,H,I,rfl,Dl o g (.bl _)⟩;have:=Nat.min_le_left (Ef a).depth (Ef b).depth;lia
  ·exact o.elim
def Bf:D->Bool
 | .aJ=>true
 | .bl _=>true
 | .int _=>true
 | .str _=>true
 |_=>false
noncomputable def yK:D->V
 | .bl b=> .bl b
 | .int i=> .int i
 | .str x=> .str x
 |_=> .aJ
def aU.fl{G:Hp}{v:V}{d:D}(r:aU K G v d)(f:Bf d=true):v=yK d/\Hm v=true:=by
 cases r with
 |aJ=>exact⟨rfl,rfl⟩
 |bl b=>exact⟨rfl,rfl⟩
 |int i=>exact⟨rfl,rfl⟩
 |str x=>exact⟨rfl,rfl⟩
 |lst _ _=>cases f
 |tup _ _=>cases f
 |dS _ _=>cases f
 |dR _ _ _ _ _=>cases f
 |aD _ _ _=>cases f
 |obj _ _ _ _=>cases f
def aU.uU{G G':Hp}{v:V}{d:D}(r:aU K G v d)(f:Bf d=true):aU K G' v d:=by
 cases r with
 |aJ=>exact .aJ
 |bl b=>exact .bl b
 |int i=>exact .int i
 |str x=>exact .str x
 |lst _ _=>cases f
 |tup _ _=>cases f
 |dS _ _=>cases f
 |dR _ _ _ _ _=>cases f
 |aD _ _ _=>cases f
 |obj _ _ _ _=>cases f
theorem aB.fl{G:Hp}:∀{vs:List V} {ds:List D},aB K G vs ds->ds.all Bf=true->vs=ds.map yK/\vs.all Hm=true
 |_,_,.nil,_=>⟨rfl,rfl⟩
 |_,_,.cons h r,f=>by
  rw[X0,C9]at f;obtain⟨e1,e2⟩:=h.fl f.1;obtain⟨e3,e4⟩:=aB.fl r f.2;exact⟨by rw[B1,<-e1,<-e3],by rw[X0,e2,e4];rfl⟩
def PO(a b:D):Bool:=qc (yK a) (yK b)
def Ds(d:D)(ds:List D):Bool:=ds.any λy=>PO y d
def HE(d:D)(ds:List D):Ng (yK d) (ds.map yK)=Ds d ds:=by
 unfold Ng Ds;rw[List.any_map];rfl
def inD(neg:Bool):D->D->R W
 | .str i,.str j=> .ok (.sh (.bl (if neg then !(!(Builtin.Str.occurrences j i 0 j.length 1).isEmpty) else !(Builtin.Str.occurrences j i 0 j.length 1).isEmpty)))
 |d,.lst ds=>if(Bf d && ds.all Bf)=true then .ok (.sh (.bl (if neg then !Ds d ds else Ds d ds))) else .no
 |d,.tup ds=>if(Bf d && ds.all Bf)=true then .ok (.sh (.bl (if neg then !Ds d ds else Ds d ds))) else .no
 |_,_=> .no
def HD{EX:jt}{G H:Hp}{x y:V}{d:D}{e:D}{Q:VK}{neg:Bool}(g:aA G H)(ra:aU X.K G x d)(rb:aU X.K G y e)(hd:∀i j,d=.str i->e=.str j->False)(o:Out X.K EX G H (inD neg d e) Q):OG X.K neg x y H Q:=by
 cases rb with
 |lst h r=>
  rename_i ds;have o':Out X.K EX G H (if(Bf d && ds.all Bf)=true then .ok (.sh (.bl (if neg then !Ds d ds else Ds d ds))) else .no) Q:=by
   cases d <;> exact o
  split at o'
  ·rename_i f;rw[C9]at f;obtain⟨e1,e2⟩:=ra.fl f.1;obtain⟨e3,e4⟩:=r.fl f.2;refine⟨_,_,rfl,.inl (g.seq h),e2,e4, ?_⟩;rw[e1,e3,HE];exact Dl o' g (.bl _)
  ·exact o'.elim
 |tup h r=>
  rename_i ds;have o':Out X.K EX G H (if(Bf d && ds.all Bf)=true then .ok (.sh (.bl (if neg then !Ds d ds else Ds d ds))) else .no) Q:=by
   cases d <;> exact o
  split at o'
  ·rename_i f;rw[C9]at f;obtain⟨e1,e2⟩:=ra.fl f.1;obtain⟨e3,e4⟩:=r.fl f.2;refine⟨_,_,rfl,.inr (aA.tupS g h),e2,e4, ?_⟩;rw[e1,e3,HE];exact Dl o' g (.bl _)
  ·exact o'.elim
 |str j=>
  cases d with
  |str i=>exact(hd i j rfl rfl).elim
  |_=>exact False.elim o
 |_=>cases d <;> exact False.elim o
def SM:Ey X (compareOp .In) (inD false):=by
 intro zd s σ H x y v u Q I rx ry q;obtain⟨EX,G,a,b,g,ra,rb,o⟩:=q
 by_cases hs:∃i j,a=.str i/\b=.str j
 ·obtain⟨i,j,rfl,rfl⟩:=hs;cases ra;cases rb;exact Yw zd s σ H _ _ _ _ Q I rx ry ⟨i,j,rfl,rfl,Dl o g (.bl _)⟩
 ·exact Yr zd s σ H _ _ _ _ Q I rx ry (HD g ra rb (λi j e1 e2=>hs ⟨i,j,e1,e2⟩) o)
def wZ:Ey X (compareOp .NotIn) (inD true):=by
 intro zd s σ H x y v u Q I rx ry q;obtain⟨EX,G,a,b,g,ra,rb,o⟩:=q
 by_cases hs:∃i j,a=.str i/\b=.str j
 ·obtain⟨i,j,rfl,rfl⟩:=hs;cases ra;cases rb;exact aam zd s σ H _ _ _ _ Q I rx ry ⟨i,j,rfl,rfl,Dl o g (.bl _)⟩
 ·exact aan zd s σ H _ _ _ _ Q I rx ry (HD g ra rb (λi j e1 e2=>hs ⟨i,j,e1,e2⟩) o)
def Bu:List D->R W
 | [.str x]=>if x.length<=16777216 then .ok (.sh (.int x.length)) else .no
 | [.lst ds]=> .ok (.sh (.int ds.length))
 | [.tup ds]=> .ok (.sh (.int ds.length))
 |_=> .no
def Df:Ff X (.builtin "len") Bu:=by
 intro zd s σ H vs us Q I rv q;obtain⟨EX,G,ds,g,r,o⟩:=q;cases r with
 |nil=>exact False.elim o
 |cons h t=>
  cases t with
  |cons _ _=>cases h <;> exact False.elim o
  |nil=>
   cases h with
   |str x=>
    simp only[Bu]at o
    split at o
    ·rename_i hz;exact aal zd s σ H _ _ Q I rv ⟨x,rfl,by rw[F0];exact hz,Dl o g (.int _)⟩
    ·exact o.elim
   |lst h r=>exact LC zd s σ H _ _ Q I rv ⟨_,_,rfl,.inl (g.seq h),by rw[r.length];exact Dl o g (.int _)⟩
   |tup h r=>exact LC zd s σ H _ _ Q I rv ⟨_,_,rfl,.inr (aA.tupS g h),by rw[r.length];exact Dl o g (.int _)⟩
   |_=>exact False.elim o
def Fd:List D->R W
 | [.int i,.int j]=> .ok (.sh (.int (if j > i then j else i)))
 |_=> .no
def Gj:List D->R W
 | [.int i,.int j]=> .ok (.sh (.int (if j < i then j else i)))
 |_=> .no
def IW{G:Hp}{vs:List V}{ds:List D}(r:aB K G vs ds){P:Prop}(h:∀i j,vs= [.int i,.int j]->ds= [.int i,.int j]->P)(n:(∀i j,ds≠ [.int i,.int j])->P):P:=by
 by_cases e:∃i j,ds= [.int i,.int j]
 ·obtain⟨i,j,rfl⟩:=e;cases r with
  |cons a t=>
   cases t with
   |cons b t2=>
    cases t2;cases a;cases b;exact h i j rfl rfl
 ·exact n λi j z=>e ⟨i,j,z⟩
def Vd{ds:List D}(h:∀i j,ds≠ [.int i,.int j]):Fd ds=.no:=by
 unfold Fd
 split
 ·rename_i i j;exact absurd rfl (h i j)
 ·rfl
def Vc{ds:List D}(h:∀i j,ds≠ [.int i,.int j]):Gj ds=.no:=by
 unfold Gj
 split
 ·rename_i i j;exact absurd rfl (h i j)
 ·rfl
def yi(hc:X.calm=true):Ff X (.builtin "max") Fd:=by
 intro zd s σ H vs us Q I rv q;obtain⟨EX,G,ds,g,r,o⟩:=q;refine IW r (λi j e1 e2=> ?_) λn=> ?_
 ·subst e1 e2;exact Yv hc zd s σ H _ _ Q I rv ⟨i,j,rfl,Dl o g (.int _)⟩
 ·rw[Vd n]at o;exact o.elim
def og(hc:X.calm=true):Ff X (.builtin "min") Gj:=by
 intro zd s σ H vs us Q I rv q;obtain⟨EX,G,ds,g,r,o⟩:=q;refine IW r (λi j e1 e2=> ?_) λn=> ?_
 ·subst e1 e2;exact Yu hc zd s σ H _ _ Q I rv ⟨i,j,rfl,Dl o g (.int _)⟩
 ·rw[Vc n]at o;exact o.elim
def kY:List D->R W
 | [.int i]=> .ok (.sh (.int i))
 | [.bl k]=> .ok (.sh (.int (if k then 1 else 0)))
 |_=> .no
def Zg:Ff X (.type "int") kY:=by
 intro zd s σ H vs us Q I rv q;obtain⟨EX,G,ds,g,r,o⟩:=q;cases r with
 |nil=>exact False.elim o
 |cons h t=>
  cases t with
  |cons _ _=>cases h <;> exact False.elim o
  |nil=>
   cases h with
   |int i=>exact JW zd s σ H _ _ Q I rv (.inl ⟨i,rfl,Dl o g (.int _)⟩)
   |bl k=>exact JW zd s σ H _ _ Q I rv (.inr ⟨k,rfl,Dl o g (.int _)⟩)
   |_=>exact False.elim o
def Gi:List D->R W
 | [.lst ds]=> .ok (.ow (.lst ds))
 | [.tup ds]=> .ok (.ow (.lst ds))
 |_=> .no
def yS:Ff X (.type "list") Gi:=by
 intro zd s σ H vs us Q I rv q;obtain⟨EX,G,ds,g,r,o⟩:=q;cases r with
 |nil=>exact False.elim o
 |cons h t=>
  cases t with
  |cons _ _=>cases h <;> exact False.elim o
  |nil=>
   cases h with
   |lst h r=>exact LB zd s σ H _ _ Q I rv ⟨_,_,rfl,.inl (g.seq h),rR o g r⟩
   |tup h r=>exact LB zd s σ H _ _ Q I rv ⟨_,_,rfl,.inr (aA.tupS g h),rR o g r⟩
   |_=>exact False.elim o
end
structure aE(c:Bool)(k:Nat)(A:Around):Prop where
 hd:c=true->A.handled=none
 dp:A.depth + 3 * k + 5 < recursionLimit
 un:A.units + 16 * k + 200 < cLine
def aE.mono{c:Bool}{j k:Nat}{A:Around}(r:aE c k A)(h:j<=k):aE c j A:=⟨r.hd,by have:=r.dp;lia,by have:=r.un;lia⟩
theorem aE.deeper{c:Bool}{k:Nat}{A:Around}(r:aE c (k + 1) A)(env:Env):aE c k (A.deeper env):=
 ⟨r.hd,by have:=r.dp;show A.depth + 1 + 3 * k + 5 < _;lia,by have:=r.un;show A.units + 3 + 16 * k + 200 < _;lia⟩
def aE.make{c:Bool}{k:Nat}{A:Around}(r:aE c (k + 1) A)(C:Addr)(us:List Value)(kw:List (Str×Value)):aE c k (A.under (.builtin "type.__call__" ⟨.ref C::us,kw⟩)):=
 ⟨r.hd,by have:=r.dp;rw[Zl];lia,by have:=r.un;rw[Zk];lia⟩
def aE.loose{c:Bool}{k:Nat}{A:Around}(r:aE c k A):aE false k A:=⟨λz=>absurd z A6,r.dp,r.un⟩
theorem aE.mark{c:Bool}{k:Nat}{A:Around}(r:aE c k A)(h:Option Value):aE false k (A.mark h):=⟨λz=>absurd z A6,r.dp,r.un⟩
def aE.of{k:Nat}{A:Around}(r:dX k A):aE true k A:=⟨λ_=>r.hd,r.dp,r.un⟩
structure bO(P:Program)(w:World)(K:Frag)(mg:AB)(base:Heap)(c:Bool)(k:Nat)(f:Addr)(fd:FuncData)(ps:List Str)(sp:Sp):Prop where
 len:∀vs H Q E,sp vs H Q E->vs.length=ps.length
 run:∀(A:Around) (outer:List Env) (s:Shared) (H:Hp) (args:Args) (us:List Value) (vs:List V) (Q:VK) (E:XK),aE c k A->dA P w K mg base A outer s H->BindsTo s fd args (ps.zip us)->Vals vs us->sp vs H Q E->
  codeAny (model P w) A (.call (.ref f) args) (CR (ke P w) outer P w H s Q E) s
abbrev Fx(c:Bool)(P:Program)(w:World)(K:Frag)(mg:AB)(base:Heap)(N:List Str)(qual:Str)(scope:Scope)(f:Addr)(cd:Value)(A:Around)(outer:List Env)(s:Shared)(H:Hp)(E:XK):Cx:=
 {Gc (ke P w) P w K mg base N qual scope f cd A outer s H E with calm:=c}
def Zf{c:Bool}{P:Program}{w:World}{N ps:List Str}{qual:Str}{scope:Scope}{f:Addr}{cd:Value}{A:Around}{outer:List Env}{s s1:Shared}{E:XK}{vs:List V}
  (S:bA N ps scope) (hd:c=true->A.handled=none) (e0:dA P w K mg base A outer s H) (hl:vs.length=ps.length) (r:Vals vs us)
  (x:InCallC s s.heap.objs.size (bindL (envOfC qual scope s.heap.objs.size f cd).kindOf (ps.zip us) λ_=>none) (cellsFrom (s.heap.objs.size + 1) scope.names []) (bindC (envOfC qual scope s.heap.objs.size f cd).kindOf (ps.zip us) λ_=>none) s1):
  Inv (Fx c P w K mg base N qual scope f cd A outer s H E) [] (iH N vs) H s1:=by
 have I:=Yt (CX:=ke P w) (E:=E) (qual:=qual) (f:=f) (cd:=cd) (A:={A with handled:=none}) S rfl ⟨e0.frames,e0.mod,e0.bs,e0.fU,e0.bV,e0.kH,e0.aN,e0.bare,e0.tb⟩ hl r x;exact⟨⟨I.ok.mod,I.ok.kind,I.ok.glob,I.ok.blt,I.ok.above,I.ok.inj,I.ok.has,I.ok.qg,hd,X1 e0.frames,I.ok.rZ,I.ok.yL,I.ok.bs,I.ok.fU,I.ok.dQ,I.ok.gB,I.ok.bV,I.ok.kH,I.ok.tb⟩,
  I.os,I.bare,I.base,I.loc,I.cell,I.free,I.bD,I.pin,I.aN,I.len⟩
def EI{c:Bool}{P:Program}{w:World}{k:Nat}{f:Addr}{name qual:Str}{params:Arguments}{body:List Stmt}{scope:Scope}{dV kV doc pm zp ct oc:Value}{an od:Option Addr}
  {oO:Array (Option Value)} {N ps:List Str} {sp:Sp} (lk:K.lookup f=some ⟨oc,od,.func (fnOf name qual params body scope dV kV doc pm an zp ct),oO⟩) (bT:codeIn K zp qual=true) (S:bA N ps scope)
  (len:∀vs H Q E,sp vs H Q E->vs.length=ps.length)
  (zj:∀(A:Around) (outer:List Env) (s:Shared) (H:Hp) (vs:List V) (Q:VK) (E:XK),aE c k (A.deeper (envOfC qual scope s.heap.objs.size f zp))->sp vs H Q E->
   ∃t,fW (Fx c P w K mg base N qual scope f zp A outer s H E) body t/\t {nx:=λ_ H'=>Q .aJ H',rt:=Q} (iH N vs) H):
  bO P w K mg base c (k + 1) f (fnOf name qual params body scope dV kV doc pm an zp ct) ps sp:=by
 refine⟨len,λA outer s H args us vs Q E hr e0 hb r sJ=> ?_⟩;have hl:=len _ _ _ _ sJ;have KX:K.In s.heap:=e0.mod.lZ.keeps λb o e=>(e0.bs b o e).1;have lim:s.heap.NoLimit:=e0.mod.nolimit.keeps λb o e=>(e0.bs b o e).1;have dh:∀y∈ps.zip us,scope.names.lookup y.1=some .local\/(scope.names.lookup y.1=some .cell/\((cellsFrom (s.heap.objs.size + 1) scope.names []).lookup y.1).isSome=true):=λ⟨n,v⟩ hy=>by
  rcases S.par n (Qv hy).1 with q|q
  ·exact .inl q
  ·exact .inr ⟨q,ZC7 _ _ _ (.inl q)⟩
 have dp:A.depth < recursionLimit:=by have:=hr.dp;lia
 refine codeAny_call_function dp (KX _ _ lk) rfl S.co S.gen rfl (codeRec_of KX bT) (hb _ _ _ _ ?_);refine wpAny_newFunctionEnv_cells S.kind dh λenv he s1 x=> ?_;subst he;refine⟨lim.keeps x.toInCall.keep,codeAny_func ?_⟩;obtain⟨t,ht,hq⟩:=zj A outer s H vs Q E (hr.deeper _) sJ;have I:Inv (Fx c P w K mg base N qual scope f zp A outer s H E) [] (iH N vs) H s1:=Zf S hr.hd e0 hl r x;refine D6 (ht [] s1 (iH N vs) H _ I hq) (λfl s' hs=> ?_) λe s' hs=>hs;have fin:∀{σ':Sg} {H':Hp} {v:V} {u:Value},Inv (Fx c P w K mg base N qual scope f zp A outer s H E) [] σ' H' s'->RelV v u->Q v H'->CE outer P w H s Q u s':=
  λ{σ' H' v u} J rv q=>⟨v,H',J.os,J.bare,J.base,J.aN,rv,q⟩
 cases fl with
 |ret u=>
  obtain⟨v,σ',H',J,rv,q⟩:=hs;exact fin J rv q
 |next=>
  obtain⟨σ',H',J,q⟩:=hs;exact fin (v:=V.aJ) (u:=Value.none) J rfl q
 |brk=>
  obtain⟨_,_,_,q⟩:=hs;exact False.elim q
 |cont=>
  obtain⟨_,_,_,q⟩:=hs;exact False.elim q
def bI.OJ{c:Bool}{P:Program}{w:World}{x qual:Str}{st:Stmt}{f:Addr}{N ps:List Str}{k:Nat}{sp:Sp}(F:bI K x qual st f fd)(S:bA N ps (Cr st))(len:∀vs H Q E,sp vs H Q E->vs.length=ps.length)
  (zj:∀(zp:Value) (A:Around) (outer:List Env) (s:Shared) (H:Hp) (vs:List V) (Q:VK) (E:XK),aE c k (A.deeper (envOfC qual (Cr st) s.heap.objs.size f zp))->sp vs H Q E->
   ∃t,fW (Fx c P w K mg base N qual (Cr st) f zp A outer s H E) (Gk st) t/\t {nx:=λ_ H'=>Q .aJ H',rt:=Q} (iH N vs) H):bO P w K mg base c (k + 1) f fd ps sp:=by
 obtain⟨oc,od,kV,doc,pm,an,zp,ct,oO,rfl,lk,bT⟩:=F.ex;exact EI lk bT S len λA outer s H vs Q E hr sJ=>zj zp A outer s H vs Q E hr sJ
def Lk(X:Cx)(EX:Bi):Prop:=∀(zd:AE) (σ:Sg) (H:Hp) (s:Shared) (e:Value) (s':Shared),Inv X zd σ H s->ke X.prog X.w X.stack H s (pz X.K (EX σ)) e s'->X.xe e s'
def iT:Lk X Ej:=λzd σ H s e s' I c=>by
 obtain⟨a,C,dx,T,H',_,_,_,_,_,_,_,_,_,_,x,G,_,_,q⟩:=c;exact False.elim q
def vx{c:Bool}{P:Program}{w:World}{N:List Str}{qual:Str}{scope:Scope}{f:Addr}{cd:Value}{A:Around}{outer:List Env}{s:Shared}{E:XK}:
  Lk (Fx c P w K mg base N qual scope f cd A outer s H E) (λ_=>bQ K E):=λzd σ H s e s' I h=>Yo I h λcls dx H' q=>q.of
def Br(K:Frag)(n:Nat)(F:AF):Sp:=λvs H Q E=>vs.length=n/\∃G ds,aA G H/\aB K G vs ds/\Out K (bQ K E) G H (F ds) Q
def At(n:Nat)(F:AF)(fa:FA):FE:=λ δ=>(fa δ).bind λds=>if ds.length=n then F ds else .no
def uQ(P:Program)(w:World)(K:Frag)(mg:AB)(base:Heap)(c:Bool)(x:Str)(k:Nat)(ps:List Str)(F:AF):Prop:=
 ∃f fd,bO P w K mg base c k f fd ps (Br K ps.length F)/\mg x=some (.ref f)/\keepIn K (.ref f)=true/\Binds K fd ps []
section
variable{X:Cx}{EX:Bi}{e:Expr}{es:List Expr}{fa:FA}{x:Str}{pp pos:Pos}{c:Bool}{k k':Nat}{ps:List Str}{F:AF}
def rf{zd:AE}{σ:Sg}{s:Shared}{Q:VK}{vs:List V}{f:Addr}{sp:Sp}(F:bO X.prog X.w X.K X.mg X.base c k f fd ps sp)(hr:aE c k X.A)(hb:Binds X.K fd ps [])(lk:Lk X EX)
  (I:Inv X zd σ H s) (r:Vals vs us) (h:sp vs H Q (pz X.K (EX σ))):wpAny (model X.prog X.w) X.A (call (.ref f) us) (EP X zd σ Q) X.xe s:=by
 have hl:us.length=ps.length:=by rw[<-r.length];exact F.len _ _ _ _ h
 have cJ:=hb s us I.bY (by rw[D9];exact hl);rw[D9]at cJ;refine U5 (R9 (F.run X.A X.stack s H ⟨us,[]⟩ us vs Q _ hr I.va cJ r h) λr s' hq=> ?_);cases r with
 |error e=>exact lk zd σ H s e s' I hq
 |ok fl=>
  cases fl with
  |ret u=>exact I.after hq
  |next=>exact False.elim hq
  |brk=>exact False.elim hq
  |cont=>exact False.elim hq
def Bh(hr:aE c k' X.A)(lk:Lk X EX)(h:uQ X.prog X.w X.K X.mg X.base c x k ps F)(ha:AD X EX (e::es) fa)(hk:k<=k':=by decide)(hg:Gl X x:=by rfl)(cZ:AG x:=by decide)
  (he:starEach (e::es) X.env=(false,eval e X.env)::starEach es X.env:=by rfl) (bH:(backTo pos (starEach es X.env)).any (·.1)=false:=by rfl):
  ED X EX (.Call (.Name x pp) (e::es) [] pos) (At ps.length F fa):=by
 obtain⟨f,fd,ok,hm,kp,hb⟩:=h;intro zd s σ H Q I q;obtain⟨G,δ,g0,s0,o⟩:=q;refine N8 (rS I hg hm ?_ cZ);have ta:dY X.K EX fa σ H λvs H1=>Br X.K ps.length F vs H1 Q (pz X.K (EX σ)):=by
  refine dY.seq g0 s0 o λds vs G' H' _ st r o'=> ?_
  split at o'
  ·rename_i hl;refine⟨by rw[r.length];exact hl,G',ds,st.gh,r, ?_⟩;cases q:F ds with
   |ok w=>rw[q]at o';exact o'
   |ex x=>rw[q]at o';exact bQ.in o'
   |no=>rw[q]at o';exact o'.elim
  ·exact o'.elim
 refine Y2 (h₀:=X.base) I.ok.mod.lZ kp (Bg (ha pos zd s σ H _ I ta) λus s1 ⟨vs,H1,I1,r,q⟩=>⟨I1.bY, ?_⟩) he bH;exact rf ok (hr.mono hk) hb lk I1 r q
end
inductive Sl where
 |no|sh (d:D)|ow (d:D)|tr (t:Tn)|lk (d:D)|lt (t:Tn)
abbrev SE:=List Sl
inductive Fl where
 |nx (Δ:SE)|rt (w:W)|bk (Δ:SE)|ct (Δ:SE)|ex (x:Xn) (Δ:SE)|rv (d:D) (Δ:SE)|no
abbrev FS:=SE->Fl
noncomputable def Sl.mB:Sl->Option D
 | .sh d=>some d
 |_=>none
def Sl.any:Sl->Option D
 | .sh d=>some d
 | .ow d=>some d
 | .tr t=>some t.d
 | .lk d=>some d
 | .lt t=>some t.d
 | .no=>none
def Sl.give:Sl->Sl
 | .ow d=> .sh d
 | .tr t=> .sh t.d
 |s=>s
def Sl.own:Sl->Option Tn
 | .ow d=>some (Tn.of d)
 | .tr t=>some t
 | .lk d=>some (Tn.of d)
 | .lt t=>some t
 |_=>none
def Bn(Δ:SE):DE:=Δ.map Sl.mB
def Az(Δ:SE):DE:=Δ.map Sl.any
def dF(Δ:SE):SE:=Δ.map Sl.give
abbrev OS:=Nat->AS
structure HB where
 h:Hp
 b:Nat->Addr
structure Ev(K:Frag)(H0:HB)(G0 G H:Hp)(σ:Sg)(Δ:SE)(A:OS):Prop where
 st:Step G0 H0.h G H
 len:σ.length=Δ.length
 sh:∀(i:Nat) (d:D),Δ[i]? =some (.sh d)->∃v,σ[i]? =some (some v)/\aU K G v d
 ow:∀(i:Nat) (s:Sl) (t:Tn),Δ[i]? =some s->s.own=some t->∃v,σ[i]? =some (some v)/\Ow K G H v t (A i)
 out:∀(i:Nat) (a:Addr),A i a->G a=none/\H0.h a=none/\H a≠none
 dj:∀(i j:Nat) (a:Addr),A i a->A j a->i=j
 lk:∀(i:Nat) (d:D),Δ[i]? =some (.lk d)->σ[i]? =some (some (.ref (H0.b i)))
 lt:∀(i:Nat) (t:Tn),Δ[i]? =some (.lt t)->σ[i]? =some (some (.ref (H0.b i)))
def Dh(G H:Hp)(A:OS):Hp:=Dr G H λb=>∃i,A i b
structure bR(S:AS)(G H G' H':Hp):Prop where
 hh:∀b o,¬S b->H b=some o->H' b=some o
 al:∀b,H b≠none->H' b≠none
 gh:aA G' H'
 gg:aA G G'
 nw:∀b,G b=none->H b≠none->G' b=none
structure jJ(S:AS)(G H G' H':Hp):Prop where
 hh:∀b o,¬S b->H b=some o->H' b=some o
 gh:aA G' H'
 gg:aA G G'
 nw:∀b,¬S b->G b=none->H b≠none->G' b=none
def bR.weak{S:AS}{G H G' H':Hp}(m:bR S G H G' H'):jJ S G H G' H':=⟨m.hh,m.gh,m.gg,λb _=>m.nw b⟩
def Step.m{S:AS}{G H G' H':Hp}(s:Step G H G' H'):bR S G H G' H':=⟨λb o _ q=>s.hh b o q,λb n z=>n (s.hh.free z),s.gh,s.gg,s.nw⟩
def bR.andThen{S:AS}{G H G1 H1 G2 H2:Hp}(a:bR S G H G1 H1)(b:Step G1 H1 G2 H2):bR S G H G2 H2:=
 ⟨λc o n q=>b.hh c o (a.hh c o n q),λc n z=>a.al c n (b.hh.free z),b.gh,a.gg.trans b.gg,λc e n=>b.nw c (a.nw c e n) (a.al c n)⟩
def bR.write{S:AS}{G H:Hp}(g:aA G H){a:Addr}(hs:S a)(n:G a=none)(o:HO):bR S G H G (L2.upd H a o):=
 ⟨λb o' nb q=>by rw[Be (λz=>nb (by rw[z];exact hs))];exact q,λb nb=>by
  by_cases z:b=a
  ·subst z;rw[Ce];simp
  ·rw[Be z];exact nb,λb o' q=>by
  by_cases z:b=a
  ·subst z;rw[n]at q;cases q
  ·rw[Be z];exact g b o' q,aA.refl _,λ_ e _=>e⟩
def Hj(A:OS)(i:Nat)(S:AS):OS:=λj=>if j=i then S else A j
def mH{A:OS}{i:Nat}{S:AS}:Hj A i S i=S:=if_pos rfl
def iK{A:OS}{i j:Nat}{S:AS}(h:j≠i):Hj A i S j=A j:=if_neg h
section
variable{K:Frag}{H0:HB}{G0 G H G' H':Hp}{σ:Sg}{Δ:SE}{A:OS}
def Ev.iL(E:Ev K H0 G0 G H σ Δ A):aR K G σ (Bn Δ):=⟨by rw[E.len];unfold Bn;rw[A3],λi d q=>by
 unfold Bn at q;rw[B3]at q;cases e:Δ[i]? with
 |none=>rw[e]at q;cases q
 |some z=>
  rw[e]at q;cases z with
  |sh d'=>cases q;exact E.sh i d e
  |_=>cases q⟩
def Ev.aH(E:Ev K H0 G0 G H σ Δ A):aA (Dh G H A) H:=λb o q=>by
 unfold Dh Dr at q
 split at q
 ·exact q
 ·exact E.st.gh b o q
def Ev.aG(E:Ev K H0 G0 G H σ Δ A):aA G (Dh G H A):=λb o q=>by
 unfold Dh Dr
 split
 ·rename_i hb;obtain⟨i,hb⟩:=hb;rw[(E.out i b hb).1]at q;cases q
 ·exact q
def Ev.ME(E:Ev K H0 G0 G H σ Δ A):Step G0 H0.h (Dh G H A) H:=
 ⟨E.st.hh,E.aH,E.st.gg.trans E.aG,λb n z=>by
  unfold Dh Dr
  split
  ·rename_i hb;obtain⟨i,hb⟩:=hb;exact absurd (E.out i b hb).2.1 z
  ·exact E.st.nw b n z⟩
def Ev.NP{A:OS}{G H:Hp}{i:Nat}{b:Addr}{o:HO}(hb:A i b)(q:H b=some o):Dh G H A b=some o:=by
 unfold Dh Dr;rw[if_pos ⟨i,hb⟩];exact q
def Ev.dF(E:Ev K H0 G0 G H σ Δ A):aR K (Dh G H A) σ (Az Δ):=⟨by rw[E.len];unfold Az;rw[A3],λi d q=>by
 unfold Az at q;rw[B3]at q;cases e:Δ[i]? with
 |none=>rw[e]at q;cases q
 |some z=>
  rw[e]at q;cases z with
  |sh d'=>
   cases q;obtain⟨v,e1,r⟩:=E.sh i d e;exact⟨v,e1,r.mono E.aG⟩
  |ow d'=>
   cases q;obtain⟨v,e1,t⟩:=E.ow i _ _ e rfl;have r:=t.has E.aG λb o hb q=>Ev.NP hb q;rw[Tn.kN]at r;exact⟨v,e1,r⟩
  |tr t'=>
   cases q;obtain⟨v,e1,t⟩:=E.ow i _ _ e rfl;exact⟨v,e1,t.has E.aG λb o hb q=>Ev.NP hb q⟩
  |lk d'=>
   cases q;obtain⟨v,e1,t⟩:=E.ow i _ _ e rfl;have r:=t.has E.aG λb o hb q=>Ev.NP hb q;rw[Tn.kN]at r;exact⟨v,e1,r⟩
  |lt t'=>
   cases q;obtain⟨v,e1,t⟩:=E.ow i _ _ e rfl;exact⟨v,e1,t.has E.aG λb o hb q=>Ev.NP hb q⟩
  |no=>cases q⟩
def Ev.grow(E:Ev K H0 G0 G H σ Δ A)(s:Step G H G' H'):Ev K H0 G0 G' H' σ Δ A:=
 ⟨E.st.trans s,E.len,λi d e=>let⟨v,e1,r⟩:=E.sh i d e;⟨v,e1,r.mono s.gg⟩,λi z d e z'=>let⟨v,e1,t⟩:=E.ow i z d e z';⟨v,e1,t.mono s.gg (λb o _ q=>s.hh b o q) λ_ q=>q⟩,
  λi a ha=>let⟨h1,h2,h3⟩:=E.out i a ha;⟨s.nw a h1 h3,h2,λz=>h3 (s.hh.free z)⟩,E.dj,E.lk,E.lt⟩
def Ev.keep(E:Ev K H0 G0 G H σ Δ A)(s:aA H H'):Ev K H0 G0 G H' σ Δ A:=
 E.grow ⟨s,E.st.gh.trans s,aA.refl _,λ_ n _=>n⟩
def He{α:Type}{l:List α}{i j:Nat}{x y:α}(h:(l.set i x)[j]? =some y):(i=j/\y=x)\/(i≠j/\l[j]? =some y):=by
 by_cases e:i=j
 ·subst e;rw[List.getElem?_set]at h;simp only[if_true]at h
  split at h
  ·exact .inl ⟨rfl,(L6 h).symm⟩
  ·cases h
 ·rw[C6 e]at h;exact .inr ⟨e,h⟩
def vw{α:Type}{l:List α}{i:Nat}{x y:α}(h:(l.set i x)[i]? =some y):i < l.length:=by
 by_cases hh:i < l.length
 ·exact hh
 ·rw[F2 (by rw[F4];lia)]at h;cases h
def Ev.put(E:Ev K H0 G0 G H σ Δ A){i:Nat}{v:V}{d:D}(r:aU K G v d):Ev K H0 G0 G H (σ.set i (some v)) (Δ.set i (.sh d)) A:=by
 refine⟨E.st,by rw[F4,F4];exact E.len,λj d' e=> ?_,λj z d' e zo=> ?_,E.out,E.dj,λj d' e=> ?_,λj d' e=> ?_⟩
 ·rcases He e with⟨rfl,q⟩|⟨n,q⟩
  ·cases q;exact⟨v,by rw[G6 (by rw[E.len];exact vw e)],r⟩
  ·obtain⟨v',e1,r'⟩:=E.sh j d' q;exact⟨v',by rw[C6 n];exact e1,r'⟩
 ·rcases He e with⟨rfl,q⟩|⟨n,q⟩
  ·subst q;cases zo
  ·obtain⟨v',e1,t⟩:=E.ow j z d' q zo;exact⟨v',by rw[C6 n];exact e1,t⟩
 ·rcases He e with⟨rfl,q⟩|⟨n,q⟩
  ·cases q
  ·rw[C6 n];exact E.lk j d' q
 ·rcases He e with⟨rfl,q⟩|⟨n,q⟩
  ·cases q
  ·rw[C6 n];exact E.lt j d' q
def Ev.uT(E:Ev K H0 G0 G H σ Δ A){i:Nat}{v:V}{z:Sl}{d:Tn}{S:AS}(fr:∀a,S a->H0.h a=none/\G a=none/\H a≠none)(zo:z.own=some d)(zl:∀d,z≠ .lk d)(t:Ow K G H v d S)(nw:∀j a,A j a->¬S a)(zt:∀d,z=.lt d->v=.ref (H0.b i):=by intro _ z;cases z):
  Ev K H0 G0 G H (σ.set i (some v)) (Δ.set i z) (Hj A i S):=by
 refine⟨E.st,by rw[F4,F4];exact E.len,λj d' e'=> ?_,λj z' d' e' oG=> ?_,λj a ha=> ?_,λj j' a h1 h2=> ?_,λj d' e'=> ?_,λj d' e'=> ?_⟩
 ·rcases He e' with⟨rfl,q⟩|⟨nn,q⟩
  ·subst q;cases zo
  ·obtain⟨v',e1,r'⟩:=E.sh j d' q;exact⟨v',by rw[C6 nn];exact e1,r'⟩
 ·rcases He e' with⟨rfl,q⟩|⟨nn,q⟩
  ·subst q;rw[zo]at oG;cases oG;exact⟨v,by rw[G6 (by rw[E.len];exact vw e')],by rw[mH];exact t⟩
  ·obtain⟨v',e1,x⟩:=E.ow j z' d' q oG;exact⟨v',by rw[C6 nn];exact e1,by rw[iK (Ne.symm nn)];exact x⟩
 ·by_cases z:j=i
  ·subst z;rw[mH]at ha;obtain⟨a1,a2,a3⟩:=fr a ha;exact⟨a2,a1,a3⟩
  ·rw[iK z]at ha;exact E.out j a ha
 ·by_cases z:j=i
  ·by_cases z':j'=i
   ·rw[z,z']
   ·rw[z,mH]at h1;rw[iK z']at h2;exact absurd h1 (nw j' a h2)
  ·by_cases z':j'=i
   ·rw[iK z]at h1;rw[z',mH]at h2;exact absurd h2 (nw j a h1)
   ·rw[iK z]at h1;rw[iK z']at h2;exact E.dj j j' a h1 h2
 ·rcases He e' with⟨rfl,q⟩|⟨nn,q⟩
  ·exact absurd q.symm (zl d')
  ·rw[C6 nn];exact E.lk j d' q
 ·rcases He e' with⟨rfl,q⟩|⟨nn,q⟩
  ·rw[G6 (by rw[E.len];exact vw e'),zt d' q.symm]
  ·rw[C6 nn];exact E.lt j d' q
def Ev.gZ(E:Ev K H0 G0 G H σ Δ A){i:Nat}{v:V}{z:Sl}{d':Tn}{S:AS}(zo:z.own=some d')(zl:∀d,z≠ .lk d)(zt:∀d,z=.lt d->σ[i]? =some (some (.ref (H0.b i))))(ms:jJ (A i) G H G' H')(s:σ[i]? =some (some v))(fr:∀a,S a->(A i a\/H a=none)/\G' a=none/\H' a≠none)(t:Ow K G' H' v d' S):
  Ev K H0 G0 G' H' σ (Δ.set i z) (Hj A i S):=by
 have st:Step G0 H0.h G' H':=⟨λb o q=>ms.hh b o (λhb=>by rw[(E.out i b hb).2.1]at q;cases q) (E.st.hh b o q),ms.gh,E.st.gg.trans ms.gg,
  λb n z=>ms.nw b (λhb=>z (E.out i b hb).2.1) (E.st.nw b n z) λq=>z (E.st.hh.free q)⟩
 refine⟨st,by rw[F4];exact E.len,λj d2 e'=> ?_,λj z' d2 e' oG=> ?_,λj a ha=> ?_,λj j' a h1 h2=> ?_,λj d2 e'=> ?_,λj d2 e'=> ?_⟩
 ·rcases He e' with⟨rfl,q⟩|⟨nn,q⟩
  ·subst q;cases zo
  ·obtain⟨v',e1,r'⟩:=E.sh j d2 q;exact⟨v',e1,r'.mono ms.gg⟩
 ·rcases He e' with⟨rfl,q⟩|⟨nn,q⟩
  ·subst q;rw[zo]at oG;cases oG;exact⟨v,s,by rw[mH];exact t⟩
  ·obtain⟨v',e1,x⟩:=E.ow j z' d2 q oG;rw[iK (Ne.symm nn)];exact⟨v',e1,x.mono ms.gg (λb o hb q=>ms.hh b o (λhi=>nn (E.dj i j b hi hb)) q) λ_ q=>q⟩
 ·by_cases z:j=i
  ·subst z;rw[mH]at ha;obtain⟨a1,a2,a3⟩:=fr a ha;refine⟨a2, ?_,a3⟩;rcases a1 with a1|a1
   ·exact(E.out j a a1).2.1
   ·exact E.st.hh.free a1
  ·rw[iK z]at ha;obtain⟨h1,h2,h3⟩:=E.out j a ha;have hn:¬A i a:=λhb=>z (E.dj j i a ha hb);refine⟨ms.nw a hn h1 h3,h2,λq=> ?_⟩;cases e:H a with
   |none=>exact h3 e
   |some o=>rw[ms.hh a o hn e]at q;cases q
 ·have own:∀k,k≠i->A k a->¬S a:=λk nk hk hs=>by
   rcases(fr a hs).1 with q|q
   ·exact nk (E.dj k i a hk q)
   ·exact(E.out k a hk).2.2 q
  by_cases z:j=i
  ·by_cases z':j'=i
   ·rw[z,z']
   ·rw[z,mH]at h1;rw[iK z']at h2;exact absurd h1 (own j' z' h2)
  ·by_cases z':j'=i
   ·rw[iK z]at h1;rw[z',mH]at h2;exact absurd h2 (own j z h1)
   ·rw[iK z]at h1;rw[iK z']at h2;exact E.dj j j' a h1 h2
 ·rcases He e' with⟨rfl,q⟩|⟨nn,q⟩
  ·exact absurd q.symm (zl d2)
  ·exact E.lk j d2 q
 ·rcases He e' with⟨rfl,q⟩|⟨nn,q⟩
  ·exact zt d2 q.symm
  ·exact E.lt j d2 q
def Ev.step(E:Ev K H0 G0 G H σ Δ A){i:Nat}{v:V}{z:Sl}{d':Tn}{S:AS}(zo:z.own=some d')(zl:∀d,z≠ .lk d)(ms:bR (A i) G H G' H')(s:σ[i]? =some (some v))(fr:∀a,S a->(A i a\/H a=none)/\G' a=none/\H' a≠none)(t:Ow K G' H' v d' S)(zt:∀d,z≠ .lt d:=by intro _ z;cases z):
  Ev K H0 G0 G' H' σ (Δ.set i z) (Hj A i S):=E.gZ zo zl (λd e=>absurd e (zt d)) ms.weak s fr t
def Ev.jH(E:Ev K H0 G0 G H σ Δ A){i:Nat}{a:Addr}{vs:List V}{ds:List D}(s:σ[i]? =some (some (.ref a)))(m:A i a)(r:aB K G vs ds):Ev K H0 G0 G (upd H a (.lst vs)) σ (Δ.set i (.ow (.lst ds))) (Hj A i (A i)):=
 have ms:=bR.write E.st.gh m (E.out i a m).1 (.lst vs)
 E.step rfl (λ_ z=>by cases z) ms s (λb hb=>⟨.inl hb,(E.out i b hb).1,ms.al b (E.out i b hb).2.2⟩) (Ow.list Ce m r)
def Ev.xW(E:Ev K H0 G0 G H σ Δ A){i:Nat}{a:Addr}{kvs:List (Ap×V)}{aW:List (Ap×D)}(s:σ[i]? =some (some (.ref a)))(m:A i a)(hk:kvs.map (·.1)=aW.map (·.1))(r:aB K G (kvs.map (·.2)) (aW.map (·.2))):Ev K H0 G0 G (upd H a (.dK kvs)) σ (Δ.set i (.ow (.aD aW))) (Hj A i (A i)):=
 have ms:=bR.write E.st.gh m (E.out i a m).1 (.dK kvs)
 E.step rfl (λ_ z=>by cases z) ms s (λb hb=>⟨.inl hb,(E.out i b hb).1,ms.al b (E.out i b hb).2.2⟩) (Ow.dict Ce hk m r)
end
def eB(Δ:SE)(j:Nat):SE:=match Δ[j]? with
 |some s=>Δ.set j s.give
 |none=>Δ
def aC(js:List Nat)(Δ:SE):SE:=js.foldl eB Δ
section
variable{K:Frag}{H0:HB}{G0 G H:Hp}{σ:Sg}{Δ:SE}{A:OS}
def nW{α:Type}{l:List α}{j:Nat}{x:α}(h:l[j]? =some x):l.set j x=l:=by
 apply Q2;intro i
 by_cases e:j=i
 ·subst e;have cR:j < l.length:=(B4.mp h).1;rw[G6 cR,h]
 ·rw[C6 e]
def Ev.MD(E:Ev K H0 G0 G H σ Δ A){j:Nat}{z:Sl}{t:Tn}(e:Δ[j]? =some z)(zo:z.own=some t):aA G (Dr G H (A j))/\Ev K H0 G0 (Dr G H (A j)) H σ (Δ.set j (.sh t.d)) (Hj A j λ_=>False):=by
   obtain⟨v,s1,t⟩:=E.ow j z t e zo;have sg:aA G (Dr G H (A j)):=λb o q=>by
    unfold Dr
    split
    ·rename_i hb;rw[(E.out j b hb).1]at q;cases q
    ·exact q
   have gh:aA (Dr G H (A j)) H:=λb o q=>by
    unfold Dr at q
    split at q
    ·exact q
    ·exact E.st.gh b o q
   refine⟨sg,⟨E.st.hh,gh,E.st.gg.trans sg,λb h1 h2=> ?_⟩,by rw[F4];exact E.len,λi d' e'=> ?_,λi z' d' e' oG=> ?_,λi b hb=> ?_,λi i' b h1 h2=> ?_,λi d' e'=> ?_,λi d' e'=> ?_⟩
   ·unfold Dr
    split
    ·rename_i hb;exact absurd (E.out j b hb).2.1 h2
    ·exact E.st.nw b h1 h2
   ·rcases He e' with⟨rfl,q⟩|⟨n,q⟩
    ·cases q;refine⟨v,s1,t.has sg λb o hb q=> ?_⟩;unfold Dr;rw[if_pos hb];exact q
    ·obtain⟨v',e1,r⟩:=E.sh i d' q;exact⟨v',e1,r.mono sg⟩
   ·rcases He e' with⟨rfl,q⟩|⟨n,q⟩
    ·subst q;cases oG
    ·obtain⟨v',e1,t'⟩:=E.ow i z' d' q oG;rw[iK (Ne.symm n)];exact⟨v',e1,t'.mono sg (λb o _ q=>q) λ_ q=>q⟩
   ·by_cases z:i=j
    ·subst z;rw[mH]at hb;exact hb.elim
    ·rw[iK z]at hb;obtain⟨k1,k2,k3⟩:=E.out i b hb;refine⟨?_,k2,k3⟩;unfold Dr;rw[if_neg λq=>z (E.dj i j b hb q)];exact k1
   ·by_cases z:i=j
    ·subst z;rw[mH]at h1;exact h1.elim
    ·by_cases z':i'=j
     ·subst z';rw[mH]at h2;exact h2.elim
     ·rw[iK z]at h1;rw[iK z']at h2;exact E.dj i i' b h1 h2
   ·rcases He e' with⟨rfl,q⟩|⟨n,q⟩
    ·cases q
    ·exact E.lk i d' q
   ·rcases He e' with⟨rfl,q⟩|⟨n,q⟩
    ·cases q
    ·exact E.lt i d' q
def Ev.tw(E:Ev K H0 G0 G H σ Δ A){j:Nat}{z:Sl}{t:Tn}(e:Δ[j]? =some z)(zo:z.own=some t):∃G' A',aA G G'/\Ev K H0 G0 G' H σ (Δ.set j (.sh t.d)) A':=⟨_,_,E.MD e zo⟩
theorem Ev.eB(E:Ev K H0 G0 G H σ Δ A)(j:Nat):∃G' A',aA G G'/\Ev K H0 G0 G' H σ (L3.eB Δ j) A':=by
 unfold L3.eB;cases e:Δ[j]? with
 |none=>exact⟨G,A,aA.refl _,E⟩
 |some s=>
  cases s with
  |no=>exact⟨G,A,aA.refl _,by show Ev K H0 G0 G H σ (Δ.set j .no) A;rw[nW e];exact E⟩
  |sh d=>exact⟨G,A,aA.refl _,by show Ev K H0 G0 G H σ (Δ.set j (.sh d)) A;rw[nW e];exact E⟩
  |ow d=>
   have:=E.tw e (t:=Tn.of d) rfl;rw[Tn.kN]at this;exact this
  |tr t=>exact E.tw e rfl
  |lk d=>exact⟨G,A,aA.refl _,by show Ev K H0 G0 G H σ (Δ.set j (.lk d)) A;rw[nW e];exact E⟩
  |lt t=>exact⟨G,A,aA.refl _,by show Ev K H0 G0 G H σ (Δ.set j (.lt t)) A;rw[nW e];exact E⟩
theorem Ev.aC:∀(js:List Nat) {G:Hp} {Δ:SE} {A:OS},Ev K H0 G0 G H σ Δ A->∃G' A',aA G G'/\Ev K H0 G0 G' H σ (L3.aC js Δ) A'
 | [],G,Δ,A,E=>⟨G,A,aA.refl _,E⟩
 |j::js,G,Δ,A,E=>by
  obtain⟨G1,A1,s1,E1⟩:=E.eB j;obtain⟨G2,A2,s2,E2⟩:=Ev.aC js E1;exact⟨G2,A2,s1.trans s2,E2⟩
end
def Fin(K:Frag)(EX:Bi)(H0:HB)(G0 G1:Hp)(D:Ends):Fl->Prop
 | .nx Δ=>∀σ G H O,Ev K H0 G0 G H σ Δ O->aA G1 G->D.nx σ H
 | .bk Δ=>∀σ G H O,Ev K H0 G0 G H σ Δ O->aA G1 G->D.bk σ H
 | .ct Δ=>∀σ G H O,Ev K H0 G0 G H σ Δ O->aA G1 G->D.ct σ H
 | .rt w=>WP K G0 H0.h w D.rt
 | .rv d Δ=>∀v σ G H O,Ev K H0 G0 G H σ Δ O->aA G1 G->aU K G v d->D.rt v H
 | .ex x Δ=>∀σ G H O,Ev K H0 G0 G H σ Δ O->aA G1 G->(EX σ).p x G H
 | .no=>False
def Fin.mono{EX:Bi}{H0:HB}{G0 G1 G2:Hp}{D:Ends}{r:Fl}(s:aA G1 G2)(h:Fin K EX H0 G0 G1 D r):Fin K EX H0 G0 G2 D r:=by
 cases r with
 |nx Δ=>exact λ σ G H O E q=>h σ G H O E (s.trans q)
 |bk Δ=>exact λ σ G H O E q=>h σ G H O E (s.trans q)
 |ct Δ=>exact λ σ G H O E q=>h σ G H O E (s.trans q)
 |rt w=>exact h
 |rv d Δ=>exact λv σ G H O E q=>h v σ G H O E (s.trans q)
 |ex x Δ=>exact λ σ G H O E q=>h σ G H O E (s.trans q)
 |no=>exact h
def tS(K:Frag)(EX:Bi)(g:FS):TS:=λD σ H=>∃H0 G0 G Δ O,Ev K H0 G0 G H σ Δ O/\Fin K EX H0 G0 G D (g Δ)
abbrev SD(X:Cx)(EX:Bi)(st:Stmt)(g:FS):Prop:=PS X st (tS X.K EX g)
abbrev BD(X:Cx)(EX:Bi)(st:List Stmt)(g:FS):Prop:=fW X st (tS X.K EX g)
section
variable{X:Cx}{EX:Bi}{st:Stmt}{sts:List Stmt}{g h:FS}{pos:Pos}{e:Expr}{f:FE}{p:FT}
def Ay:FS:=λ Δ=> .nx Δ
def Af(g h:FS):FS:=λ Δ=>match g Δ with
 | .nx Δ'=>h Δ'
 |r=>r
def Ct:BD X EX [] Ay:=fW.imp Vr λD σ H ⟨H0,G0,G,Δ,O,E,q⟩=>q σ G H O E (aA.refl _)
def As(h1:SD X EX st g):BD X EX [st] g:=rh h1
def Ar(h1:SD X EX st g)(h2:BD X EX sts h):BD X EX (st::sts) (Af g h):=
 fW.imp (Xk h1 h2) λD σ H ⟨H0,G0,G,Δ,O,E,q⟩=>by
  refine⟨H0,G0,G,Δ,O,E, ?_⟩;unfold Af at q;cases e:g Δ with
  |nx Δ'=>rw[e]at q;exact λ σ' G' H' O' E' sm=>⟨H0,G0,G',Δ',O',E',Fin.mono sm q⟩
  |bk Δ'=>rw[e]at q;exact q
  |ct Δ'=>rw[e]at q;exact q
  |rt w=>rw[e]at q;exact q
  |rv d Δ'=>rw[e]at q;exact q
  |ex x Δ'=>rw[e]at q;exact q
  |no=>rw[e]at q;exact q
def NF(js:List Nat)(f:FE)(Δ:SE):Fl:=match f (Bn (aC js Δ)) with
 | .ex x=> .ex x (aC js Δ)
 |_=> .no
def uD(js:List Nat)(p:FT)(Δ:SE):Fl:=match p (Bn (aC js Δ)) with
 | .ex x=> .ex x (aC js Δ)
 |_=> .no
def IV{H0:HB}{G0 G G1 H:Hp}{σ:Sg}{Δ:SE}{O:OS}{D:Ends}{js:List Nat}{Q:VK}(E:Ev K H0 G0 G H σ Δ O)(sg:aA G1 G)(q:Fin K EX H0 G0 G1 D (NF js f Δ)):tD K EX f σ H Q:=by
 obtain⟨G',O',s',E'⟩:=E.aC js;refine⟨G',Bn (aC js Δ),E'.st.gh,E'.iL, ?_⟩;unfold NF at q;cases e:f (Bn (aC js Δ)) with
 |ok w=>rw[e]at q;exact q.elim
 |ex x=>rw[e]at q;exact q σ G' H O' E' (sg.trans s')
 |no=>rw[e]at q;exact q.elim
def WN{H0:HB}{G0 G G1 H:Hp}{σ:Sg}{Δ:SE}{O:OS}{D:Ends}{js:List Nat}{Q:Bool->Hp->Prop}(E:Ev K H0 G0 G H σ Δ O)(sg:aA G1 G)(q:Fin K EX H0 G0 G1 D (uD js p Δ)):fF K EX p σ H Q:=by
 obtain⟨G',O',s',E'⟩:=E.aC js;refine⟨G',Bn (aC js Δ),E'.st.gh,E'.iL, ?_⟩;unfold uD at q;cases e:p (Bn (aC js Δ)) with
 |ok w=>rw[e]at q;exact q.elim
 |ex x=>rw[e]at q;exact q σ G' H O' E' (sg.trans s')
 |no=>rw[e]at q;exact q.elim
def Ao(js:List Nat)(f:FE):FS:=λ Δ=>match f (Az Δ) with
 | .ok w=> .rt w
 | .ex _=>NF js f Δ
 | .no=> .no
def Bp(js:List Nat)(he:ED X EX e f):SD X EX (.Return (some e) pos) (Ao js f):=
 PS.imp (EZ he) λD σ H ⟨H0,G0,G,Δ,O,E,q⟩=>by
  unfold Ao at q;cases e1:f (Az Δ) with
  |ok w=>
   rw[e1]at q;exact⟨Dh G H O,Az Δ,E.aH,E.dF,by rw[e1];exact WP.mono E.ME q⟩
  |ex x=>rw[e1]at q;exact IV E (aA.refl _) q
  |no=>rw[e1]at q;exact q.elim
noncomputable def Cv(i:Nat):FS:=λ Δ=>match Δ[i]? with
 |some (.sh d)=> .rt (.sh d)
 |some (.ow d)=> .rt (.ow d)
 |some (.tr t)=> .rt (.tr t)
 |_=> .no
def oK(i:Nat){x:Str}{pos pos':Pos}(hN:X.N[i]? =some x:=by rfl)(hv:fV X.env.scope x:=by trivial)(hd:AG x:=by decide)
  (bT:(x ==("__classdict__" :Str))=false:=by decide):SD X EX (.Return (some (.Name x pos)) pos') (Cv i):=
 PS.imp (EZ (iJ hN hv hd bT)) λD σ H ⟨H0,G0,G,Δ,O,E,q⟩=>by
  unfold Cv at q
  split at q
  ·rename_i d e;obtain⟨v,e1,r⟩:=E.sh i d e;exact⟨v,e1,(WP.mono (w:=.sh d) (Q:=D.rt) E.st q).use E.st.gh r⟩
  ·rename_i d e;obtain⟨v,e1,t⟩:=E.ow i _ _ e rfl;exact⟨v,e1,q v (O i) G H E.st (λa ha=>let⟨h1,h2,h3⟩:=E.out i a ha;⟨h2,h1,h3⟩) t⟩
  ·rename_i d e;obtain⟨v,e1,t⟩:=E.ow i _ _ e rfl;exact⟨v,e1,q v (O i) G H E.st (λa ha=>let⟨h1,h2,h3⟩:=E.out i a ha;⟨h2,h1,h3⟩) t⟩
  ·exact q.elim
noncomputable def Du(i:Nat)(Δ:SE):R W->Fl
 | .ok (.sh d)=> .nx (Δ.set i (.sh d))
 | .ok (.ow d)=> .nx (Δ.set i (.ow d))
 | .ok (.tr t)=> .nx (Δ.set i (.tr t))
 | .ex x=> .ex x Δ
 | .no=> .no
def Aj(i:Nat)(js:List Nat)(f:FE):FS:=λ Δ=>match f (Bn Δ) with
 | .ok (.sh d)=> .nx (Δ.set i (.sh d))
 | .ok (.ow d)=> .nx (Δ.set i (.ow d))
 | .ok (.tr t)=> .nx (Δ.set i (.tr t))
 | .ex x=> .ex x Δ
 | .no=>match f (Az Δ) with
  | .ex _=>Du i (aC js Δ) (f (Bn (aC js Δ)))
  | .no=> .no
  | .ok w=>if Bf w.d=true then .nx (Δ.set i (.sh w.d)) else Du i (aC js Δ) (f (Bn (aC js Δ)))
def qZ{H0:HB}{G0 G G1 H:Hp}{σ:Sg}{Δ:SE}{O:OS}{D:Ends}{i:Nat}(E:Ev K H0 G0 G H σ Δ O)(sg:aA G1 G)
  (q:Fin K EX H0 G0 G1 D (Du i Δ (f (Bn Δ)))):kL (tD K EX f) (lg i) D σ H:=by
 refine⟨G,Bn Δ,E.st.gh,E.iL, ?_⟩;unfold Du at q;cases e1:f (Bn Δ) with
 |ok w=>
  rw[e1]at q;cases w with
  |sh d=>exact λv G' H' st r=>q _ G' H' O ((E.grow st).put r) (sg.trans st.gg)
  |ow d=>
   intro v S G' H' st fr t;exact q _ G' H' _ ((E.grow st).uT (λa ha=>⟨E.st.hh.free (fr a ha).1,(fr a ha).2⟩) rfl (λ_ z=>by cases z) t λj a hj hs=>(E.out j a hj).2.2 (fr a hs).1) (sg.trans st.gg)
  |tr d=>
   intro v S G' H' st fr t;exact q _ G' H' _ ((E.grow st).uT (λa ha=>⟨E.st.hh.free (fr a ha).1,(fr a ha).2⟩) rfl (λ_ z=>by cases z) t λj a hj hs=>(E.out j a hj).2.2 (fr a hs).1) (sg.trans st.gg)
 |ex x=>rw[e1]at q;exact q σ G H O E sg
 |no=>rw[e1]at q;exact q
def wF{D:Ends}{σ:Sg}{i:Nat}{js:List Nat}(q:tS K EX (Aj i js f) D σ H):kL (tD K EX f) (lg i) D σ H:=by
 obtain⟨H0,G0,G,Δ,O,E,q⟩:=q;unfold Aj at q;cases e1:f (Bn Δ) with
 |ok w=>
  rw[e1]at q;refine qZ E (aA.refl _) ?_;unfold Du;rw[e1];cases w <;> exact q
 |ex x=>
  rw[e1]at q;refine qZ E (aA.refl _) ?_;unfold Du;rw[e1];exact q
 |no=>
  rw[e1]at q;cases e2:f (Az Δ) with
  |ok w=>
   simp only[e2]at q
   split at q
   ·rename_i fl;refine⟨Dh G H O,Az Δ,E.aH,E.dF, ?_⟩;rw[e2];exact WP.intro λv G' H' st r=>q _ G H' O ((E.keep st.hh).put (r.uU fl)) (aA.refl _)
   ·obtain⟨G',O',sg,E'⟩:=E.aC js;exact qZ E' sg q
  |ex x=>
   simp only[e2]at q;obtain⟨G',O',sg,E'⟩:=E.aC js;exact qZ E' sg q
  |no=>simp only[e2]at q;exact q.elim
def Bl{i:Nat}(js:List Nat){x:Str}{pos':Pos}(he:ED X EX e f)(hN:X.N.Nodup)(hi:X.N[i]? =some x:=by rfl)(hx:Loc X.env.scope x:=by trivial)(hs:swapsWith e (some (.Name x pos')) pos.line X.env=pure false:=by rfl)
  (hf:X.fn x=true\/X.env.scope.names.lookup x=some .local:=by trivial):SD X EX (.Assign [.Name x pos'] e pos) (Aj i js f):=
 PS.imp (vD hN hi hx he hs hf) λD σ H q=>wF q
def Ea(js:List Nat)(f:FE):FS:=λ Δ=>match f (Az Δ) with
 | .ok _=> .nx Δ
 | .ex _=>NF js f Δ
 | .no=> .no
def qY(js:List Nat)(he:ED X EX e f)(hs:swapsWith e none pos.line X.env=pure false:=by rfl):SD X EX (.Expr e pos) (Ea js f):=
 PS.imp (nL he hs) λD σ H ⟨H0,G0,G,Δ,O,E,q⟩=>by
  unfold Ea at q;cases e1:f (Az Δ) with
  |ok w=>
   rw[e1]at q;exact⟨Dh G H O,Az Δ,E.aH,E.dF,by rw[e1];exact WP.intro λv G' H' st r=>q σ G H' O (E.keep st.hh) (aA.refl _)⟩
  |ex x=>rw[e1]at q;exact IV E (aA.refl _) q
  |no=>rw[e1]at q;exact q.elim
def Bv(js:List Nat)(p:FT)(g h:FS):FS:=λ Δ=>match p (Az Δ) with
 | .ok b=>if b=true then g Δ else h Δ
 | .ex _=>uD js p Δ
 | .no=> .no
def JJ{H0:HB}{G0 G H:Hp}{σ:Sg}{Δ:SE}{O:OS}{D:Ends}{k:Bool->Fl}{P:Bool->Hp->Prop}{js:List Nat}(E:Ev K H0 G0 G H σ Δ O)
  {G1:Hp} (sg:aA G1 G) (q:Fin K EX H0 G0 G1 D (match p (Az Δ) with| .ok b=>k b| .ex _=>uD js p Δ| .no=> .no)) (i:∀b H',p (Az Δ)=.ok b->Ev K H0 G0 G H' σ Δ O->Fin K EX H0 G0 G1 D (k b)->P b H'):fF K EX p σ H P:=by
 cases e1:p (Az Δ) with
 |ok b=>rw[e1]at q;exact⟨Dh G H O,Az Δ,E.aH,E.dF,by rw[e1];exact λG' H' st=>i b H' e1 (E.keep st.hh) q⟩
 |ex x=>rw[e1]at q;exact WN E sg q
 |no=>rw[e1]at q;exact q.elim
def Cq(js:List Nat){c:Expr}{as bs:List Stmt}(hc:TD X EX c p)(ha:BD X EX as g)(hb:BD X EX bs h):SD X EX (.If c as bs pos) (Bv js p g h):=
 PS.imp (RT hc ha hb) λD σ H ⟨H0,G0,G,Δ,O,E,q⟩=>JJ (k:=λb=>if b=true then g Δ else h Δ) E (aA.refl _) q λb H' _ E' q'=>by
  cases b with
  |true=>rw[if_pos rfl];exact⟨H0,G0,G,Δ,O,E',q'⟩
  |false=>rw[if_neg A6];exact⟨H0,G0,G,Δ,O,E',q'⟩
def Do(js:List Nat)(p:FT)(g:FS):Nat->FS
 |0=>λ_=> .no
 |n + 1=>λ Δ=>match p (Az Δ) with
  | .ok b=>if b=true then(match g Δ with
    | .nx Δ'=>Do js p g n Δ'
    | .ct Δ'=>Do js p g n Δ'
    | .bk Δ'=> .nx Δ'
    |r=>r) else .nx Δ
  | .ex _=>uD js p Δ
  | .no=> .no
def nV(js:List Nat)(n:Nat){c:Expr}{body:List Stmt}(hp:PassesOwn (model X.prog X.w) X.A X.env X.xe)(hc:TD X EX c p)(hb:BD X EX body g):SD X EX (.While c body [] pos) (Do js p g n):=
 PS.imp (Xj hp hc hb) λD σ H ⟨H0,G0,G1,Δ,O,E,q⟩=>by
  refine⟨λm σ H=>∃G Δ O,Ev X.K H0 G0 G H σ Δ O/\aA G1 G/\Fin X.K EX H0 G0 G1 D (Do js p g m Δ),⟨n,G1,Δ,O,E,aA.refl _,q⟩, ?_⟩
  rintro m σ H ⟨G,Δ,O,E,sg,q⟩
  cases m with
  |zero=>exact False.elim q
  |succ m=>
   refine JJ (k:=λb=>if b=true then(match g Δ with| .nx Δ'=>Do js p g m Δ'| .ct Δ'=>Do js p g m Δ'| .bk Δ'=> .nx Δ'|r=>r) else .nx Δ) E sg q λb H' _ E' q'=> ?_;cases b with
   |false=>rw[if_neg A6];exact q' σ G H' O E' sg
   |true=>
    rw[if_pos rfl];rw[if_pos rfl]at q';refine⟨λ σ' H'=>∃G Δ O,Ev X.K H0 G0 G H' σ' Δ O/\aA G1 G/\Fin X.K EX H0 G0 G1 D (Do js p g m Δ),λ σ' H' w=>⟨m,O9 _,w⟩,H0,G0,G,Δ,O,E', ?_⟩;cases e1:g Δ with
    |nx Δ'=>rw[e1]at q';exact λ σ' G' H' O' E2 s2=>⟨G',Δ',O',E2,sg.trans s2,q'⟩
    |ct Δ'=>rw[e1]at q';exact λ σ' G' H' O' E2 s2=>⟨G',Δ',O',E2,sg.trans s2,q'⟩
    |bk Δ'=>rw[e1]at q';exact Fin.mono (r:=.nx Δ') sg q'
    |rt w=>rw[e1]at q';exact q'
    |rv d Δ'=>rw[e1]at q';exact Fin.mono (r:=.rv d Δ') sg q'
    |ex x Δ'=>rw[e1]at q';exact Fin.mono (r:=.ex x Δ') sg q'
    |no=>rw[e1]at q';exact q'
end
noncomputable def Av(n:Nat)(ds:List D):SE:=ds.map Sl.sh ++ List.replicate (n - ds.length) .no
def Al(n:Nat)(g:FS)(ds:List D):R W:=match g (Av n ds) with
 | .nx _=> .ok (.sh .aJ)
 | .rt w=> .ok w
 | .ex x _=> .ex x
 |_=> .no
def IU{G H:Hp}{vs:List V}{ds:List D}{N:List Str}(g:aA G H)(r:aB K G vs ds):Ev K ⟨H,λ_=>0⟩ G G H (iH N vs) (Av N.length ds) (λ_ _=>False):=by
 refine⟨Step.refl g, ?_,λi d e=> ?_,λi z d e zo=> ?_,λ_ _ ha=>ha.elim,λ_ _ _ ha=>ha.elim,λi d e=> ?_,λi d e=> ?_⟩
 ·unfold iH Av;simp only[A7,A3,J6,r.length]
 ·unfold Av at e
  by_cases hi:i < ds.length
  ·rw[B7 (by rw[A3];exact hi),B3]at e;cases q:ds[i]? with
   |none=>rw[q]at e;cases e
   |some d'=>
    rw[q]at e;cases e;obtain⟨v,e1,h⟩:=r.get q;refine⟨v, ?_,h⟩;unfold iH;rw[B7 (by rw[A3,r.length];exact hi),B3,e1];rfl
  ·rw[D2 (by rw[A3];lia),F5]at e
   split at e <;> cases e
 ·exfalso;unfold Av at e
  by_cases hi:i < ds.length
  ·rw[B7 (by rw[A3];exact hi),B3]at e;cases q:ds[i]? with
   |none=>rw[q]at e;cases e
   |some d'=>rw[q]at e;cases e;cases zo
  ·rw[D2 (by rw[A3];lia),F5]at e
   split at e
   ·cases e;cases zo
   ·cases e
 ·exfalso;unfold Av at e
  by_cases hi:i < ds.length
  ·rw[B7 (by rw[A3];exact hi),B3]at e;cases q:ds[i]? with
   |none=>rw[q]at e;cases e
   |some d'=>rw[q]at e;cases e
  ·rw[D2 (by rw[A3];lia),F5]at e
   split at e <;> cases e
 ·exfalso;unfold Av at e
  by_cases hi:i < ds.length
  ·rw[B7 (by rw[A3];exact hi),B3]at e;cases q:ds[i]? with
   |none=>rw[q]at e;cases e
   |some d'=>rw[q]at e;cases e
  ·rw[D2 (by rw[A3];lia),F5]at e
   split at e <;> cases e
def Rq{c:Bool}{P:Program}{w:World}{x qual:Str}{st:Stmt}{f:Addr}{N ps:List Str}{k:Nat}{g:FS}(F:bI K x qual st f fd)(S:bA N ps (Cr st))
  (zj:∀(zp:Value) (A:Around) (outer:List Env) (s:Shared) (H:Hp) (E:XK),aE c k (A.deeper (envOfC qual (Cr st) s.heap.objs.size f zp))->
   BD (Fx c P w K mg base N qual (Cr st) f zp A outer s H E) (λ_=>bQ K E) (Gk st) g):bO P w K mg base c (k + 1) f fd ps (Br K ps.length (Al N.length g)):=by
 refine bI.OJ F S (λvs H Q E h=>h.1) λzp A outer s H vs Q E hr h=>⟨_,zj zp A outer s H E hr, ?_⟩;obtain⟨hl,G,ds,g0,r,o⟩:=h;refine⟨⟨H,λ_=>0⟩,G,G,_,_,IU g0 r, ?_⟩;unfold Al at o;cases e:g (Av N.length ds) with
 |nx Δ=>rw[e]at o;exact λ σ G' H' O E' _=>(WP.mono (w:=.sh .aJ) (Q:=Q) E'.st o).use E'.st.gh .aJ
 |rt w=>rw[e]at o;exact o
 |rv d Δ=>rw[e]at o;exact o.elim
 |ex x Δ=>rw[e]at o;exact λ σ G' H' O E' _=>(bQ K E).mono _ _ _ _ _ E'.st o
 |bk Δ=>rw[e]at o;exact o.elim
 |ct Δ=>rw[e]at o;exact o.elim
 |no=>rw[e]at o;exact o
def lA{c:Bool}{P:Program}{w:World}{x:Str}{st:Stmt}{f:Addr}{ps:List Str}{k:Nat}{Fn:AF}(F:bI K x x st f fd)(hm:mg x=some (.ref f))(hb:Binds K fd ps [])
  (ok:bO P w K mg base c k f fd ps (Br K ps.length Fn)):uQ P w K mg base c x k ps Fn:=⟨f,fd,ok,hm,F.kp,hb⟩
def vj(x:Str):It:=⟨λi _=>i < x.cps.size,λi H v H'=>H'=H/\∃c,x.cps[i]? =some c/\v=.str ⟨#[c]⟩,λi _=>i=x.cps.size⟩
def Ze{P:Program}{w:World}{tg:Expr}{it:Addr}{n:Nat}{Pv:Nat->Value->Prop}{St:Nat->Heap->Prop}{J:It}
  (W:∀A':Around,A'.handled=none->Walks P w A' it [it] [it] n Pv St)
  (bu:∀i h,St i h->∃o nm vs,h.get? it=some o/\o.cls=.type nm/\o.data=.fields vs/\ ["enumerate","zip","dict_itemiterator","dict_reverseitemiterator","odict_iterator","itertools.zip_longest","itertools.pairwise"].contains nm=false)
  (di:∀(i:Nat) (h h':Heap),St i h->(∀b∈ [it],∀o,h.get? b=some o->h'.get? b=some o)->St i h') (de:∀(A:Around) (i:Nat) (s:Shared) (Q E:AA),St i s.heap->Q (.ref it) s->wpAny (model P w) A (pyIter (.ref it)) Q E s)
  (hgo:∀i H,J.go i H->i < n) (cM:∀i H,J.stop i H->i=n) (hy:∀i H u,Pv i u->∃x,RelV x u/\J.yg i H x H):Turn P w K tg J [it] it St where
 mem:=by simp
 obj:=λi h st b hb=>by
  have e:b=it:=by simpa using hb
  subst e;obtain⟨o,nm,vs,e,c,d,_⟩:=bu i h st;exact⟨o,e,λv z=>by rw[d]at z;cases z⟩
 keep:=di
 item:=by
  intro X hP hw hK hc i zd s σ H E I hf st hg;subst hP hw hK;obtain⟨f0,f1,f2,f3,f4,f5⟩:=hf it (by simp);refine(W X.A (I.ok.hd hc)).item i s _ _ (hgo i H hg) st λv h' tk hv cX kk=> ?_;have I1:Inv X zd σ H {s with heap:=h',toks:=tk}:=I.turned (λb o hb e=>kk b o (by simpa using hb) e) f0 f1 f3 f4 f5;obtain⟨x,rx,yx⟩:=hy i H v hv;obtain⟨o,nm,vs,e,c,d,hn⟩:=bu (i + 1) h' cX;exact⟨v,rfl,nq (s:={s with heap:=h',toks:=tk}) e c d hn ⟨x,H,I1,rx,yx,cX,λb hb=>(hf b hb).1⟩⟩
 done:=by
  intro X hP hw hK hc i zd s σ H E I hf st hg;subst hP hw hK;obtain⟨f0,f1,f2,f3,f4,f5⟩:=hf it (by simp);obtain rfl:=cM i H hg;exact(W X.A (I.ok.hd hc)).done s _ _ st λh' tk kk=>⟨rfl,I.turned (λb o hb e=>kk b o (by simpa using hb) e) f0 f1 f3 f4 f5⟩
 self:=de
def jr(K:Frag)(G1:Hp)(J:It)(ds:List D):Prop:=∀G H,aA G1 G->aA G H->∀i,
 (∀d,ds[i]? =some d->J.go i H/\∀x H',J.yg i H x H'->∃G',Step G H G' H'/\aU K G' x d)/\(ds.length=i->J.stop i H)
abbrev FI:=DE->R (List D)
def tI(K:Frag)(EX:Bi)(fi:FI):TI:=λ σ H Q=>∃G δ,aA G H/\aR K G σ δ/\match fi δ with
 | .ok ds=>∀J G' H',Step G H G' H'->jr K G' J ds->Q J H'
 | .ex x=>(EX σ).p x G H
 | .no=>False
abbrev ID(X:Cx)(EX:Bi)(tg iter:Expr)(fi:FI):Prop:=PI X tg iter (tI X.K EX fi)
def PI.imp{tg e:Expr}{t t':TI}(h:PI X tg e t)(i:∀σ H Q,t' σ H Q->t σ H Q):PI X tg e t':=λzd s σ H Q I q=>h zd s σ H Q I (i σ H Q q)
section
variable{X:Cx}{EX:Bi}{tg e a b:Expr}{f:FE}{fa:FA}{p pos:Pos}
def dY.CL{G H:Hp}{σ:Sg}{δ:DE}{k:List D->R (List D)}{Q:It->Hp->Prop}{P:List V->Hp->Prop}(g:aA G H)(s:aR K G σ δ)
  (h:match(fa δ).bind k with| .ok ds=>∀J G' H',Step G H G' H'->jr K G' J ds->Q J H'| .ex x=>(EX σ).p x G H| .no=>False)
  (i:∀ds vs G' H',Step G H G' H'->aB K G' vs ds->(match k ds with| .ok ds=>∀J G2 H2,Step G' H' G2 H2->jr K G2 J ds->Q J H2| .ex x=>(EX σ).p x G' H'| .no=>False)->P vs H'):dY K EX fa σ H P:=by
 refine⟨G,δ,g,s, ?_⟩;cases e:fa δ with
 |ok ds=>
  rw[e]at h;simp only[R.aI]at h;refine λvs G' H' st r=>i ds vs G' H' st r ?_;cases e2:k ds with
  |ok mO=>rw[e2]at h;exact λJ G2 H2 bC it=>h J G2 H2 (st.trans bC) it
  |ex x=>rw[e2]at h;exact(EX σ).mono _ _ _ _ _ st h
  |no=>rw[e2]at h;exact h
 |ex x=>rw[e]at h;exact h
 |no=>rw[e]at h;exact h
def Ca(lo:Int)(n:Nat):List D:=(List.range n).map λ(k:Nat)=>D.int (lo + (k:Int))
def Yk{lo:Int}{n i:Nat}{d:D}(h:(Ca lo n)[i]? =some d):i < n/\d=.int (lo + (i:Int)):=by
 unfold Ca at h;rw[B3]at h
 by_cases hi:i < n
 ·rw[E9 hi]at h;cases h;exact⟨hi,rfl⟩
 ·rw[F2 (by rw[K4];lia)]at h;cases h
def oS(lo:Int)(n:Nat):(Ca lo n).length=n:=by unfold Ca;rw[A3,K4]
def Yj{G:Hp}(lo:Int)(n:Nat):jr K G (Oc lo n) (Ca lo n):=λG' H _ g i=>by
 refine⟨λd e=> ?_,λe=> ?_⟩
 ·obtain⟨hi,rfl⟩:=Yk e;refine⟨hi,λx H' y=> ?_⟩;obtain⟨e1,e2⟩:=y;subst e1 e2;exact⟨G',Step.refl g,.int _⟩
 ·rw[oS]at e;exact O6 e
def Cn:List D->R (List D)
 | [.int j]=>if j.natAbs < 4611686018427387904 then .ok (Ca 0 j.toNat) else .no
 |_=> .no
def Aw(k:List D->R (List D))(fa:FA):FI:=λ δ=>(fa δ).bind k
def oR(hm:X.mg "range" =none)(ha:AD X EX [a] fa)(hg:Gl X "range" :=by rfl)(hs:starEach [a] X.env= [(false,eval a X.env)]:=by rfl):ID X EX tg (.Call (.Name "range" p) [a] [] pos) (Aw Cn fa):=
 PI.imp (Yy hg hm ha hs) λ σ H Q ⟨G,δ,g0,s0,o⟩=>dY.CL g0 s0 o λds vs G' H' st r o'=>by
  cases r with
  |nil=>exact False.elim o'
  |cons h t=>
   cases t with
   |cons _ _=>cases h <;> exact False.elim o'
   |nil=>
    cases h with
    |int j=>
     by_cases hc:j.natAbs < 4611686018427387904
     ·rw[show Cn [.int j]=.ok (Ca 0 j.toNat) from if_pos hc]at o';exact⟨j,rfl,by lia,by lia,o' _ G' H' (Step.refl st.gh) (Yj 0 j.toNat)⟩
     ·rw[show Cn [.int j]=.no from if_neg hc]at o';exact o'.elim
    |_=>exact False.elim o'
noncomputable def jM(x:Str):List D:=x.cps.toList.map λc=> .str ⟨#[c]⟩
def Fk:D->R (List D)
 | .lst ds=> .ok ds
 | .tup ds=> .ok ds
 | .str x=> .ok (jM x)
 |_=> .no
def Bo(f:FE):FI:=λ δ=>(f δ).bind λw=>Fk w.d
def Rg(K:Frag)(tl:TE):TI:=λ σ H Q=>tl σ H λx H1=>
 (∃a,x=.ref a/\(∃xs,bU K H1 a xs)/\Q (QH K a) H1)\/(∃a,x=.ref a/\(∃xs,cU K H1 a xs)/\Q (QG K a) H1)\/(∃z,x=.str z/\Q (vj z) H1)
def SK{l:Expr}{tl:TE}(hl:PE X l tl):PI X tg l (Rg X.K tl):=by
 intro zd s σ H Q I h;refine Bg (hl zd s σ H _ I h) λv s1 ⟨x,H1,I1,r1,q1⟩=> ?_;rcases q1 with⟨a,e,⟨xs,hq⟩,q⟩|⟨a,e,⟨xs,hq⟩,q⟩|⟨z,e,q⟩
 ·subst e;cases r1;obtain⟨its,rv,p,hz⟩:=I1.list hq;refine U9 p.isList ?_;refine⟨s1.heap.objs.size,[s1.heap.objs.size],_,_,H1,rfl,I1.kept (t':=s1.toks) λb o e=>A5 _ e,Yz a _,⟨_,C5 _ rfl,rfl,rfl⟩,λb hb=> ?_,q⟩;have e:b=s1.heap.objs.size:=by simpa using hb
  subst e;exact I1.eO (A9 _) (I1.aN.fresh (A9 _))
 ·subst e;cases r1;obtain⟨its,rv,p,hz⟩:=I1.tuple hq;refine wpAny_pyIter_tuple (show s1.heap.IsTuple a its.toArray from p) ?_;refine⟨s1.heap.objs.size,[s1.heap.objs.size],_,_,H1,rfl,I1.kept (t':=s1.toks) λb o e=>A5 _ e,Zr a _,⟨_,C5 _ rfl,rfl,rfl⟩,λb hb=> ?_,q⟩;have e:b=s1.heap.objs.size:=by simpa using hb
  subst e;exact I1.eO (A9 _) (I1.aN.fresh (A9 _))
 ·subst e;obtain⟨t,rfl⟩:=r1;have fin:∀(nm:String) (St:Nat->Heap->Prop),(∀i h,St i h↔h.IsStrIter s1.heap.objs.size nm z t i)->(∀A':Around,A'.handled=none->Walks X.prog X.w A' s1.heap.objs.size [s1.heap.objs.size] [s1.heap.objs.size] z.cps.size (SignAt z) St)->
    ["enumerate","zip","dict_itemiterator","dict_reverseitemiterator","odict_iterator","itertools.zip_longest","itertools.pairwise"].contains nm=false->
    (∀(A:Around) (i:Nat) (s:Shared) (Q E:AA),s.heap.IsStrIter s1.heap.objs.size nm z t i->Q (.ref s1.heap.objs.size) s->wpAny (model X.prog X.w) A (pyIter (.ref s1.heap.objs.size)) Q E s)->
    QB X zd σ tg Q (.ref s1.heap.objs.size) {s1 with heap:=s1.heap.push {cls:=.type nm,data:=.fields #[.str z t,.int 0 0]}}:=by
   intro nm St hS W hn Rh;refine⟨s1.heap.objs.size,[s1.heap.objs.size],St,vj z,H1,rfl,I1.kept (t':=s1.toks) λb o e=>A5 _ e,
    Ze W (λi h st=> ?_) (λi h h' st k=> ?_) (λA i s Q E st h=>Rh A i s Q E ((hS _ _).mp st) h) (λi H g=>g) (λi H g=> ?_) (λi H u hu=> ?_),(hS _ _).mpr ⟨_,C5 _ rfl,rfl,rfl⟩,λb hb=> ?_,q⟩
   ·obtain⟨o,ho,hc,hd⟩:=(hS _ _).mp st;exact⟨o,nm,_,ho,hc,hd,hn⟩
   ·obtain⟨o,ho,r⟩:=(hS _ _).mp st;exact(hS _ _).mpr ⟨o,k _ (by simp) o ho,r⟩
   ·exact g
   ·obtain⟨c,u',e1,e2⟩:=hu;subst e2;exact⟨.str ⟨#[c]⟩,⟨u',rfl⟩,rfl,c,e1,rfl⟩
   ·have e:b=s1.heap.objs.size:=by simpa using hb
    subst e;exact I1.eO (A9 _) (I1.aN.fresh (A9 _))
  cases ha:z.cps.all (· < 128)
  ·exact wpAny_pyIter_wide ha (fin "str_iterator" _ (λ_ _=>Iff.rfl) (λA' hA=>Walks.strWide hA _ z t) ⋯ λA i s Q E st h=>wpAny_pyIter_striter_wide st h)
  ·exact wpAny_pyIter_ascii ha (fin "str_ascii_iterator" _ (λ_ _=>Iff.rfl) (λA' hA=>Walks.strAscii hA _ z t) ⋯ λA i s Q E st h=>wpAny_pyIter_striter_ascii st h)
def WM{G:Hp}{a:Addr}{vs:List V}{ds:List D}(h:bU K G a vs)(r:aB K G vs ds):jr K G (QH K a) ds:=λG' H g1 g i=>by
 refine⟨λd e=> ?_,λe=> ?_⟩
 ·obtain⟨v,e1,hv⟩:=r.get e;refine⟨⟨vs,v,(g1.trans g).seq h,e1⟩,λx H' y=> ?_⟩;obtain⟨e2,y⟩:=y;subst e2;have e3:=y vs ((g1.trans g).seq h);rw[e1]at e3;cases e3;exact⟨G',Step.refl g,hv.mono g1⟩
 ·exact⟨vs,(g1.trans g).seq h,by rw[r.length];exact O6 e⟩
def Vb{G:Hp}{a:Addr}{vs:List V}{ds:List D}(h:cU K G a vs)(r:aB K G vs ds):jr K G (QG K a) ds:=λG' H g1 g i=>by
 refine⟨λd e=> ?_,λe=> ?_⟩
 ·obtain⟨v,e1,hv⟩:=r.get e;refine⟨⟨vs,v,aA.tupS (g1.trans g) h,e1⟩,λx H' y=> ?_⟩;obtain⟨e2,y⟩:=y;subst e2;have e3:=y vs (aA.tupS (g1.trans g) h);rw[e1]at e3;cases e3;exact⟨G',Step.refl g,hv.mono g1⟩
 ·exact⟨vs,aA.tupS (g1.trans g) h,by rw[r.length];exact O6 e⟩
def Va{G:Hp}(z:Str):jr K G (vj z) (jM z):=λG' H g1 g i=>by
 refine⟨λd e=> ?_,λe=> ?_⟩
 ·unfold jM at e;rw[B3]at e;cases q:z.cps.toList[i]? with
  |none=>rw[q]at e;cases e
  |some c=>
   rw[q]at e;cases e;have hi:i < z.cps.size:=by
    have:=(B4.mp q).1;simpa using this
   refine⟨hi,λx H' y=> ?_⟩;obtain⟨e2,c',e3,e4⟩:=y;subst e2 e4;have:z.cps.toList[i]? =some c':=by simpa using e3
   rw[q]at this;cases this;exact⟨G',Step.refl g,.str _⟩
 ·unfold jM at e;rw[A3]at e;show i=z.cps.size;simp at e;lia
def Ep(he:ED X EX e f):ID X EX tg e (Bo f):=
 PI.imp (SK he) λ σ H Q ⟨G,δ,g0,s0,o⟩=>by
  refine⟨G,δ,g0,s0, ?_⟩;unfold Bo at o;cases e1:f δ with
  |ok w=>
   rw[e1]at o;simp only[R.aI]at o;refine WP.intro λv G' H' st r=> ?_;revert r o;cases w.d with
   |lst ds=>
    intro o r;cases r with
    |lst h r=>exact .inl ⟨_,rfl,⟨_,st.gh.seq h⟩,o _ G' H' st (WM h r)⟩
   |tup ds=>
    intro o r;cases r with
    |tup h r=>exact .inr (.inl ⟨_,rfl,⟨_,aA.tupS st.gh h⟩,o _ G' H' st (Vb h r)⟩)
   |str z=>
    intro o r;cases r;exact .inr (.inr ⟨z,rfl,o _ G' H' st (Va z)⟩)
   |_=>intro o _;exact False.elim o
  |ex x=>rw[e1]at o;exact o
  |no=>rw[e1]at o;exact o
end
abbrev FG:=D->SE->R SE
def tG(K:Frag)(EX:Bi)(fg:FG):TG:=λv σ H Q=>∃H0 G0 G Δ O d,Ev K H0 G0 G H σ Δ O/\aU K G v d/\match fg d Δ with
 | .ok Δ'=>∀σ' G' H' O',Ev K H0 G0 G' H' σ' Δ' O'->aA G G'->Q σ' H'
 | .ex _=>False
 | .no=>False
def PG.imp{tg:Expr}{t t':TG}(h:PG X tg t)(i:∀v σ H Q,t' v σ H Q->t v σ H Q):PG X tg t':=λzd s σ H v u Q I r q=>h zd s σ H v u Q I r (i v σ H Q q)
abbrev GD(X:Cx)(EX:Bi)(tg:Expr)(fg:FG):Prop:=PG X tg (tG X.K EX fg)
section
variable{X:Cx}{EX:Bi}{pos:Pos}
def gV(i:Nat):FG:=λd Δ=> .ok (Δ.set i (.sh d))
def fK{i:Nat}{x:Str}(hN:X.N.Nodup)(hi:X.N[i]? =some x:=by rfl)(hx:Loc X.env.scope x:=by trivial)
  (hf:X.fn x=true\/X.env.scope.names.lookup x=some .local:=by trivial):GD X EX (.Name x pos) (gV i):=
 PG.imp (lH hN hi hx hf) λv σ H Q ⟨H0,G0,G,Δ,O,d,E,r,q⟩=>q _ G H O (E.put r) (aA.refl _)
def yJ(i j:Nat):FG:=λd Δ=>match d with
 | .tup [a,b]=> .ok ((Δ.set i (.sh a)).set j (.sh b))
 |_=> .no
def EH{i j k:Nat}{x y:Str}{p1 p2:Pos}(hc:X.calm=true)(hN:X.N.Nodup)(hi:X.N[i]? =some x:=by rfl)(hj:X.N[j]? =some y:=by rfl)(hx:Loc X.env.scope x:=by trivial)(hy:Loc X.env.scope y:=by trivial)
  (hf:X.fn x=true\/X.env.scope.names.lookup x=some .local:=by trivial) (Pm:X.fn y=true\/X.env.scope.names.lookup y=some .local:=by trivial)
  (hn:(assignEach [.Name x p1,.Name y p2] X.env).length=2:=by rfl) (cM:(assignEach [.Name x p1,.Name y p2] X.env).findIdx? (·.1)=none:=by rfl)
  (hs:(assignEach [.Name x p1,.Name y p2] X.env).map (·.2)=assign (.Name x p1) X.env::(assignEach [.Name y p2] X.env).map (·.2):=by rfl) (dZ:(assignEach [.Name y p2] X.env).map (·.2)=assign (.Name y p2) X.env::(assignEach [] X.env).map (·.2):=by rfl):
  GD X EX (.Tuple [.Name x p1,.Name y p2] k pos) (yJ i j):=
 PG.imp (EY hc (rB (lH hN hi hx hf) (rB (lH hN hj hy Pm) HS dZ) hs) hn cM) λv σ H Q ⟨H0,G0,G,Δ,O,d,E,r,q⟩=>by
  cases r with
  |tup h r=>
   cases r with
   |nil=>exact False.elim q
   |cons r1 r=>
    cases r with
    |nil=>exact False.elim q
    |cons r2 r=>
     cases r with
     |nil=>exact⟨_,_,rfl,aA.tupS E.st.gh h,rfl,_,_,rfl,_,_,rfl,rfl,q _ G H O ((E.put r1).put r2) (aA.refl _)⟩
     |cons _ _=>exact False.elim q
  |_=>exact False.elim q
def Cf(fg:FG)(g:FS):List D->FS
 | []=>λ Δ=> .nx Δ
 |d::ds=>λ Δ=>match fg d Δ with
  | .ok Δ1=>(match g Δ1 with
   | .nx Δ2=>Cf fg g ds Δ2
   | .ct Δ2=>Cf fg g ds Δ2
   | .bk Δ2=> .nx Δ2
   |r=>r)
  | .ex _=> .no
  | .no=> .no
def Bt(js:List Nat)(fi:FI)(fg:FG)(g:FS):FS:=λ Δ=>match fi (Bn Δ) with
 | .ok ds=>Cf fg g ds Δ
 | .ex x=> .ex x Δ
 | .no=>match fi (Bn (aC js Δ)) with
  | .ok ds=>Cf fg g ds (aC js Δ)
  | .ex x=> .ex x (aC js Δ)
  | .no=> .no
def lL{α:Type}{l:List α}{i:Nat}(h:i < l.length):∃x,l[i]? =some x/\l.drop i=x::l.drop (i + 1):=⟨l[i],by simp[h],List.drop_eq_getElem_cons h⟩
def JI{fg:FG}{g:FS}{H0:HB}{G0 G1 H1:Hp}{J:It}{ds:List D}{Δ:SE}{O:OS}{σ:Sg}{D:Ends}(E:Ev K H0 G0 G1 H1 σ Δ O)(it:jr K G1 J ds)(q:Fin K EX H0 G0 G1 D (Cf fg g ds Δ)):
  ∃W:Nat->Nat->Sg->Hp->Prop,(∃m,W 0 m σ H1)/\∀i m σ H,W i m σ H->
   (J.stop i H/\D.nx σ H)\/(J.go i H/\∃N:Sg->Hp->Prop,(∀σ' H',N σ' H'->∃m',m' < m/\W (i + 1) m' σ' H')/\∀x H',J.yg i H x H'->tG K EX fg x σ H' λ σ2 H2=>tS K EX g {D with nx:=N,ct:=N,bk:=D.nx} σ2 H2):=by
 refine⟨λi m σ H=>m=ds.length - i/\i<=ds.length/\∃G Δ O,Ev K H0 G0 G H σ Δ O/\aA G1 G/\Fin K EX H0 G0 G1 D (Cf fg g (ds.drop i) Δ),⟨ds.length,by simp,K8 _,G1,Δ,O,E,aA.refl _,q⟩, ?_⟩
 rintro i m σ H ⟨rfl,hi,G,Δ,O,E,sg,q⟩
 obtain⟨i1,i2⟩:=it G H sg E.st.gh i
 by_cases cR:i < ds.length
 ·obtain⟨d,e1,e2⟩:=lL cR;obtain⟨go,yl⟩:=i1 d e1;refine .inr ⟨go,λ σ' H'=>∃G Δ O,Ev K H0 G0 G H' σ' Δ O/\aA G1 G/\Fin K EX H0 G0 G1 D (Cf fg g (ds.drop (i + 1)) Δ),λ σ' H' w=>⟨ds.length - (i + 1),by lia,rfl,cR,w⟩,λx H' y=> ?_⟩;obtain⟨G',st,hx⟩:=yl x H' y;rw[e2]at q;refine⟨H0,G0,G',Δ,O,d,E.grow st,hx, ?_⟩;have q':Fin K EX H0 G0 G1 D (match fg d Δ with
   | .ok Δ1=>(match g Δ1 with
    | .nx Δ2=>Cf fg g (ds.drop (i + 1)) Δ2
    | .ct Δ2=>Cf fg g (ds.drop (i + 1)) Δ2
    | .bk Δ2=> .nx Δ2
    |r=>r)
   | .ex _=> .no
   | .no=> .no):=q
  cases e3:fg d Δ with
  |ok Δ1=>
   rw[e3]at q';intro σ2 G2 H2 O2 E2 s2;have yZ:aA G1 G2:=sg.trans (st.gg.trans s2);refine⟨H0,G0,G2,Δ1,O2,E2, ?_⟩;cases e4:g Δ1 with
   |nx Δ2=>simp only[e4]at q';exact λ σ3 G3 H3 O3 E3 s3=>⟨G3,Δ2,O3,E3,yZ.trans s3,q'⟩
   |ct Δ2=>simp only[e4]at q';exact λ σ3 G3 H3 O3 E3 s3=>⟨G3,Δ2,O3,E3,yZ.trans s3,q'⟩
   |bk Δ2=>simp only[e4]at q';exact λ σ3 G3 H3 O3 E3 s3=>q' σ3 G3 H3 O3 E3 (yZ.trans s3)
   |rt w=>simp only[e4]at q';exact q'
   |rv d Δ2=>simp only[e4]at q';exact λv σ3 G3 H3 O3 E3 s3=>q' v σ3 G3 H3 O3 E3 (yZ.trans s3)
   |ex x Δ2=>simp only[e4]at q';exact λ σ3 G3 H3 O3 E3 s3=>q' σ3 G3 H3 O3 E3 (yZ.trans s3)
   |no=>simp only[e4]at q';exact q'
  |ex x=>rw[e3]at q';exact q'
  |no=>rw[e3]at q';exact q'
 ·have e:ds.length=i:=by lia
  refine .inl ⟨i2 e, ?_⟩;rw[V0 ()]at q;exact q σ G H O E sg
def eE{tg iter:Expr}{body:List Stmt}{fi:FI}{fg:FG}{g:FS}(js:List Nat)(hp:PassesOwn (model X.prog X.w) X.A X.env X.xe)(hc:X.calm=true)(hi:ID X EX tg iter fi)(hg:GD X EX tg fg)(hb:BD X EX body g)
  (hs:∀x,foldedSetIterable iter X.env x=pure x:=by intro _;rfl):SD X EX (.For tg iter body [] pos) (Bt js fi fg g):=
 PS.imp (Tp hp hc hi hg hb hs) λD σ H ⟨H0,G0,G,Δ,O,E,q⟩=>by
  unfold Bt at q;cases e1:fi (Bn Δ) with
  |ok ds=>
   rw[e1]at q;refine⟨G,Bn Δ,E.st.gh,E.iL, ?_⟩;rw[e1];exact λJ G' H' st it=>JI (E.grow st) it (Fin.mono st.gg q)
  |ex x=>
   rw[e1]at q;exact⟨G,Bn Δ,E.st.gh,E.iL,by rw[e1];exact q σ G H O E (aA.refl _)⟩
  |no=>
   rw[e1]at q;obtain⟨G1,O1,sg,E1⟩:=E.aC js;refine⟨G1,Bn (aC js Δ),E1.st.gh,E1.iL, ?_⟩;cases e2:fi (Bn (aC js Δ)) with
   |ok ds=>
    simp only[e2]at q;exact λJ G' H' st it=>JI (E1.grow st) it (Fin.mono (sg.trans st.gg) q)
   |ex x=>simp only[e2]at q;exact q σ G1 H O1 E1 sg
   |no=>simp only[e2]at q;exact q
def Em(i:Nat)(f:FE):FS:=λ Δ=>match Δ[i]? with
 |some (.ow (.lst ds))=>if ds.length < 16777216 then(match f (Bn Δ) with
   | .ok w=> .nx (Δ.set i (.ow (.lst (ds ++ [w.d]))))
   | .ex x=> .ex x Δ
   | .no=>match f (Az Δ) with
    | .ok w=>if Bf w.d=true then .nx (Δ.set i (.ow (.lst (ds ++ [w.d])))) else .no
    |_=> .no) else .no
 |_=> .no
def lz{i:Nat}{x:Str}{e:Expr}{f:FE}{p1 zh zf:Pos}(he:ED X EX e f)(hN:X.N[i]? =some x:=by rfl)(hv:fV X.env.scope x:=by trivial)(hd:AG x:=by decide)
  (bT:(x ==("__classdict__" :Str))=false:=by decide) (kG:swapsWith (.Call (.Attribute (.Name x p1) "append" zh) [e] [] zf) none pos.line X.env=pure false:=by rfl)
  (ae:attributeBase (.Name x p1) "append" X.env (eval (.Name x p1) X.env)=eval (.Name x p1) X.env:=by rfl)
  (bb:((backTo zf (starEach [e] X.env)).all (λx=> !x.1) && (backToKw zf (keywordEach [] X.env)).all (λx=>x.1.isSome)
   && decide ([e].length + ([]:List Keyword).length + (if([]:List Keyword).isEmpty then 0 else 1) < 30))=true:=by rfl)
  (af:(zh.endLine ==zf.line)=true:=by rfl) (hs:starEach [e] X.env=(false,eval e X.env)::starEach [] X.env:=by rfl) (aa:(backTo zf (starEach [] X.env)).any (·.1)=false:=by rfl):
  SD X EX (.Expr (.Call (.Attribute (.Name x p1) "append" zh) [e] [] zf) pos) (Em i f):=
 PS.imp (nL (qC R0 T6 T7 oh (iJ hN hv hd bT) (lV he mn hs) ae bb af hs aa) kG) λD σ H ⟨H0,G0,G,Δ,O,E,q⟩=>by
  unfold Em at q
  split at q
  ·rename_i ds e1
   split at q
   ·rename_i hz;obtain⟨v0,s1,t⟩:=E.ow i _ _ e1 rfl;obtain⟨a,vs,rfl,m,hH,rl⟩:=t.dB
    ·skip
     refine⟨.ref a,s1,.inl ⟨rfl,_,bU.of hH⟩, ?_⟩;have fin:∀{G' H':Hp} {v:V} {d:L3.D},Ev X.K H0 G0 G' H' σ Δ O->aA G G'->H' a=some (.lst vs)->aB X.K G' vs ds->aU X.K G' v d->Fin X.K EX H0 G0 G D (.nx (Δ.set i (.ow (.lst (ds ++ [d])))))->
       vZ (.ref a) [v] H' λ_ H1=>D.nx σ H1:=λ{G' H' v d} E' sg uv r' OU q'=>
      ⟨a,vs,v,rfl,rfl,uv,by rw[r'.length,F0];exact hz,q' σ G' _ _ (E'.jH s1 m (r'.append (.cons OU .nil))) sg⟩
     cases e2:f (Bn Δ) with
     |ok w=>
      simp only[e2]at q;refine⟨G,Bn Δ,E.st.gh,E.iL, ?_⟩;rw[e2];exact WP.intro λv G' H' st r=>fin (E.grow st) st.gg (st.hh _ _ hH) (rl.mono st.gg) r q
     |ex x=>
      simp only[e2]at q;exact⟨G,Bn Δ,E.st.gh,E.iL,by rw[e2];exact q σ G H O E (aA.refl _)⟩
     |no=>
      simp only[e2]at q;refine⟨Dh G H O,Az Δ,E.aH,E.dF, ?_⟩;cases e3:f (Az Δ) with
      |ok w=>
       simp only[e3]at q
       split at q
       ·rename_i fl;exact WP.intro λv G' H' st r=>fin (E.keep st.hh) (aA.refl _) (st.hh _ _ hH) rl (r.uU fl) q
       ·exact q.elim
      |ex x=>simp only[e3]at q;exact q.elim
      |no=>simp only[e3]at q;exact q
   ·exact q.elim
  ·exact q.elim
end
noncomputable def fQ(X:Cx)(scope:Scope)(cl:List (Str×Addr))(N':List Str)(C:Addr)(s0:Shared)(H0:Hp)(fp:List Addr)(pn:AE):Cx where
 prog:=X.prog
 w:=X.w
 K:=X.K
 mg:=X.mg
 base:=X.base
 A:=X.A
 N:=N'
 s₀:=s0
 H₀:=H0
 env:=compEnvC scope cl C X.env
 outer:=X.stack
 stack:=X.stack
 ex:=fp
 fn:=λ_=>false
 calm:=X.calm
 pn:=pn
 xe:=λ_ _=>False
abbrev Gw:=D->DE->R DE
def tGc(K:Frag)(EX:Bi)(fg:Gw):TG:=λv σ H Q=>∃G δ d,aA G H/\aR K G σ δ/\aU K G v d/\match fg d δ with
 | .ok δ'=>∀σ',aR K G σ' δ'->aR K G σ' δ->Q σ' H
 | .ex x=>(EX σ).p x G H
 | .no=>False
abbrev GC(X:Cx)(EX:Bi)(tg:Expr)(fg:Gw):Prop:=PG X tg (tGc X.K EX fg)
def Of(X:Cx)(EX:Bi)(ifs:List Expr)(p:FT):Prop:=
 ∀(zd:AE) (s:Shared) (σ:Sg) (H:Hp) (Q:Bool->Hp->Prop),Inv X zd σ H s->fF X.K EX p σ H Q->
  wpAny (model X.prog X.w) X.A (forIn ifs true λc r=>if r=true then do let ok<-isTrue c X.env (eval c X.env);pure (ForInStep.yield ok) else pure (ForInStep.yield r)) (TP X zd σ Q) X.xe s
section
variable{X:Cx}{EX:Bi}{pos:Pos}
noncomputable def gC(i:Nat):Gw:=λd δ=>match δ[i]? with
 |some none=> .ok (δ.set i (some d))
 |_=> .no
def aR.put{G:Hp}{σ:Sg}{δ:DE}{v:V}{d:D}(h:aR K G σ δ)(r:aU K G v d)(i:Nat):aR K G (σ.set i (some v)) (δ.set i (some d)):=by
 refine⟨by rw[F4,F4];exact h.len,λj d' e=> ?_⟩;rcases He e with⟨rfl,q⟩|⟨n,q⟩
 ·cases q;have cR:i < δ.length:=by
   by_cases hh:i < δ.length
   ·exact hh
   ·rw[F2 (by rw[F4];lia)]at e;cases e
  exact⟨v,by rw[G6 (by rw[h.len];exact cR)],r⟩
 ·obtain⟨v',e1,r'⟩:=h.get j d' q;exact⟨v',by rw[C6 n];exact e1,r'⟩
def do_1{i:Nat}{x:Str}(hN:X.N.Nodup)(hi:X.N[i]? =some x:=by rfl)(hx:Loc X.env.scope x:=by trivial)
  (hf:X.fn x=true\/X.env.scope.names.lookup x=some .local:=by trivial):GC X EX (.Name x pos) (gC i):=
 PG.imp (lH hN hi hx hf) λv σ H Q ⟨G,δ,d,g,s,r,q⟩=>by
  unfold gC at q;cases e:δ[i]? with
  |none=>rw[e]at q;exact q.elim
  |some o=>
   rw[e]at q;cases o with
   |some _=>exact q.elim
   |none=>
    refine q _ (s.put r i) ⟨by rw[F4];exact s.len,λj d' e'=> ?_⟩;obtain⟨v',e1,r'⟩:=s.get j d' e';refine⟨v', ?_,r'⟩;rw[C6]
    ·exact e1
    ·rintro rfl
     rw[e]at e';cases e'
def jP:Of X EX [] (λ_=> .ok true):=λzd s σ H Q I ⟨G,δ,g,h,q⟩=>wpAny_tests_nil ⟨H,I,q G H (Step.refl g)⟩
def ly{c:Expr}{p:FT}(h:TD X EX c p):Of X EX [c] p:=λzd s σ H Q I q=>wpAny_tests_one (h zd s σ H Q I q)
def fG(fg:Gw)(p:FT)(f:FE)(δ:DE):List D->R (List D)
 | []=> .ok []
 |d::ds=>(fg d δ).bind λ δ1=>(p δ1).bind λb=>if b=true then(f δ1).bind λw=>(fG fg p f δ ds).bind λrs=> .ok (w.d::rs) else fG fg p f δ ds
def R.calm{α:Type}:R α->R α
 | .ok w=> .ok w
 |_=> .no
@[simp] theorem R.rM{α:Type}(a:α):(R.ok a).calm=.ok a:=rfl
@[simp] theorem R.rO{α:Type}(x:Xn):(R.ex x:R α).calm=.no:=rfl
@[simp] theorem R.rN{α:Type}:(R.no:R α).calm=.no:=rfl
def By(m:Nat)(fi:FI)(fg:Gw)(p:FT)(f:FE):FE:=λ δ=>((fi δ).bind λds=>if ds.length<=16777216 then(fG fg p f (δ ++ List.replicate m none) ds).bind λrs=> .ok (.ow (.lst rs)) else .no).calm
def R.dJ{α:Type}{r:R α}{x:Xn}(h:r.calm=.ex x):False:=by
 cases r <;> cases h
def IT{m:Nat}{fi:FI}{fg:Gw}{p:FT}{f:FE}{δ:DE}{x:Xn}(h:By m fi fg p f δ=.ex x):False:=R.dJ h
@[reducible] def SJ(prog:Program)(w:World)(A:Around)(env:Env)(tg elt:Expr)(ifs:List Expr)(it zn:Value)(bad:AA)(fin more:Shared->Prop):Option Value->Shared->Prop
 |none=>fin
 |some v=>wpAny (model prog w) A (letOwnedTupleGo tg it v) (λ_=>wpAny (model prog w) A (assign tg env v) (λ_=>
   wpAny (model prog w) A (forIn ifs true λc r=>if r=true then do let ok<-isTrue c env (eval c env);pure (ForInStep.yield ok) else pure (ForInStep.yield r)) (λok=>
    if ok=true then wpAny (model prog w) A (eval elt env) (λx=>wpAny (model prog w) A (call (.builtin "list.append") [zn,x]) (λ_=>more) bad) bad else more) bad) bad) bad
def Ko{prog:Program}{w:World}{A:Around}{R:Result->Shared->Prop}{s:Shared}{elt target iter:Expr}{ifs:List Expr}{scope:Scope}{it zn:Value}{env:Env}(I:Nat->Shared->Prop)
  (turn:∀n s,I n s->wpAny (model prog w) A (pyNext it) (SJ prog w A env target elt ifs it zn (notedBy (model prog w) A env λe=>R (.error e)) (R (.ok .next)) λs'=>∃m,m < n/\I m s') (notedBy (model prog w) A env λe=>R (.error e)) s)
  (n:Nat) (h:I n s):codeAny (model prog w) A (.compLoop (.ListComp elt [⟨target,iter,ifs,0⟩] scope pos) 0 it zn env) R s:=by
 refine codeAny_loop rfl I (λk t hk=>wpAny_noted (env:=env) (m:=compTurn (.ListComp elt [⟨target,iter,ifs,0⟩] scope pos) 0 it zn env) (compTurn_list .. ▸ ?_)) n h;refine A4 (O8 (A4 (Bg (turn k t hk) ?_)))
 rintro (_|v) t1 g1
 ·exact D0 g1
 refine A4 (Bg g1 λ_ t2 g2=>A4 (Bg g2 λ_ t3 g3=>A4 (Bg g3 ?_)))
 rintro (_|_) t4 g4
 ·exact D0 ⟨rfl,g4⟩
 ·exact A4 (A4 (Bg g4 λ_ t5 g5=>A4 (Bg g5 λ_ t6 g6=>D0 (D0 ⟨rfl,g6⟩))))
structure MG(X:Cx)(scope:Scope)(cl:List (Str×Addr))(N':List Str):Prop where
 gF:closureFor scope X.env=pure cl
 cell:∀y∈scope.names,y.2≠ .cell
 kind:scope.kind=.function
 names:∀y∈scope.names,y.2=.local->scope.names.lookup y.1=some .local
 sub:∀x c,cl.lookup x=some c->X.env.cells.lookup x=some c
 has:∀x,((relabel scope X.env).names.lookup x=some .cell\/(relabel scope X.env).names.lookup x=some .free)->∃c,cl.lookup x=some c
 old:∀(i:Nat) (x:Str),N'[i]? =some x->i < X.N.length->fV (relabel scope X.env) x->X.N[i]? =some x/\(X.env.scope.names.lookup x=some .cell\/X.env.scope.names.lookup x=some .free)/\(∃c,cl.lookup x=some c)/\((relabel scope X.env).names.lookup x=some .cell\/(relabel scope X.env).names.lookup x=some .free)
noncomputable def Dw(cells:List (Str×Addr)):List (Str×NameKind)->List (Str×Addr)->List (Str×Addr)
 | [],zn=>zn
 |(x,k)::r,zn=>Dw cells r (if k=.free then(x,(cells.lookup x).getD 0)::zn else zn)
def LQ{scope:Scope}{env:Env}(h:∀p∈scope.names,p.2=.free->∃c,env.cells.lookup p.1=some c):closureFor scope env=pure (Dw env.cells scope.names []):=by
 have all:∀(names:List (Str×NameKind)) (zn:List (Str×Addr)),(∀p∈names,p.2=.free->∃c,env.cells.lookup p.1=some c)->
   (forIn names zn λ(x:Str×NameKind) (r:List (Str×Addr))=>if(x.2 == .free)=true then do let a<-cellOf env x.1;pure (ForInStep.yield ((x.1,a)::r)) else pure (ForInStep.yield r):Sem (List (Str×Addr)))=pure (Dw env.cells names zn):=by
  intro names
  induction names with
  |nil=>intro zn _;rfl
  |cons p r ih=>
   intro zn hp;obtain⟨x,k⟩:=p;rw[List.forIn_cons]
   by_cases hk:k=.free
   ·subst hk;obtain⟨c,e⟩:=hp (x,.free) L4 rfl;have e1:cellOf env x=pure c:=by unfold cellOf;rw[show env.cells.lookup x=some c from e]
    simp only[P0,if_true,e1,pure_bind];rw[ih _ λq hq=>hp q (D5 _ hq)];show _=pure (Dw env.cells r (if NameKind.free=.free then(x,(env.cells.lookup x).getD 0)::zn else zn));rw[if_pos rfl,show env.cells.lookup x=some c from e];rfl
   ·have hb:(k ==NameKind.free)=false:=by simpa using hk
    simp only[hb,C8,F3,pure_bind];rw[ih _ λq hq=>hp q (D5 _ hq)];show _=pure (Dw env.cells r (if k=.free then(x,(env.cells.lookup x).getD 0)::zn else zn));rw[if_neg hk]
 unfold closureFor;have:=all scope.names [] h;simpa using this
theorem wD{cells:List (Str×Addr)}{q:Str×Addr}:∀{names:List (Str×NameKind)} {zn:List (Str×Addr)},q∈Dw cells names zn->q∈zn\/((q.1,NameKind.free)∈names/\q.2=(cells.lookup q.1).getD 0)
 | [],zn,h=> .inl h
 |(x,k)::r,zn,h=>by
  rcases wD (names:=r) h with h|⟨h1,h2⟩
  ·split at h
   ·rename_i hk;rcases B8.mp h with rfl|h
    ·exact .inr ⟨by rw[hk];exact L4,rfl⟩
    ·exact .inl h
   ·exact .inl h
  ·exact .inr ⟨D5 _ h1,h2⟩
theorem IS{cells:List (Str×Addr)}{x:Str}:∀{names:List (Str×NameKind)} {zn:List (Str×Addr)},(zn.lookup x).isSome=true->((Dw cells names zn).lookup x).isSome=true
 | [],zn,h=>h
 |(y,k)::r,zn,h=>by
  refine IS (names:=r) ?_
  split
  ·rw[K6]
   split
   ·rfl
   ·exact h
  ·exact h
theorem wC{cells:List (Str×Addr)}{x:Str}:∀{names:List (Str×NameKind)} {zn:List (Str×Addr)},(x,NameKind.free)∈names->((Dw cells names zn).lookup x).isSome=true
 |(y,k)::r,zn,h=>by
  rcases B8.mp h with h|h
  ·cases h;refine IS (names:=r) ?_;rw[if_pos rfl,K6];simp
  ·exact wC (names:=r) h
theorem Oo{env:Env}:∀(names:List (Str×NameKind)) (x:Str),
  (names.map λ(n,k)=>if(k ==NameKind.free && env.scope.kind == .function && env.kindOf n ==some .cell) then(n,NameKind.cell) else(n,k)).lookup x=(names.lookup x).map λk=>if(k ==NameKind.free && env.scope.kind == .function && env.kindOf x ==some .cell)=true then NameKind.cell else k
 | [],x=>rfl
 |(n,k)::r,x=>by
  have ih:=Oo (env:=env) r x;show List.lookup x ((if(k ==NameKind.free && env.scope.kind == .function && env.kindOf n ==some .cell)=true then(n,NameKind.cell) else(n,k))::_)=_;cases hx:x ==n with
  |true=>
   have e:x=n:=eq_of_beq hx;subst e
   by_cases hc:(k ==NameKind.free && env.scope.kind == .function && env.kindOf x ==some .cell)=true
   ·rw[if_pos hc];simp only[K6,P0,L7];rw[if_pos hc]
   ·rw[if_neg hc];simp only[K6,P0,L7];rw[if_neg hc]
  |false=>
   by_cases hc:(k ==NameKind.free && env.scope.kind == .function && env.kindOf n ==some .cell)=true
   ·rw[if_pos hc];simp only[K6,hx];exact ih
   ·rw[if_neg hc];simp only[K6,hx];exact ih
noncomputable def Gu(inner outer:List (Str×NameKind))(N N':List Str):Bool:=
 (inner.all λp=>p.2 != .cell && (p.2 != .local || inner.lookup p.1 ==some .local) && (p.2 != .free || (outer.lookup p.1 ==some .cell || outer.lookup p.1 ==some .free))) &&
 (List.range N.length).all λi=>match N'[i]? with
  |some x=>(match inner.lookup x with
   |some .free=>N[i]? ==some x && (outer.lookup x ==some .cell || outer.lookup x ==some .free)
   |some .local=>false
   |some .cell=>false
   |_=>true)
  |none=>true
def nU{scope:Scope}{N':List Str}(ok:X.Ok)(hk:scope.kind=.function)(hb:Gu scope.names X.env.scope.names X.N N'=true):MG X scope (Dw X.env.cells scope.names []) N':=by
 unfold Gu at hb;rw[C9]at hb;obtain⟨h1,h2⟩:=hb;have h1:=F8.mp h1;have h2:=F8.mp h2;have fr:∀p∈scope.names,p.2=.free->∃c,X.env.cells.lookup p.1=some c:=λp hp hf=>by
  have z:=h1 p hp;simp only[hf,C9,S0,bne_iff_ne,M5]at z;exact ok.has p.1 (by
   rcases z.2 with z|z
   ·exact absurd rfl z
   ·exact z)
 have inn:∀x k,scope.names.lookup x=some k->(x,k)∈scope.names:=λx k e=>L5 e;have bf:∀p∈scope.names,p.2≠ .cell:=λp hp hc=>by
  have z:=h1 p hp;rw[hc]at z;simp at z
 have ff:∀x,scope.names.lookup x=some .free->∃c,(Dw X.env.cells scope.names []).lookup x=some c:=λx e=>Q5.mp (wC (inn x _ e));have gn:∀x,((relabel scope X.env).names.lookup x=some .cell\/(relabel scope X.env).names.lookup x=some .free)->scope.names.lookup x=some .free:=λx h=>by
  unfold relabel at h;rw[Oo]at h;cases e:scope.names.lookup x with
  |none=>rw[e]at h;simp at h
  |some k=>
   rw[e]at h;have nc:=bf (x,k) (inn x k e);cases k with
   |free=>rfl
   |cell=>exact absurd rfl nc
   |«local»=>simp at h
   |globalExplicit=>simp at h
   |globalImplicit=>simp at h
 refine⟨LQ fr,bf,hk,λy hy hl=> ?_,λx c e=> ?_,λx h=>ff x (gn x h),λi x e hi hv=> ?_⟩
 ·have z:=h1 y hy;simp only[hl,C9,S0,bne_iff_ne,M5]at z;rcases z.1.2 with z|z
  ·exact absurd rfl z
  ·exact z
 ·rcases wD (L5 e) with z|⟨z1,z2⟩
  ·exact absurd z (by simp)
  ·obtain⟨c',e'⟩:=fr (x,.free) z1 rfl;have z2:c=(X.env.cells.lookup x).getD 0:=z2;have e':X.env.cells.lookup x=some c':=e';rw[e']at z2⊢;cases z2;rfl
 ·have z:=h2 i (K7.mpr hi);rw[e]at z;dsimp only at z;have look:scope.names.lookup x=some .free/\(((relabel scope X.env).names.lookup x=some .cell\/(relabel scope X.env).names.lookup x=some .free)):=by
   unfold fV relabel at hv;unfold relabel;rw[Oo]at hv⊢;cases q:scope.names.lookup x with
   |none=>rw[q]at hv;simp at hv
   |some k=>
    rw[q]at hv z;cases k with
    |free=>
     refine⟨rfl, ?_⟩
     by_cases hc:(X.env.scope.kind == .function && X.env.kindOf x ==some .cell)=true
     ·left;simp[Bool.and_assoc,hc]
     ·right;simp[Bool.and_assoc,hc]
    |cell=>simp at z
    |«local»=>simp at z
    |globalExplicit=>simp at hv
    |globalImplicit=>simp at hv
  rw[look.1]at z;simp only[C9,S0,M5]at z;exact⟨z.1,z.2,ff x look.1,look.2⟩
structure hU(P:Program)(w:World)(K:Frag)(tg:Expr)(J:It)(fp:List Addr)(it:Addr)(tn:Nat->Heap->Prop)(B:Cx->Prop):Prop where
 obj:∀i h,tn i h->∀b∈fp,∃o,h.get? b=some o/\∀v,o.data≠ .cell v
 keep:∀i h h',tn i h->(∀b∈fp,∀o,h.get? b=some o->h'.get? b=some o)->tn i h'
 item:∀(X:Cx),X.prog=P->X.w=w->X.K=K->∀(i:Nat) (zd:AE) (s:Shared) (σ:Sg) (H:Hp) (E:AA),B X->Inv X zd σ H s->(∀b∈fp,Fw X zd H b)->tn i s.heap->J.go i H->
  wpAny (model P w) X.A (pyNext (.ref it)) (λr s1=>∃u,r=some u/\
   wpAny (model P w) X.A (letOwnedTupleGo tg (.ref it) u) (λ_ s2=>∃x H',Inv X zd σ H' s2/\RelV x u/\J.yg i H x H'/\tn (i + 1) s2.heap/\∀b∈fp,H' b=none) E s1) E s
 done:∀(X:Cx),X.prog=P->X.w=w->X.K=K->∀(i:Nat) (zd:AE) (s:Shared) (σ:Sg) (H:Hp) (E:AA),B X->Inv X zd σ H s->(∀b∈fp,Fw X zd H b)->tn i s.heap->J.stop i H->
  wpAny (model P w) X.A (pyNext (.ref it)) (λr s1=>r=none/\Inv X zd σ H s1) E s
 self:∀(A:Around) (i:Nat) (s:Shared) (Q:AA) (E:AA),tn i s.heap->Q (.ref it) s->wpAny (model P w) A (pyIter (.ref it)) Q E s
def gM:Cx->Prop:=λX=>X.calm=true
def Turn.z{P:Program}{w:World}{tg:Expr}{J:It}{fp:List Addr}{it:Addr}{tn:Nat->Heap->Prop}(T:Turn P w K tg J fp it tn):hU P w K tg J fp it tn gM:=
 ⟨T.obj,T.keep,λX a b c i zd s σ H E hc=>T.item X a b c hc i zd s σ H E,λX a b c i zd s σ H E hc=>T.done X a b c hc i zd s σ H E,T.self⟩
def BX:Cx->Prop:=λX=>X.A.handled=none\/∃(x:Addr) (o:Obj) (u:HO) (us:Array Value),X.A.handled=some (.ref x)/\X.H₀ x=some (.cS o u)/\o.data=.fields us/\us[2]? =some .none
def BX.on{X Y:Cx}{zd:AE}{s:Shared}{σ:Sg}(b:BX X)(I:Inv X zd σ H s)(e1:Y.A.handled=X.A.handled)(e2:Y.H₀=H):BX Y:=by
 rcases b with b|⟨x,o,u,us,e,h,d⟩
 ·exact .inl (e1.trans b)
 ·exact .inr ⟨x,o,u,us,e1.trans e,by rw[e2];exact I.base.cK x o u h,d⟩
def PIZ(X:Cx)(B:Cx->Prop)(tg iter:Expr)(wi:TI):Prop:=
 ∀(zd:AE) (s:Shared) (σ:Sg) (H:Hp) (R:It->Hp->Prop),Inv X zd σ H s->wi σ H R->
  wpAny (model X.prog X.w) X.A (eval iter X.env) (λv s1=>wpAny (model X.prog X.w) X.A (pyIter v) (λiX s2=>∃(it:Addr) (fp:List Addr) (tn:Nat->Heap->Prop) (J:It) (H':Hp),iX=.ref it/\Inv X zd σ H' s2/\hU X.prog X.w X.K tg J fp it tn B/\tn 0 s2.heap/\(∀b∈fp,Fw X zd H' b)/\R J H') X.xe s1) X.xe s
theorem PI.z{tg iter:Expr}{wi:TI}(h:PI X tg iter wi):PIZ X gM tg iter wi:=λzd s σ H R I q=>
 D6 (h zd s σ H R I q) (λv s1 h1=>D6 h1 (λiX s2 ⟨it,fp,tn,J,H',e,I2,T,r⟩=>⟨it,fp,tn,J,H',e,I2,Turn.z T,r⟩) λ_ _ z=>z) λ_ _ z=>z
def Yi{elt iter tg:Expr}{ifs:List Expr}{scope:Scope}{N':List Str}{fi:FI}{fg:Gw}{p:FT}{f:FE}{m:Nat}(eI:∀e s,¬X.xe e s){B:Cx->Prop}(hk:scope.kind=.function)(hb:Gu scope.names X.env.scope.names X.N N'=true)
  (hm:N'.length=X.N.length + m)
  (fL:∀C s0 H0 fp pn,GC (fQ X scope (Dw X.env.cells scope.names []) N' C s0 H0 fp pn) Ej tg fg/\Of (fQ X scope (Dw X.env.cells scope.names []) N' C s0 H0 fp pn) Ej ifs p/\ED (fQ X scope (Dw X.env.cells scope.names []) N' C s0 H0 fp pn) Ej elt f)
  {zd:AE} {s:Shared} {σ:Sg} {δ:DE} (I:Inv X zd σ H s) {Z:Hp->Hp->Prop} (hZ:∀G2 H2,Z G2 H2->aA G2 H2/\aR X.K G2 σ δ) (hB:∀C s0 H0 fp pn,Inv X zd σ H0 s0->B (fQ X scope (Dw X.env.cells scope.names []) N' C s0 H0 fp pn))
  (hit:wpAny (model X.prog X.w) X.A (eval iter X.env) (λxv s₁=>wpAny (model X.prog X.w) X.A (pyIter xv) (λiX s₂=>∃(it:Addr) (fp:List Addr) (tn:Nat->Heap->Prop) (J:It) (H2:Hp) (ds:List D) (G2:Hp),iX=.ref it/\Inv X zd σ H2 s₂/\hU X.prog X.w X.K tg J fp it tn B/\tn 0 s₂.heap/\(∀b∈fp,Fw X zd H2 b)/\fi δ=.ok ds/\Z G2 H2/\jr X.K G2 J ds) X.xe s₁) X.xe s)
  {RR:Value->Addr->Result->Shared->Prop}
  (o:match By m fi fg p f δ with| .ok _=>True| .ex x=>False| .no=>False)
  (AX:∀(Da C:Addr) (s1:Shared) (G2 H2 G' H':Hp) (vs:List V) (rs:List D),By m fi fg p f δ=.ok (.ow (.lst rs))->Inv X zd σ H' s1->(∃m,s1.heap.Ns C m)->Fw X zd H' C->Z G2 H2->Step G2 H2 G' H'->H2 Da=none->H' Da=some (.lst vs)->G' Da=none->aB X.K G' vs rs->RR (.ref Da) C (.ok .next) s1):
  wpAny (model X.prog X.w) X.A (eval iter X.env) (λx s₁=>wpAny (model X.prog X.w) X.A (pyIter x) (λit s₂=>wpAny (model X.prog X.w) X.A (newList []) (λzn s₃=>
   wpAny (model X.prog X.w) X.A (newFunctionEnv scope X.env.globals (Dw X.env.cells scope.names []) [] X.env.qual none .none (some X.env)) (λgG s₄=>
    codeAny (model X.prog X.w) X.A (.compStart (.ListComp elt [⟨tg,iter,ifs,0⟩] scope pos) 0 it zn {gG with scope:=relabel scope X.env}) (RR zn gG.locals) s₄) X.xe s₃) X.xe s₂) X.xe s₁) X.xe s:=by
 have n:=nU I.ok hk hb;generalize Rj:Dw X.env.cells scope.names []=cl at n fL hB⊢;have dn:∀ds,fi δ=.ok ds->ds.length<=16777216/\(match fG fg p f (δ ++ List.replicate m none) ds with| .ok rs=>By m fi fg p f δ=.ok (.ow (.lst rs))| .ex x=>False| .no=>False):=λds e=>by
  unfold By at o⊢;simp only[e,R.aI]at o⊢
  by_cases hz:ds.length<=16777216
  ·refine⟨hz, ?_⟩;rw[if_pos hz]at o⊢;cases e2:fG fg p f (δ ++ List.replicate m none) ds with
   |ok rs=>rfl
   |ex x=>rw[e2]at o;exact o
   |no=>rw[e2]at o;exact o
  ·rw[if_neg hz]at o;exact o.elim
 
 refine D6 hit (λxv s₁ h₁=>D6 h₁ (λiX s₂ h₂=> ?_) λ_ _ e=>(eI _ _ e).elim) λ_ _ e=>(eI _ _ e).elim;obtain⟨it,fp,tn,J,H2,ds,G2,rfl,I2,T,bC,f2,e2,um,ui⟩:=h₂;obtain⟨oM,h0⟩:=hZ G2 H2 um;obtain⟨hz,o⟩:=dn ds e2
 
 have mK:H2 s₂.heap.objs.size=none:=I2.aN.fresh (A9 _);refine S7 (X3 n.cell (by intro y hy;simp at hy) (λh₁ hns₁ hsb₁=> ?_) n.kind);dsimp only at hns₁ hsb₁⊢;generalize uw:s₂.heap.objs.size=Da at mK;have Pu: @Eq Nat s₂.heap.objs.size Da:=uw;have I3:Inv X zd σ (upd H2 Da (.lst [])) {s₂ with heap:=s₂.heap.push {cls:=.type "list",dict:=none,data:=.seq ([]:List Value).toArray}}:=by
  rw[<-uw];exact I2.qr (t':=s₂.toks) .nil (K8 _)
 generalize AY:s₂.heap.push {cls:=.type "list",dict:=none,data:=.seq ([]:List Value).toArray}=dO at hns₁ hsb₁ I3⊢;have hC:dO.objs.size=Da + 1:=by rw[<-AY,L9,uw]
 generalize BA:dO.objs.size=C at hns₁ hsb₁ hC;have AZ: @Eq Nat dO.objs.size C:=BA;have Pz: @Eq Nat C (Da + 1):=hC;have dv:∀b o,s₂.heap.get? b=some o->dO.get? b=some o:=λb o e=>by rw[<-AY];exact A5 _ e
 have up:∀b o,dO.get? b=some o->h₁.get? b=some o:=λb o e=>hsb₁.extBut b o (C4 (show @LT.lt Nat _ b C by rw[<-AZ];exact A8 e)) (A5 _ e)
 
 have uA:∀b∈fp,b < s₂.heap.objs.size:=λb hb=>by
  obtain⟨o,e,_⟩:=T.obj _ _ bC b hb;exact A8 e
 have md:∀x c,cl.lookup x=some c->c < dO.objs.size/\c∉fp/\(upd H2 Da (.lst [])) c=none:=λx c e=>by
  have e':=n.sub x c e;obtain⟨v,hv⟩:=I3.cell x c e';exact⟨hv.lt,λz=>(f2 c z).2.2.2.2.1 x c e' rfl,I3.bD x c e'⟩
 let X':=fQ X scope cl N' C {s₂ with heap:=dO} (upd H2 Da (.lst [])) fp (X.pn ++ zd)
 have zA:X'.Ok:=by
  refine⟨I.ok.mod,n.kind,I.ok.glob,I.ok.blt,O6 BA,λx y c h1 h2=>I.ok.inj x y c (n.sub x c h1) (n.sub y c h2),λx hx=>n.has x hx,λx c z=> ?_,I.ok.hd,I.ok.frames,.inl rfl,λb hb=>⟨?_,λx c e z=> ?_⟩,λb o e=> ?_, ?_,λb o e hb=> ?_,λb hb z=> ?_,I3.stack,I3.cP,I3.tab⟩
  ·exact absurd z A6
  ·exact C4 (C1 (uA b hb) (show @LE.le Nat _ s₂.heap.objs.size C by lia))
  ·subst z;exact(md x c e).2.1 hb
  ·exact I3.bs b o e
  ·exact D4 I.ok.fU I3.sz
  ·rcases(f2 b hb).2.2.2.1 with z|z
   ·exact I.ok.dQ b o e z
   ·exact absurd (A8 (I.ok.bs b o e).1) (Nat.not_lt_of_le z)
  ·rcases B8.mp (I3.bP b z) with z|z
   ·exact(f2 b hb).2.1 z
   ·exact(f2 b hb).2.2.1 z
 have lenσ:σ.length=X.N.length:=I.len;have I4:Inv X' [] (σ ++ List.replicate m none) (upd H2 Da (.lst [])) {s₂ with heap:=h₁,toks:=s₂.toks + ([]:List (Str×Value)).length}:=by
  refine⟨zA,rfl,I2.bare,Un.kept up,⟨_,hns₁,λi x v e1 e2 e3=> ?_⟩,λx c e=> ?_, ?_,λx c e=>(md x c e).2.2,λp hp=> ?_,I3.aN.kept up, ?_⟩
  ·have hi:i < σ.length:=by
    by_cases hh:i < σ.length
    ·exact hh
    ·rw[D2 (),F5]at e2
     split at e2 <;> cases e2
   rw[B7 hi]at e2;obtain⟨n1,n2,⟨c,n3⟩,n4⟩:=n.old i x e1 () e3;obtain⟨mm,jX,hl⟩:=I3.loc;obtain⟨u,r,l⟩:=hl i x v n1 e2 (.inr n2);refine⟨u,r,.inr ⟨n4,c,n3, ?_⟩⟩;have zF:=n.sub x c n3;rcases l with⟨k1,k2⟩|⟨k1,c',k2,k3⟩
   ·exfalso;have jU:X.env.scope.names.lookup x=some .local:=k1;rcases n2 with n2|n2
    ·rw[n2]at jU;cases jU
    ·rw[n2]at jU;cases jU
   ·rw[zF]at k2;cases k2;exact k3.keeps up
  ·obtain⟨v,hv⟩:=I3.cell x c (n.sub x c e);exact⟨v,hv.keeps up⟩
  ·show upd H2 Da (.lst []) C=none;exact I3.aN.fresh (by show dO.objs.size<=C;lia)
  ·have pQ:p∈X.pn ++ zd:=by
    have mI:p∈(X.pn ++ zd) ++ []:=hp
    rwa[D9]at mI
   obtain⟨z1,z2,z3,z4,z5⟩:=I3.pin p pQ;refine⟨up _ _ z1,z2, ?_,λz=> ?_,z5⟩
   ·exact C4 (show @LT.lt Nat _ p.1 C by rw[<-AZ];exact A8 z1)
   ·rcases B8.mp (I3.bP p.1 z) with z|z
    ·exact z3 z
    ·exact z4 z
  ·rw[A7,J6,lenσ];exact hm.symm
 obtain⟨Pj,hct,hel⟩:=fL C {s₂ with heap:=dO} (upd H2 Da (.lst [])) fp (X.pn ++ zd);have AW:aR X.K G2 (σ ++ List.replicate m none) (δ ++ List.replicate m none):=by
  refine⟨by rw[A7,A7,J6,J6,h0.len],λi d e=> ?_⟩
  by_cases hh:i < δ.length
  ·rw[B7 hh]at e;obtain⟨v,e1,r⟩:=h0.get i d e;exact⟨v,by rw[B7 (by rw[h0.len];exact hh)];exact e1,r⟩
  ·rw[D2 (),F5]at e
   split at e <;> cases e
 generalize hδ:δ ++ List.replicate m none=δ' at AW o;have tR:tn 0 h₁:=T.keep 0 _ _ bC λb hb o e=>up b o (dv b o e);have PF:∀b∈fp,(upd H2 Da (.lst [])) b=none:=λb hb=>by
  rw[Be (C4 (show @LT.lt Nat _ b Da by rw[<-Pu];exact uA b hb))];exact(f2 b hb).1
 have bj:∀{pl:AE} {H':Hp},pl= []->(∀b∈fp,H' b=none)->∀b∈fp,Fw X' pl H' b:=λ{pl H'} bH hn b hb=>by
  subst bH;refine⟨hn b hb, ?_,λz=> ?_,.inl hb,λx c e z=> ?_,λp hp z=> ?_⟩
  ·exact C4 (C1 (uA b hb) (show @LE.le Nat _ s₂.heap.objs.size C by lia))
  ·rcases B8.mp (I3.bP b z) with z|z
   ·exact(f2 b hb).2.1 z
   ·exact(f2 b hb).2.2.1 z
  ·subst z;exact(md x c e).2.1 hb
  ·have pQ:p∈X.pn ++ zd:=by
    have mI:p∈(X.pn ++ zd) ++ []:=hp
    rwa[D9]at mI
   exact(f2 b hb).2.2.2.2.2 p pQ z
 have loop:∀s4:Shared,Inv X' [] (σ ++ List.replicate m none) (upd H2 Da (.lst [])) s4->tn 0 s4.heap->codeAny (model X.prog X.w) X.A (.compLoop (.ListComp elt [⟨tg,iter,ifs,0⟩] scope pos) 0 (.ref it) (.ref Da) (compEnvC scope cl C X.env)) (RR (.ref Da) C) s4:=by
  intro s4 I4 Ov;refine Ko (λk s'=>∃i σ' H' G' vs rs,k=ds.length - i/\i<=ds.length/\Inv X' [] σ' H' s'/\tn i s'.heap/\(∀b∈fp,H' b=none)/\aR X.K G' σ' δ'/\Step G2 H2 G' H'/\aA G2 G'/\H' Da=some (.lst vs)/\G' Da=none/\
   aB X.K G' vs rs/\rs.length<=i/\(match fG fg p f δ' (ds.drop i) with| .ok mz=>By m fi fg p f δ=.ok (.ow (.lst (rs ++ mz)))| .ex x=>False| .no=>False)) ?_ ds.length
   ⟨0,_,_,G2,[],[],by simp,K8 _,I4,Ov,PF,AW,Step.own oM mK _,aA.refl _,Ce,oM.free mK,.nil,K8 _,by simpa using o⟩
  rintro k s' ⟨i,σ',H',G',vs,rs,rfl,hi,I',yU,BG,hS,st,sg,hD,gD,rl,hl,o'⟩
  obtain⟨i1,i2⟩:=ui G' H' sg st.gh i
  by_cases cR:i < ds.length
  ·obtain⟨d,e1,e2⟩:=lL cR;obtain⟨go,yl⟩:=i1 d e1;refine Bg (T.item X' rfl rfl rfl i [] s' σ' H' _ (hB _ _ _ _ _ I3) I' (bj rfl BG) yU go) λr s1 ⟨u,hr,h1⟩=> ?_;subst hr;refine Bg h1 λ_ s5 ⟨x,H5,I5,r5,y5,mr,BF⟩=> ?_;obtain⟨G5,ag,OQ⟩:=yl x H5 y5;have CG:=I5.pinned (bj rfl BF) (T.obj _ _ mr);rw[e2]at o';have o1:match((fg d δ').bind λ δ1=>(p δ1).bind λb=>if b=true then(f δ1).bind λw=>(fG fg p f δ' (ds.drop (i + 1))).bind λrs=> .ok (w.d::rs) else fG fg p f δ' (ds.drop (i + 1))) with| .ok mz=>By m fi fg p f δ=.ok (.ow (.lst (rs ++ mz)))| .ex x=>False| .no=>False:=o'
   have Pp:aR X.K G5 σ' δ':=hS.mono ag.gg;refine D6 (Pj _ s5 σ' H5 x u (λ σ6 H6=>∃δ1,fg d δ'=.ok δ1/\H6=H5/\aR X.K G5 σ6 δ1/\aR X.K G5 σ6 δ') CG r5 ⟨G5,δ',d,ag.gh,Pp,OQ, ?_⟩) (λ_ s6 ⟨σ6,H6,I6,δ1,e6,eH,NB,uZ⟩=> ?_) λ_ _ z=>False.elim z
   ·cases e6:fg d δ' with
    |ok δ1=>exact λ σ6 h6 PB=>⟨δ1,rfl,rfl,h6,PB⟩
    |ex x=>rw[e6]at o1;exact o1
    |no=>rw[e6]at o1;exact o1
   subst eH;rw[e6]at o1;simp only[R.aI]at o1;refine D6 (hct _ s6 σ6 H6 (λb H7=>∃G7,p δ1=.ok b/\Step G5 H6 G7 H7) I6 ⟨G5,δ1,ag.gh,NB, ?_⟩) (λb s7 ⟨H7,I7,G7,e7,dE⟩=> ?_) λ_ _ z=>False.elim z
   ·cases e7:p δ1 with
    |ok b=>exact λG7 H7 st7=>⟨G7,rfl,st7⟩
    |ex x=>rw[e7]at o1;exact o1
    |no=>rw[e7]at o1;exact o1
   rw[e7]at o1;simp only[R.aI]at o1
   
   have ND:G7 Da=none:=(ag.trans dE).nw Da gD (by rw[hD];simp);have ux:H7 Da=some (.lst vs):=(ag.trans dE).hh _ _ hD;have bh:∀{σ9:Sg} {H9:Hp} {s9:Shared},Inv X' ([] ++ lD fp s5.heap) σ9 H9 s9->tn (i + 1) s9.heap/\∀b∈fp,H9 b=none:=λ{σ9 H9 s9} I9=>
    ⟨T.keep _ _ _ mr λb hb o e=>(I9.pin (b,o) (B2 _ (B2 _ (ym hb e)))).1,λb hb=>by
     obtain⟨o,e,d⟩:=T.obj _ _ mr b hb;exact(I9.pin (b,o) (B2 _ (B2 _ (ym hb e)))).2.1⟩
   have hSk:∀{G9:Hp},aA G7 G9->aR X.K G9 σ6 δ':=λ{G9} sm=>uZ.mono (dE.gg.trans sm);cases b with
   |false=>
    rw[if_neg A6]at o1⊢;exact⟨ds.length - (i + 1),by lia,i + 1,σ6,H7,G7,vs,rs,rfl,cR,I7.bS,(bh I7).1,(bh I7).2,hSk (aA.refl _),st.trans (ag.trans dE),sg.trans (ag.gg.trans dE.gg),ux,ND,rl.mono (ag.gg.trans dE.gg),by lia,o1⟩
   |true=>
    rw[if_pos rfl]at o1⊢;refine D6 (hel _ s7 σ6 H7 (λv H8=>∃w G8,f δ1=.ok w/\Step G7 H7 G8 H8/\aU X.K G8 v w.d) I7 ⟨G7,δ1,dE.gh,NB.mono dE.gg, ?_⟩) (λu8 s8 ⟨v8,H8,I8,r8,w8,G8,e8,bZ,hv8⟩=> ?_) λ_ _ z=>False.elim z
    ·cases e8:f δ1 with
     |ok w=>exact WP.intro λv G8 H8 Oz r8=>⟨w,G8,rfl,Oz,r8⟩
     |ex x=>rw[e8]at o1;exact o1
     |no=>rw[e8]at o1;exact o1
    rw[e8]at o1;simp only[R.aI]at o1;have BC:G8 Da=none:=bZ.nw Da ND (by rw[ux];simp);have Pw:H8 Da=some (.lst vs):=bZ.hh _ _ ux;have rl8:aB X.K G8 vs rs:=rl.mono (ag.gg.trans (dE.gg.trans bZ.gg));refine D6 (oh (X:=X') _ s8 σ6 H8 (.ref Da) [v8] (.ref Da) [u8] (λ_ H9=>H9=upd H8 Da (.lst (vs ++ [v8]))) I8 rfl (.cons r8 .nil) ⟨Da,vs,v8,rfl,rfl,Pw,by rw[rl.length,F0];lia,rfl⟩) (λ_ s9 ⟨_,H9,I9,_,e9⟩=> ?_) λ_ _ z=>False.elim z;subst e9;have tT:=st.trans (ag.trans (dE.trans bZ));refine⟨ds.length - (i + 1),by lia,i + 1,σ6,_,G8,vs ++ [v8],rs ++ [w8.d],rfl,cR,I9.bS,(bh I9).1,(bh I9).2,hSk bZ.gg,⟨λb o z=> ?_,λb o z=> ?_,tT.gg,tT.nw⟩,sg.trans (ag.gg.trans (dE.gg.trans bZ.gg)),Ce,BC,rl8.append (.cons hv8 .nil),by rw[A7,M7];lia, ?_⟩
    ·rw[Be (En z mK)];exact tT.hh b o z
    ·rw[Be (En z BC)];exact bZ.gh b o z
    ·cases PU:fG fg p f δ' (ds.drop (i + 1)) with
     |ok mz=>
      rw[PU]at o1;simp only[R.aI]at o1⊢;rw[K9];exact o1
     |ex x=>rw[PU]at o1;exact o1
     |no=>rw[PU]at o1;exact o1
  ·have e:ds.length=i:=by lia
   refine Bg (T.done X' rfl rfl rfl i [] s' σ' H' _ (hB _ _ _ _ _ I3) I' (bj rfl BG) yU (i2 e)) λr s1 ⟨hr,I1⟩=> ?_;subst hr;rw[V0 ()]at o';have o1:By m fi fg p f δ=.ok (.ow (.lst (rs ++ []))):=o';rw[D9]at o1;obtain⟨mm,jX,_⟩:=I1.loc;have df:Inv X zd σ H' s1:=I3.oy (s':=s1) (ch:=fp) I1.os I1.base I1.aN I1.bare λb hb=>by
    obtain⟨f0,PJ,f2',f3,f4,f5⟩:=f2 b hb;exact⟨f3,PJ,f4,f5⟩
   exact AX Da C s1 G2 H2 G' H' vs rs o1 df ⟨mm,jX⟩ (I3.eO (by show dO.objs.size<=C;lia) I1.free) um st mK hD gD rl
 exact ZB3 (loop _ I4 tR) (T.self X.A 0 _ _ _ tR (loop _ I4 tR))
structure dI(X:Cx)(scope:Scope)(N':List Str)(m:Nat)(tg:Expr)(ifs:List Expr)(elt:Expr)(fg:Gw)(p:FT)(f:FE):Prop where
 hk:scope.kind=.function
 hb:Gu scope.names X.env.scope.names X.N N'=true
 hm:N'.length=X.N.length + m
 fL:∀C s0 H0 fp pn,GC (fQ X scope (Dw X.env.cells scope.names []) N' C s0 H0 fp pn) Ej tg fg/\Of (fQ X scope (Dw X.env.cells scope.names []) N' C s0 H0 fp pn) Ej ifs p/\ED (fQ X scope (Dw X.env.cells scope.names []) N' C s0 H0 fp pn) Ej elt f
def jD(X:Cx)(B:Cx->Prop)(tg iter:Expr)(fi:FI):Prop:=
 ∀(zd:AE) (s:Shared) (σ:Sg) (G H:Hp) (δ:DE) (ds:List D),Inv X zd σ H s->aA G H->aR X.K G σ δ->fi δ=.ok ds->∃Z:Hp->Hp->Prop,
  (∀G2 H2,Z G2 H2->aA G2 H2/\aR X.K G2 σ δ)/\
  wpAny (model X.prog X.w) X.A (eval iter X.env) (λxv s₁=>wpAny (model X.prog X.w) X.A (pyIter xv) (λiX s₂=>∃(it:Addr) (fp:List Addr) (tn:Nat->Heap->Prop) (J:It) (H2 G2:Hp),iX=.ref it/\Inv X zd σ H2 s₂/\hU X.prog X.w X.K tg J fp it tn B/\tn 0 s₂.heap/\(∀b∈fp,Fw X zd H2 b)/\Z G2 H2/\jr X.K G2 J ds) X.xe s₁) X.xe s/\
  ∀(Da C:Addr) (s1:Shared) (G2 H2 G' H':Hp) (vs:List V) (rs:List D),Inv X zd σ H' s1->Fw X zd H' C->Z G2 H2->Step G2 H2 G' H'->H2 Da=none->H' Da=some (.lst vs)->G' Da=none->aB X.K G' vs rs->
   ∃G' H',Inv X zd σ H' s1/\Fw X zd H' C/\Step G H G' H'/\H Da=none/\H' Da=some (.lst vs)/\G' Da=none/\aB X.K G' vs rs
def WK{iter tg:Expr}{fi:FI}{B:Cx->Prop}(hi:PIZ X B tg iter (tI X.K Ej fi)):jD X B tg iter fi:=λzd s σ G H δ ds I g0 h0 ed=>by
 refine⟨Step G H,λG2 H2 z=>⟨z.gh,h0.mono z.gg⟩,D6 (hi zd s σ H (λJ H2=>∃G2,Step G H G2 H2/\jr X.K G2 J ds) I ⟨G,δ,g0,h0, ?_⟩) (λxv s₁ h₁=>D6 h₁ (λiX s₂ h₂=> ?_) λ_ _ e=>e) (λ_ _ e=>e),λDa C s1 G2 H2 G' H' vs rs Io fc z st h1 h2 h3 rl=>⟨G',H',Io,fc,z.trans st,z.hh.free h1,h2,h3,rl⟩⟩
 ·rw[ed];exact λJ G2 H2 st it=>⟨G2,st,it⟩
 ·obtain⟨it,fp,tn,J,H2,rfl,I2,T,bC,f2,G2,Oy,ui⟩:=h₂;exact⟨it,fp,tn,J,H2,G2,rfl,I2,T,bC,f2,Oy,ui⟩
def Cs{iter tg:Expr}{fi:FI}(hi:ID X Ej tg iter fi):jD X gM tg iter fi:=WK (PI.z hi)
section
variable{elt iter tg:Expr}{ifs:List Expr}{scope:Scope}{N':List Str}{fi:FI}{fg:Gw}{p:FT}{f:FE}{m:Nat}
def Kn(eI:∀e s,¬X.xe e s){B:Cx->Prop}(src:jD X B tg iter fi)(ho:dI X scope N' m tg ifs elt fg p f)
  {zd:AE} {s:Shared} {σ:Sg} {G H:Hp} {δ:DE} (I:Inv X zd σ H s) (g0:aA G H) (h0:aR X.K G σ δ) (hB:∀C s0 H0 fp pn,Inv X zd σ H0 s0->B (fQ X scope (Dw X.env.cells scope.names []) N' C s0 H0 fp pn)) {RR:Value->Addr->Result->Shared->Prop}
  (o:match By m fi fg p f δ with| .ok _=>True| .ex x=>False| .no=>False)
  (AX:∀(Da C:Addr) (s1:Shared) (G' H':Hp) (vs:List V) (rs:List D),By m fi fg p f δ=.ok (.ow (.lst rs))->Inv X zd σ H' s1->(∃m,s1.heap.Ns C m)->Fw X zd H' C->Step G H G' H'->H Da=none->H' Da=some (.lst vs)->G' Da=none->aB X.K G' vs rs->RR (.ref Da) C (.ok .next) s1):
  wpAny (model X.prog X.w) X.A (eval iter X.env) (λx s₁=>wpAny (model X.prog X.w) X.A (pyIter x) (λit s₂=>wpAny (model X.prog X.w) X.A (newList []) (λzn s₃=>
   wpAny (model X.prog X.w) X.A (newFunctionEnv scope X.env.globals (Dw X.env.cells scope.names []) [] X.env.qual none .none (some X.env)) (λgG s₄=>
    codeAny (model X.prog X.w) X.A (.compStart (.ListComp elt [⟨tg,iter,ifs,0⟩] scope pos) 0 it zn {gG with scope:=relabel scope X.env}) (RR zn gG.locals) s₄) X.xe s₃) X.xe s₂) X.xe s₁) X.xe s:=by
 obtain⟨ds,ed⟩:∃ds,fi δ=.ok ds:=by
  unfold By at o;cases e:fi δ with
  |ok ds=>exact⟨ds,rfl⟩
  |ex x=>rw[e]at o;exact o.elim
  |no=>rw[e]at o;exact o.elim
 obtain⟨Z,z1,z2,z3⟩:=src zd s σ G H δ ds I g0 h0 ed;refine Yi eI (B:=B) ho.hk ho.hb ho.hm ho.fL I (Z:=Z) z1 hB (D6 z2 (λ_ _ h=>D6 h (λ_ _ ⟨it,fp,tn,J,H2,G2,a,b,c,d,e,z,i⟩=>⟨it,fp,tn,J,H2,ds,G2,a,b,c,d,e,ed,z,i⟩) λ_ _ e=>e) λ_ _ e=>e) o λDa C s1 G2 H2 G' H' vs rs e Io uo fc z st h1 h2 h3 rl=> ?_;obtain⟨G'',H'',x1,x2,x3,x4,x5,x6,x7⟩:=z3 Da C s1 G2 H2 G' H' vs rs Io fc z st h1 h2 h3 rl;exact AX Da C s1 G'' H'' vs rs e x1 uo x2 x3 x4 x5 x6 x7
def Yh(eI:∀e s,¬X.xe e s){B:Cx->Prop}(hB:∀zd σ C s0 H0 fp pn,Inv X zd σ H0 s0->B (fQ X scope (Dw X.env.cells scope.names []) N' C s0 H0 fp pn))(src:jD X B tg iter fi)(ho:dI X scope N' m tg ifs elt fg p f)
  (hs:∀x,foldedSetIterable iter X.env x=pure x:=by intro _;rfl):ED X Ej (.ListComp elt [⟨tg,iter,ifs,0⟩] scope pos) (By m fi fg p f):=by
 intro zd s σ H Q I q;obtain⟨G,δ,g0,h0,o⟩:=q;rw[eval_ListComp];have n:=nU I.ok ho.hk ho.hb;refine T8 (use:=none) rfl hs n.gF n.kind n.names (Kn (RR:=λzn C=>compPost (model X.prog X.w) X.A X.xe none (EP X zd σ Q) zn C) eI src ho I g0 h0 (hB _ _) ?_ λDa C s1 G' H' vs rs e Io uo fc st h1 h2 h3 rl=> ?_)
 ·cases e:By m fi fg p f δ with
  |ok w=>trivial
  |ex x=>rw[e]at o;exact o
  |no=>rw[e]at o;exact o
 ·rw[e]at o;obtain⟨mm,jX⟩:=uo;obtain⟨c0,c1,c2,c3,c4,c5⟩:=fc;exact⟨mm,jX,λh' sb=>⟨.ref Da,H',Io.turned (t':=s1.toks) (λb ob hb e=>(sb.2 b hb).trans e) c0 c1 c3 c4 c5,rfl,o (.ref Da) (λb=>b=Da) G' H' st (λa e=>by subst e;exact⟨h1,h3,by rw[h2];simp⟩) (.list h2 rfl rl)⟩⟩
def fJ(hc:X.calm=true)(src:jD X.jS gM tg iter fi)(ho:dI X scope N' m tg ifs elt fg p f)
  (hs:∀x,foldedSetIterable iter X.env x=pure x:=by intro _;rfl):ED X EX (.ListComp elt [⟨tg,iter,ifs,0⟩] scope pos) (By m fi fg p f):=
 PE.imp (PE.jS (Yh (X:=X.jS) (λ_ _ z=>z) (B:=gM) (λ_ _ _ _ _ _ _ _=>hc) src ⟨ho.hk,ho.hb,ho.hm,ho.fL⟩ hs)) λ σ H Q ⟨G,δ,g0,h0,o⟩=>by
  refine⟨G,δ,g0,h0, ?_⟩;cases e:By m fi fg p f δ with
  |ok w=>rw[e]at o;exact o
  |ex x=>exact(IT e).elim
  |no=>rw[e]at o;exact o
end
theorem PS.jS{st:Stmt}{t:TS}(h:PS X.jS st t):PS X st t:=λzd s σ H D I hw=>
 D6 (h zd s σ H D (I.dD _) hw) (λ_ _ q=>q.bW) λ_ _ z=>False.elim z
def HC{i:Nat}{js:List Nat}{f:FE}(h:∀δ x,f δ≠ .ex x){Δ Δ':SE}{x:Xn}(e:Aj i js f Δ=.ex x Δ'):False:=by
 unfold Aj at e;have hp:∀Δ2,Du i Δ2 (f (Bn Δ2))=.ex x Δ'->False:=λ Δ2 e2=>by
  unfold Du at e2;cases q:f (Bn Δ2) with
  |ok w=>rw[q]at e2;cases w <;> cases e2
  |ex y=>exact h _ _ q
  |no=>rw[q]at e2;cases e2
 cases q:f (Bn Δ) with
 |ok w=>rw[q]at e;cases w <;> cases e
 |ex y=>exact h _ _ q
 |no=>
  rw[q]at e;cases q2:f (Az Δ) with
  |ok w=>
   simp only[q2]at e
   split at e
   ·cases e
   ·exact hp _ e
  |ex y=>exact h _ _ q2
  |no=>simp only[q2]at e;cases e
def WJ{elt iter tg:Expr}{ifs:List Expr}{scope:Scope}{N':List Str}{fi:FI}{fg:Gw}{p:FT}{f:FE}{m i:Nat}{y:Str}{py ax:Pos}(eI:∀e s,¬X.xe e s)(hc:X.calm=true)(src:jD X gM tg iter fi)(ho:dI X scope N' m tg ifs elt fg p f)
  (hN:X.N.Nodup) (hy:X.N[i]? =some y) (hx:Loc X.env.scope y) (hf:X.fn y=true\/X.env.scope.names.lookup y=some .local)
  (kG:swapsWith (.ListComp elt [⟨tg,iter,ifs,0⟩] scope pos) (some (.Name y py)) ax.line X.env=pure true)
  (hs:∀x,foldedSetIterable iter X.env x=pure x):PS X (.Assign [.Name y py] (.ListComp elt [⟨tg,iter,ifs,0⟩] scope pos) ax) (kL (tD X.K Ej (By m fi fg p f)) (lg i)):=by
 intro zd s σ H D I q;obtain⟨G,δ,g0,h0,o⟩:=q;have n:=nU I.ok ho.hk ho.hb;rw[exec_Assign_Name_used _ _ _ _ kG];refine A4 (O8 (A4 ?_));show wpAny _ X.A (do let _<-comprehension (.ListComp elt [⟨tg,iter,ifs,0⟩] scope pos) scope X.env _ (newList []) false (eval iter X.env) (some (assign (.Name y py) X.env))) _ _ s;refine A4 (D6 (T8 (use:=some (assign (.Name y py) X.env)) (Q:=λ_ s'=>SP X zd D .next s') rfl hs n.gF n.kind n.names
  (Kn (RR:=λzn C=>compPost (model X.prog X.w) X.A X.xe (some (assign (.Name y py) X.env)) (λ_ s'=>SP X zd D .next s') zn C) eI src ho I g0 h0 (λ_ _ _ _ _ _=>hc) ?_ λDa C s1 G' H' vs rs e Io uo fc st h1 h2 h3 rl=> ?_)) (λ_ s' hq=>D0 (D0 hq)) λ_ _ e=>e)
 ·cases e:By m fi fg p f δ with
  |ok w=>trivial
  |ex x=>rw[e]at o;exact o
  |no=>rw[e]at o;exact o
 ·rw[e]at o;obtain⟨mm,jX⟩:=uo;obtain⟨c0,c1,c2,c3,c4,c5⟩:=fc;show wpAny _ X.A (assign (.Name y py) X.env (.ref Da)) _ _ _;refine Z1 (xf Io hN hy hx (v:=.ref Da) rfl (λs2 I2 ⟨a,sb,ha⟩=> ?_) hf);have Px:C≠a:=by
   rcases ha with rfl|ha
   ·exact c1
   ·exact λz=>c4 y a ha z.symm
  refine⟨mm,jX.sameBut sb Px,λh' OB=>⟨_,H',I2.turned (t':=s2.toks) (λb ob hb e=>(OB.2 b hb).trans e) c0 c1 c3 c4 c5, ?_⟩⟩;exact o (.ref Da) (λb=>b=Da) G' H' st (λa e=>by subst e;exact⟨h1,h3,by rw[h2];simp⟩) (.list h2 rfl rl)
def HA(js:List Nat){elt iter tg:Expr}{ifs:List Expr}{scope:Scope}{N':List Str}{fi:FI}{fg:Gw}{p:FT}{f:FE}{m i:Nat}{y:Str}{py ax:Pos}(hc:X.calm=true)(src:jD X.jS gM tg iter fi)(ho:dI X scope N' m tg ifs elt fg p f)
  (hN:X.N.Nodup) (hy:X.N[i]? =some y:=by rfl) (hx:Loc X.env.scope y:=by trivial) (hf:X.fn y=true\/X.env.scope.names.lookup y=some .local:=by trivial)
  (kG:swapsWith (.ListComp elt [⟨tg,iter,ifs,0⟩] scope pos) (some (.Name y py)) ax.line X.env=pure true:=by rfl)
  (hs:∀x,foldedSetIterable iter X.env x=pure x:=by intro _;rfl):SD X EX (.Assign [.Name y py] (.ListComp elt [⟨tg,iter,ifs,0⟩] scope pos) ax) (Aj i js (By m fi fg p f)):=
 PS.imp (PS.jS (WJ (X:=X.jS) (λ_ _ z=>z) hc src ⟨ho.hk,ho.hb,ho.hm,ho.fL⟩ hN hy hx hf kG hs)) λD σ H ⟨H0,G0,G,Δ,O,E,q⟩=>by
  refine wF (EX:=Ej) (js:=js) ⟨H0,G0,G,Δ,O,E, ?_⟩;cases e:Aj i js (By m fi fg p f) Δ with
  |ex x Δ'=>exact(HC (λ_ _ z=>IT z) e).elim
  |_=>rw[e]at q;exact q
end
def Yg:bootBuiltins "bool" =some (.type "bool"):=by decide +kernel
def iY{k:Nat}{scope:Scope}{cl:List (Str×Addr)}{N':List Str}{C:Addr}{s0:Shared}{H0:Hp}{fp:List Addr}{pn:AE}{c:Bool}(h:aE c k (Cx.A X)):aE c k (Cx.A (fQ X scope cl N' C s0 H0 fp pn)):=h
def Yf{scope:Scope}{cl:List (Str×Addr)}{N':List Str}{C:Addr}{s0:Shared}{H0:Hp}{fp:List Addr}{pn:AE}(h:Cx.calm X=true):Cx.calm (fQ X scope cl N' C s0 H0 fp pn)=true:=h
section
variable{X:Cx}{EX:Bi}{a b e:Expr}{es:List Expr}{f g:FE}{fa:FA}{pos p2:Pos}
abbrev FO:=DE->R (Option Int)
def MB:FO:=λ_=> .ok none
def fC:D->R (Option Int)
 | .int i=> .ok (some i)
 |_=> .no
def MA(f:FE):FO:=λ δ=>(f δ).bind λw=>fC w.d
def XW{α:Type}(xs:List α)(lo hi:Option Int):List α:=(xs.drop (HT.OC xs.length 0 lo)).take (HT.OC xs.length xs.length hi - HT.OC xs.length 0 lo)
def SI:D->Option Int->Option Int->R W
 | .lst ds,lo,hi=> .ok (.ow (.lst (XW ds lo hi)))
 | .str x,lo,hi=>if x.length<=16777216 then .ok (.sh (.str (Txt.slice x lo hi))) else .no
 |_,_,_=> .no
def ya(f:FE)(lo hi:FO):FE:=λ δ=>(f δ).bind λw=>(lo δ).bind λl=>(hi δ).bind λu=>SI w.d l u
noncomputable def tK(T:String):D->Bool
 | .str _=>T == "str"
 | .int _=>T == "int"
 | .lst _=>T == "list"
 |_=>false
def RC{G H:Hp}{T:String}{v:V}{d:D}(g:aA G H)(r:aU K G v d)(h:tK T d=true):yT K T v H:=by
 cases r with
 |str x=>exact eq_of_beq h
 |int i=>exact eq_of_beq h
 |lst hq r=>exact .inl ⟨eq_of_beq h,_,g.seq hq⟩
 |_=>cases h
def rDm(K:Frag)(fn:D->AF):V->List V->Hp->VK->Prop:=λx vs H Q=>∃(EX:jt) (G:Hp) (d:D) (ds:List D),aA G H/\aU K G x d/\aB K G vs ds/\Out K EX G H (fn d ds) Q
abbrev QC(X:Cx)(id:String)(fn:D->AF):Prop:=uN X id (rDm X.K fn)
def kh(T:String)(fn:D->AF)(f:FE)(fa:FA):FE:=λ δ=>(f δ).bind λw=>if tK T w.d=true then(fa δ).bind λds=>fn w.d ds else .no
variable{o:Expr}{name:Str}{zh zf:Pos}{T id:String}{fn:D->AF}
def Hz(pa:PlainAttrs T)(slot:Slot T name id)(zO:typeOf (.builtin id)=pure (.type "method_descriptor"))(hm:QC X id fn)(ho:ED X EX o f)(ha:AD X EX (e::es) fa)
  (ae:attributeBase o name X.env (eval o X.env)=eval o X.env:=by rfl)
  (bb:((backTo zf (starEach (e::es) X.env)).all (λx=> !x.1) && (backToKw zf (keywordEach [] X.env)).all (λx=>x.1.isSome)
   && decide ((e::es).length + ([]:List Keyword).length + (if([]:List Keyword).isEmpty then 0 else 1) < 30))=true:=by rfl)
  (af:(zh.endLine ==zf.line)=true:=by rfl) (hs:starEach (e::es) X.env=(false,eval e X.env)::starEach es X.env:=by rfl) (aa:(backTo zf (starEach es X.env)).any (·.1)=false:=by rfl):
  ED X EX (.Call (.Attribute o name zh) (e::es) [] zf) (kh T fn f fa):=
 PE.imp (qC pa slot zO hm ho ha ae bb af hs aa) λ σ H Q ⟨G,δ,g0,s0,o⟩=>tD.seq g0 s0 o λw v G1 H1 _ cG r1 o1=>by
  split at o1
  ·rename_i ht;exact⟨RC cG.gh r1 ht,dY.seq cG.gh (s0.mono cG.gg) o1 λds vs G2 H2 _ bC r2 o2=>⟨_,G2,w.d,ds,bC.gh,r1.mono bC.gg,r2,o2⟩⟩
  ·exact o1.elim
def yb(T:String)(fn:D->AF)(f:FE):FE:=λ δ=>(f δ).bind λw=>if tK T w.d=true then fn w.d [] else .no
def Hy{G:Hp}{v:V}{d:D}{vs:List V}{ds:List D}(r:aU K G v d)(rl:aB K G vs ds){P:Prop}(h:∀x y,v=.str x->d=.str x->vs= [.str y]->ds= [.str y]->P)(n:(∀x y,¬(d=.str x/\ds= [.str y]))->P):P:=by
 by_cases e:∃x y,d=.str x/\ds= [.str y]
 ·obtain⟨x,y,rfl,rfl⟩:=e;cases r;cases rl with
  |cons a t=>cases a;cases t;exact h x y rfl rfl rfl rfl
 ·exact n λx y z=>e ⟨x,y,z⟩
def ni:D->List D->R W
 | .str x,[.str y]=> .ok (.sh (.int (Txt.find x y)))
 |_,_=> .no
def WI:QC X "str.find" ni:=by
 intro zd s σ H x vs v us Q I rx rv h;obtain⟨EX,G,d,ds,g,r,rl,o⟩:=h;refine Hy r rl (λx y e1 e2 e3 e4=> ?_) λn=> ?_
 ·subst e1 e2 e3 e4;obtain⟨t,rfl⟩:=rx;obtain⟨u,rfl,t',rfl⟩:=rv.one;exact SC.find ⟨.int _,H,I.tok _,⟨_,rfl⟩,Dl o g (.int _)⟩
 ·have e:ni d ds=.no:=by
   unfold ni
   split
   ·rename_i x y;exact absurd ⟨rfl,rfl⟩ (n x y)
   ·rfl
  rw[e]at o;exact o.elim
def Dq(T:String):D->Option Bool
 | .aJ=>some false
 | .bl _=>some (T == "bool" || T == "int")
 | .int _=>some (T == "int")
 | .str _=>some (T == "str")
 | .lst _=>some (T == "list")
 | .tup _=>some (T == "tuple")
 |_=>none
def uH(T:String)(f:FE):FE:=λ δ=>(f δ).bind λw=>match Dq T w.d with
 |some k=> .ok (.sh (.bl k))
 |none=> .no
structure gW(K:Frag)(T:String):Prop where
 aJ:kitOne K (.type "NoneType") (.type T)=some false
 bl:kitOne K (.type "bool") (.type T)=some (T == "bool" || T == "int")
 int:kitOne K (.type "int") (.type T)=some (T == "int")
 str:kitOne K (.type "str") (.type T)=some (T == "str")
 lst:kitOne K (.type "list") (.type T)=some (T == "list")
 tup:kitOne K (.type "tuple") (.type T)=some (T == "tuple")
def WH{T:String}(k:gW X.K T):bN X (.builtin "isinstance") (λxs H Q=>∃G x d b,xs= [x,.ty T]/\aA G H/\aU X.K G x d/\Dq T d=some b/\Q (.bl b) H):=by
 intro zd s σ H xs us Q I rv h;obtain⟨G,x,d,b,rfl,g,r,e,q⟩:=h;obtain⟨u,u2,rfl,r1,r2⟩:=rv.two;cases r2;have fin:∀tk,EP X zd σ Q (.bool b) {s with toks:=tk}:=λtk=>⟨.bl b,H,I.tok _,rfl,q⟩;cases r with
 |aJ=>cases r1;exact kia_one kitx_none I.bY True.intro (k.aJ.trans e) (λz=>nomatch z) fin
 |bl y=>cases r1;exact kia_one kitx_bool I.bY True.intro (k.bl.trans e) (λz=>nomatch z) fin
 |int i=>obtain⟨t,rfl⟩:=r1;exact kia_one kitx_int I.bY True.intro (k.int.trans e) (λz=>nomatch z) fin
 |str y=>obtain⟨t,rfl⟩:=r1;exact kia_one kitx_str I.bY True.intro (k.str.trans e) (λz=>nomatch z) fin
 |lst h r=>
  cases r1;obtain⟨its,_,⟨ob,n,e1,c,_,_⟩,_⟩:=I.list (g.seq h);exact kia_one kitx_list I.bY ⟨ob,e1,c⟩ (k.lst.trans e) (λz=>nomatch z) fin
 |tup h r=>
  cases r1;obtain⟨its,_,⟨ob,e1,c,_⟩,_⟩:=I.tuple (aA.tupS g h);exact kia_one kitx_tuple I.bY ⟨ob,e1,c⟩ (k.tup.trans e) (λz=>nomatch z) fin
 |dS _ _=>cases e
 |dR _ _ _ _ _=>cases e
 |aD _ _ _=>cases e
 |obj _ _ _ _=>cases e
def nB{Tn:Str}{T:String}{pp p3:Pos}(k:gW X.K T)(ha:ED X EX a f)(hm:X.mg "isinstance" =none)(hmT:X.mg Tn=none)(hvT:bootBuiltins Tn=some (.type T))(hg:Gl X "isinstance" :=by rfl)(hgT:Gl X Tn:=by rfl)
  (hn:Tn≠ "__name__" :=by decide) (pV:AG Tn:=by decide)
  (he:starEach [a,.Name Tn p3] X.env=(false,eval a X.env)::starEach [.Name Tn p3] X.env:=by rfl) (bH:(backTo pos (starEach [.Name Tn p3] X.env)).any (·.1)=false:=by rfl)
  (hs:starEach [.Name Tn p3] X.env=(false,eval (.Name Tn p3) X.env)::starEach [] X.env:=by rfl):ED X EX (.Call (.Name "isinstance" pp) [a,.Name Tn p3] [] pos) (uH T f):=
 PE.imp (Ja (WH k) hg hm boot_isinstance (lV ha (lV (Vt (v:=.ty T) hgT hmT hvT rfl hn pV) mn hs) he) ⋯ ⋯ he bH) λ σ H Q ⟨G,δ,g0,s0,o⟩=>tD.seq g0 s0 o λw v G1 H1 _ cG r1 o1=>by
  split at o1
  ·rename_i b e;exact⟨G1,v,w.d,b,rfl,cG.gh,r1,e,Dl o1 cG.gh (.bl b)⟩
  ·exact o1.elim
end
def nA(K:Frag):Sp:=λvs H Q _=>∃(a:Addr) (ns:List Int),vs= [.ref a]/\bU K H a (ns.map V.int)/\ns.length<=63/\∀H',Q (.bl true) H'
theorem Hx{G:Hp}:∀ns:List Int,aB K G (ns.map V.int) (ns.map D.int)
 | []=> .nil
 |n::ns=> .cons (.int n) (Hx ns)
def SH{P:Program}{w:World}{k:Nat}{f:Addr}{x:Str}{F:AF}(h:bO P w K mg base true k f fd [x] (Br K 1 F))
  (hF:∀ns:List Int,ns.length<=63->∃v,F [.lst (ns.map D.int)]=.ok v/\v.d=.bl true):oq P w K mg base Oe k f fd [x] (nA K):=by
 have hs:∀vs H Q E,nA K vs H Q E->Br K 1 F vs H Q λ_ _ _=>False:=λvs H Q E q=>by
  obtain⟨a,ns,rfl,hS,hl,q⟩:=q;obtain⟨v,e,ev⟩:=hF ns hl;refine⟨rfl,H,[.lst (ns.map D.int)],aA.refl _,.cons (.lst hS (Hx ns)) .nil, ?_⟩;rw[e];refine WP.intro λu G' H' st r=> ?_;rw[ev]at r;cases r;exact q H'
 refine⟨λvs H Q E q=>(hs vs H Q E q).1,λA outer s H args us vs Q E hr e0 hb hv q=>R9 (h.run A outer s H args us vs Q _ (aE.of hr) e0 hb hv (hs vs H Q E q)) λr s' hq=> ?_⟩;cases r with
 |error e=>
  obtain⟨a,C,dx,T,H',_,_,_,_,_,_,_,_,_,_,z⟩:=hq;exact z
 |ok fl=>cases fl <;> exact hq
def ef_7{l:PySem.W.OpenLaw}{q:Program}{loose:List Str}{XP:(AB)->Heap->Prop}{YP:World->Heap->Prop}{d:DefRec}{K:Params->Frag}{x:Str}{k:Nat}(hn:l.most=some 63)(AN:d.params.defaults= [])(hr:dX k callerA)
  (hY:∀(w:World) (h:Heap),YP w h->(K w.params).In h) (hT:∀(w:World) (h:Heap),YP w h->∀c P,PySem.W.tabIn (K w.params) "numbers_by_bucket" =some (c,P)->isCodeTable h P/\h.get? P=some {cls:=.none,data:=.fields #[]}/\(K w.params).lookup P=none)
  (F:∀(w:World) (mg:AB) (fa:Addr) (h:Heap),(K w.params).In h->h.Ns mainGlobals mg->mg d.name=some (.ref fa)->
   ∃fd:FuncData,(∀(s:Shared) (u:Value),BindsTo s fd ⟨[u],[]⟩ [(x,u)])/\∀base:Heap,(K w.params).In base->base.Ns mainGlobals mg->oq l.prog w (K w.params) mg base Oe k fa fd [x] (nA (K w.params))):
  PySem.W.WalkO q loose XP YP l.row.toRowW d [] (λf vs=>PySem.call f vs):=
 Vk (n:=63) (k:=k) (x:=x) (CX:=λ_=>Oe) (sp:=λw=>nA (K w.params)) hn ⋯ AN hr hY hT F (λ_ _ a ns hl _ hS=>⟨a,ns,rfl,hS,hl,λ_=>rfl⟩) λ_ _ _ _ _ z=>z
def Inv.pair{zd:AE}{σ:Sg}{s:Shared}{e it:Addr}{h':Heap}{tk:Nat}{its:List Value}{vs:List V}(I:Inv X zd σ H s)(fe:Fw X zd H e)(fi:Fw X zd H it)
  (k:∀b o,b≠e->b≠it->s.heap.get? b=some o->h'.get? b=some o) (he:∃o,h'.get? e=some o) (hi:∃o,h'.get? it=some o) (ht:h'.get? s.heap.objs.size=some {cls:=.type "tuple",data:=.seq its.toArray}) (rv:Vals vs its) (hz:vs.length<=sizeLine):
  Inv X zd σ (upd H s.heap.objs.size (.tup vs)) {s with heap:=h',toks:=tk}:=by
 have hn:H s.heap.objs.size=none:=I.aN.fresh (A9 _);obtain⟨e0,e1,e2,e3,e4,e5⟩:=fe;obtain⟨i0,i1,i2,i3,i4,i5⟩:=fi;have pL:∀b u,H b=some u->b≠e/\b≠it:=λb u q=>⟨λz=>(by rw[z,e0]at q;cases q),λz=>(by rw[z,i0]at q;cases q)⟩;have lt:∀b o,s.heap.get? b=some o->b≠s.heap.objs.size:=λb o q=>C4 (A8 q);refine I.step (g':=s.gens) (d':=s.drawn) (ch:=[e,it]) (λb hb=> ?_) (λb o _ _ hc q _=>k b o (λz=>hc (by simp[z])) (λz=>hc (by simp[z])) q)
  (λb o _ _ hc q _=>⟨o.slots,k b o (λz=>hc (by simp[z])) (λz=>hc (by simp[z])) q⟩) (λb o _ q n=>by rw[Be (lt b o q)];exact n) (λb o hc q=>⟨o,k b o (λz=>hc (by simp[z])) (λz=>hc (by simp[z])) q⟩)
  (λb xs q=>by rw[Be (En q hn)];exact q) (λb o u q=>by rw[Be (En q hn)];exact q) (λb ps q=>⟨#[],by rw[Be (En q hn),q];simp⟩) (λm hm=> ?_) (λb u q=> ?_) I.bare
 ·have cJ:b=e\/b=it:=by simpa using hb
  rcases cJ with rfl|rfl
  ·exact⟨e3,e1,e4,e5⟩
  ·exact⟨i3,i1,i4,i5⟩
 ·obtain⟨o,es,ep,ho,r⟩:=hm;exact⟨o,es,ep,k _ o (Ne.symm e1) (Ne.symm i1) ho,r⟩
 ·by_cases z:b=s.heap.objs.size
  ·subst z;rw[Ce]at q;cases q;exact⟨hz,its,rv,⟨_,ht,rfl,0,rfl⟩⟩
  ·rw[Be z]at q;refine(I.aN b u q).cO (λc v hc r=> ?_) (λc r=>by rw[Be (En r hn)];exact r) (λc xs r=>by rw[Be (En r hn)];exact r) λc o r=>by rw[Be (En r hn)];exact r
   rcases hc with rfl|hc
   ·exact k c v (pL c u q).1 (pL c u q).2 r
   ·exact k c v (pL c _ hc).1 (pL c _ hc).2 r
def Inv.kl{zd:AE}{σ:Sg}{s:Shared}{e it:Addr}{h':Heap}{tk:Nat}(I:Inv X zd σ H s)(fe:Fw X zd H e)(fi:Fw X zd H it)
  (k:∀b o,b≠e->b≠it->s.heap.get? b=some o->h'.get? b=some o):Inv X zd σ H {s with heap:=h',toks:=tk}:=by
 obtain⟨e0,e1,e2,e3,e4,e5⟩:=fe;obtain⟨i0,i1,i2,i3,i4,i5⟩:=fi;have pL:∀b u,H b=some u->b≠e/\b≠it:=λb u q=>⟨λz=>(by rw[z,e0]at q;cases q),λz=>(by rw[z,i0]at q;cases q)⟩;refine I.step (g':=s.gens) (d':=s.drawn) (ch:=[e,it]) (λb hb=> ?_) (λb o _ _ hc q _=>k b o (λz=>hc (by simp[z])) (λz=>hc (by simp[z])) q)
  (λb o _ _ hc q _=>⟨o.slots,k b o (λz=>hc (by simp[z])) (λz=>hc (by simp[z])) q⟩) (λb o _ q n=>n) (λb o hc q=>⟨o,k b o (λz=>hc (by simp[z])) (λz=>hc (by simp[z])) q⟩)
  (λb xs q=>q) (λb o u q=>q) (λb ps q=>⟨#[],by rw[q];simp⟩) (λm hm=> ?_) (λb u q=> ?_) I.bare
 ·have cJ:b=e\/b=it:=by simpa using hb
  rcases cJ with rfl|rfl
  ·exact⟨e3,e1,e4,e5⟩
  ·exact⟨i3,i1,i4,i5⟩
 ·obtain⟨o,es,ep,ho,r⟩:=hm;exact⟨o,es,ep,k _ o (Ne.symm e1) (Ne.symm i1) ho,r⟩
 ·refine(I.aN b u q).cO (λc v hc r=> ?_) (λc r=>r) λc xs r=>r;rcases hc with rfl|hc
  ·exact k c v (pL c u q).1 (pL c u q).2 r
  ·exact k c v (pL c _ hc).1 (pL c _ hc).2 r
def NH(K:Frag)(l:Addr):It:=
 ⟨λi H=>∃xs x,bU K H l xs/\xs[i]? =some x,λi H v H'=>∃p,H p=none/\v=.ref p/\∀xs x,bU K H l xs->xs[i]? =some x->H'=upd H p (.tup [.int (i:Int),x]),λi H=>∃xs,bU K H l xs/\xs.length=i⟩
def NG(z:Str):It:=
 ⟨λi _=>i < z.cps.size,λi H v H'=>∃p c,H p=none/\v=.ref p/\z.cps[i]? =some c/\H'=upd H p (.tup [.int (i:Int),.str ⟨#[c]⟩]),λi _=>i=z.cps.size⟩
def WG{P:Program}{w:World}{elts:List Expr}{x1:Nat}(e it l:Addr)(pU:e≠it):Turn P w K (.Tuple elts x1 pos) (NH K l) [e,it] e (λi h=>(∃old,IsEnum h e it (i:Int) old)/\h.IsListIter it l i) where
 mem:=by simp
 obj:=λi h st b hb=>by
  have cJ:b=e\/b=it:=by simpa using hb
  rcases cJ with rfl|rfl
  ·obtain⟨⟨old,q⟩,_⟩:=st;exact⟨_,q,λv z=>by cases z⟩
  ·obtain⟨_,⟨o,q,c,d⟩⟩:=st;exact⟨o,q,λv z=>by rw[d]at z;cases z⟩
 keep:=λi h h' st k=>by
  obtain⟨⟨old,q⟩,r⟩:=st;exact⟨⟨old,k e (by simp) _ q⟩,r.at λo z=>k it (by simp) o z⟩
 item:=by
  intro X hP hw hK hc i zd s σ H E I hf st hg;subst hP hw hK;obtain⟨xs,x,hq,hx⟩:=hg;obtain⟨its,rv,p,hz⟩:=I.list hq;obtain⟨u,hu,ru⟩:=rv.get hx;obtain⟨⟨old,he⟩,hit⟩:=st;have fe:=hf e (by simp);have fi:=hf it (by simp);have pl:=p.isList;have nle:l≠e:=λz=>by
   subst z;obtain⟨o,ho,fS,_⟩:=pl;rw[show s.heap.get? l=_ from he]at ho;cases ho;exact absurd fS (by simp)
  have OM:l≠it:=λz=>by
   subst z;obtain⟨o,ho,fS,_⟩:=pl;obtain⟨o',dP,pd,_⟩:=hit;rw[ho]at dP;cases dP;rw[fS]at pd;exact absurd pd (by simp)
  have cR:i < its.toArray.size:=by
   have:=(B4.mp hu).1;simpa using this
  refine ZA3 (Draws.list (A:=X.A.in1) (I.ok.hd hc) it l OM its.toArray) he ⟨hit,pl⟩ cR pU (by simp[pU,Ne.symm nle]) λy h' tk hy ho cM cy hsz kk=> ?_;have ey:y=u:=by
   have:its.toArray[i]? =some u:=by simpa using hu
   rw[this]at hy;exact(L6 hy).symm
  subst ey;refine⟨_,rfl,Y5 ho λPD bz sb=> ?_⟩;have bg:∃old,IsEnum PD e it ((i + 1:Nat):Int) old:=⟨_,by
   have e1:((i + 1:Nat):Int)=(i:Int) + 1:=by lia
   rw[e1];exact bz⟩
  refine⟨.ref s.heap.objs.size,upd H s.heap.objs.size (.tup [.int (i:Int),x]), ?_,rfl,⟨_,I.aN.fresh (A9 _),rfl,λys y' OO ey'=> ?_⟩,⟨bg, ?_⟩,λb hb=> ?_⟩
  ·have ne:s.heap.objs.size≠e:=λz=>absurd (A8 he) (by rw[<-z];exact F1 _);refine Inv.pair (its:=[.int (i:Int) tk,y]) I fe fi (λb o h1 h2 q=>(sb.2 b h1).trans (kk b o h1 h2 q)) ⟨_,bz⟩ ?_ ((sb.2 _ ne).trans cy) (.cons ⟨_,rfl⟩ (.cons ru .nil)) (by show 2<=sizeLine;decide);obtain⟨⟨o,q,_⟩,_⟩:=cM;exact⟨o,(sb.2 it (Ne.symm pU)).trans q⟩
  ·have:=I.iC OO hq;subst this;rw[hx]at ey';cases ey';rfl
  ·exact cM.1.at λo z=>(sb.2 it (Ne.symm pU)).trans z
  ·have cJ:b=e\/b=it:=by simpa using hb
   have pW:b < s.heap.objs.size:=by
    rcases cJ with rfl|rfl
    ·exact A8 he
    ·obtain⟨o,q,_⟩:=hit;exact A8 q
   rw[Be (C4 pW)];exact(hf b hb).1
 done:=by
  intro X hP hw hK hc i zd s σ H E I hf st hg;subst hP hw hK;obtain⟨xs,hq,hx⟩:=hg;obtain⟨its,rv,p,hz⟩:=I.list hq;obtain⟨⟨old,he⟩,hit⟩:=st;have hl:=rv.length;have pl:=p.isList;have OM:l≠it:=λz=>by
   subst z;obtain⟨o,ho,fS,_⟩:=pl;obtain⟨o',dP,pd,_⟩:=hit;rw[ho]at dP;cases dP;rw[fS]at pd;exact absurd pd (by simp)
  have en:i=its.toArray.size:=by simp;lia
  refine ZB4 (Draws.list (A:=X.A.in1) (I.ok.hd hc) it l OM its.toArray) he (by rw[<-en];exact⟨hit,pl⟩) λh' eb=>⟨rfl, ?_⟩;exact Inv.kl (tk:=s.toks) I (hf e (by simp)) (hf it (by simp)) λb o h1 h2 q=>eb b o h2 q
 self:=λA i s Q E st h=>by
  obtain⟨⟨old,he⟩,_⟩:=st;exact V1 he h
def JH{prog:Program}{w:World}{A:Around}(hh:A.handled=none)(it:Addr)(x:Str)(t:Tok):
  Draws prog w A it [it] x.cps.size (λi v=>∃c u,x.cps[i]? =some c/\v=.str ⟨#[c]⟩ u) (λi h=>h.IsStrIter it (strIterType x) x t i):=by
 unfold strIterType;cases ha:x.cps.all (· < 128)
 ·exact Draws.strWide hh it x t
 ·exact Draws.strAscii hh it x t
def WE{P:Program}{w:World}{elts:List Expr}{x1:Nat}(e it:Addr)(z:Str)(t:Tok)(pU:e≠it):Turn P w K (.Tuple elts x1 pos) (NG z) [e,it] e (λi h=>(∃old,IsEnum h e it (i:Int) old)/\h.IsStrIter it (strIterType z) z t i) where
 mem:=by simp
 obj:=λi h st b hb=>by
  have cJ:b=e\/b=it:=by simpa using hb
  rcases cJ with rfl|rfl
  ·obtain⟨⟨old,q⟩,_⟩:=st;exact⟨_,q,λv z=>by cases z⟩
  ·obtain⟨_,⟨o,q,c,d⟩⟩:=st;exact⟨o,q,λv z=>by rw[d]at z;cases z⟩
 keep:=λi h h' st k=>by
  obtain⟨⟨old,q⟩,⟨o,r,c⟩⟩:=st;exact⟨⟨old,k e (by simp) _ q⟩,⟨o,k it (by simp) o r,c⟩⟩
 item:=by
  intro X hP hw hK hc i zd s σ H E I hf st hg;subst hP hw hK;obtain⟨⟨old,he⟩,hit⟩:=st;have fe:=hf e (by simp);have fi:=hf it (by simp);refine ZA3 (JH (A:=X.A.in1) (I.ok.hd hc) it z t) he hit hg pU (by simp[pU]) λy h' tk hy ho cM cy hsz kk=> ?_;obtain⟨c,uc,hcx,rfl⟩:=hy;refine⟨_,rfl,Y5 ho λPD bz sb=> ?_⟩;have bg:∃old,IsEnum PD e it ((i + 1:Nat):Int) old:=⟨_,by
   have e1:((i + 1:Nat):Int)=(i:Int) + 1:=by lia
   rw[e1];exact bz⟩
  refine⟨.ref s.heap.objs.size,upd H s.heap.objs.size (.tup [.int (i:Int),.str ⟨#[c]⟩]), ?_,rfl,⟨_,c,I.aN.fresh (A9 _),rfl,hcx,rfl⟩,⟨bg, ?_⟩,λb hb=> ?_⟩
  ·have ne:s.heap.objs.size≠e:=λz=>absurd (A8 he) (by rw[<-z];exact F1 _);refine Inv.pair (its:=[.int (i:Int) tk,.str ⟨#[c]⟩ uc]) I fe fi (λb o h1 h2 q=>(sb.2 b h1).trans (kk b o h1 h2 q)) ⟨_,bz⟩ ?_ ((sb.2 _ ne).trans cy) (.cons ⟨_,rfl⟩ (.cons ⟨_,rfl⟩ .nil)) (by show 2<=sizeLine;decide);obtain⟨o,q,_⟩:=cM;exact⟨o,(sb.2 it (Ne.symm pU)).trans q⟩
  ·obtain⟨o,q,r⟩:=cM;exact⟨o,(sb.2 it (Ne.symm pU)).trans q,r⟩
  ·have cJ:b=e\/b=it:=by simpa using hb
   have pW:b < s.heap.objs.size:=by
    rcases cJ with rfl|rfl
    ·exact A8 he
    ·obtain⟨o,q,_⟩:=hit;exact A8 q
   rw[Be (C4 pW)];exact(hf b hb).1
 done:=by
  intro X hP hw hK hc i zd s σ H E I hf st hg;subst hP hw hK;obtain⟨⟨old,he⟩,hit⟩:=st;have en:i=z.cps.size:=hg;refine ZB4 (JH (A:=X.A.in1) (I.ok.hd hc) it z t) he (by rw[<-en];exact hit) λh' eb=>⟨rfl, ?_⟩;exact Inv.kl (tk:=s.toks) I (hf e (by simp)) (hf it (by simp)) λb o h1 h2 q=>eb b o h2 q
 self:=λA i s Q E st h=>by
  obtain⟨⟨old,he⟩,_⟩:=st;exact V1 he h
def jL(k:Nat):List D->List D
 | []=> []
 |d::ds=> .tup [.int (k:Int),d]::jL (k + 1) ds
theorem oe:∀{ds:List D} {k i:Nat} {d:D},(jL k ds)[i]? =some d->∃d',ds[i]? =some d'/\d=.tup [.int ((k + i:Nat):Int),d']
 | [],_,_,_,h=>by simp[jL]at h
 |x::ds,k,0,d,h=>by simp[jL]at h;exact⟨x,rfl,h.symm⟩
 |x::ds,k,i + 1,d,h=>by
  obtain⟨d',e1,e2⟩:=oe (ds:=ds) (k:=k + 1) (i:=i) (by simpa[jL] using h);exact⟨d',by simpa using e1,by rw[e2,show k + 1 + i=k + (i + 1) by lia]⟩
theorem wY:∀(ds:List D) (k:Nat),(jL k ds).length=ds.length
 | [],_=>rfl
 |_::ds,k=>by simp[jL,wY ds (k + 1)]
def vv:D->R (List D)
 | .lst ds=> .ok (jL 0 ds)
 | .str x=> .ok (jL 0 (jM x))
 |_=> .no
def kX(f:FE):FI:=λ δ=>(f δ).bind λw=>vv w.d
section
variable{X:Cx}{EX:Bi}{a:Expr}{f:FE}{elts:List Expr}{x1:Nat}{tp p pos:Pos}
def iEn(K:Frag)(t:TA):TI:=λ σ H Q=>t σ H λvs H1=>(∃l,vs= [.ref l]/\(∃xs,bU K H1 l xs)/\Q (NH K l) H1)\/(∃z,vs= [.str z]/\Q (NG z) H1)
def UZ{ta:TA}(hg:Gl X "enumerate")(hm:X.mg "enumerate" =none)(ha:PA X [a] ta)(hs:starEach [a] X.env= [(false,eval a X.env)]:=by rfl):PI X (.Tuple elts x1 tp) (.Call (.Name "enumerate" p) [a] [] pos) (iEn X.K ta):=by
 intro zd s σ H Q I h;refine Call_ (lS I hg hm PyProof.Rows.boot_enumerate (K0 (Bg (ha pos zd s σ H _ I h) λus s1 ⟨vs,H1,I1,r1,q1⟩=> ?_) hs rfl));rcases q1 with⟨l,rfl,⟨xs,hq⟩,q⟩|⟨z,rfl,q⟩
 ·obtain⟨u,rfl,ru⟩:=r1.one;cases ru;obtain⟨its,rv,pl,hz⟩:=I1.list hq;refine call_enumerate_list pl.isList λh' he hit hsz kk=>V1 he ?_;refine⟨s1.heap.objs.size + 1,[s1.heap.objs.size + 1,s1.heap.objs.size],_,NH X.K l,H1,rfl,I1.kept (t':=s1.toks) kk,WG _ _ l (Nat.succ_ne_self _),⟨⟨_,he⟩,hit⟩,λb hb=> ?_,q⟩;have cJ:b=s1.heap.objs.size + 1\/b=s1.heap.objs.size:=by simpa using hb
  have pW:s1.heap.objs.size<=b:=by
   rcases cJ with rfl|rfl
   ·exact N5 _
   ·exact A9 _
  exact I1.eO pW (I1.aN.fresh pW)
 ·obtain⟨u,rfl,t,rfl⟩:=r1.one;refine call_enumerate_str λh' he hit hsz kk=>V1 he ?_;refine⟨s1.heap.objs.size + 1,[s1.heap.objs.size + 1,s1.heap.objs.size],_,NG z,H1,rfl,I1.kept (t':=s1.toks) kk,WE _ _ z t (Nat.succ_ne_self _),⟨⟨_,he⟩,hit⟩,λb hb=> ?_,q⟩;have cJ:b=s1.heap.objs.size + 1\/b=s1.heap.objs.size:=by simpa using hb
  have pW:s1.heap.objs.size<=b:=by
   rcases cJ with rfl|rfl
   ·exact N5 _
   ·exact A9 _
  exact I1.eO pW (I1.aN.fresh pW)
def UY{G:Hp}{l:Addr}{vs:List V}{ds:List D}(h:bU K G l vs)(r:aB K G vs ds):jr K G (NH K l) (jL 0 ds):=λG' H g1 g i=>by
 refine⟨λd e=> ?_,λe=> ?_⟩
 ·obtain⟨d',e1,rfl⟩:=oe e;obtain⟨v,e2,hv⟩:=r.get e1;refine⟨⟨vs,v,(g1.trans g).seq h,e2⟩,λx H' y=> ?_⟩;obtain⟨p,hp,rfl,y⟩:=y;have:=y vs v ((g1.trans g).seq h) e2;subst this;refine⟨_,Step.new g hp _,.tup (cU.of Ce) (.cons (by rw[O7];exact .int _) (.cons (hv.mono (g1.trans (kE (g.free hp) _))) .nil))⟩
 ·rw[wY]at e;exact⟨vs,(g1.trans g).seq h,by rw[r.length];exact e⟩
def UX{G:Hp}(z:Str):jr K G (NG z) (jL 0 (jM z)):=λG' H g1 g i=>by
 refine⟨λd e=> ?_,λe=> ?_⟩
 ·obtain⟨d',e1,rfl⟩:=oe e;unfold jM at e1;rw[B3]at e1;cases q:z.cps.toList[i]? with
  |none=>rw[q]at e1;cases e1
  |some c=>
   rw[q]at e1;cases e1;have hi:i < z.cps.size:=by
    have:=(B4.mp q).1;simpa using this
   refine⟨hi,λx H' y=> ?_⟩;obtain⟨p,c',hp,rfl,hc,rfl⟩:=y;have:z.cps.toList[i]? =some c':=by simpa using hc
   rw[q]at this;cases this;refine⟨_,Step.new g hp _,.tup (cU.of Ce) (.cons (by rw[O7];exact .int _) (.cons (.str _) .nil))⟩
 ·rw[wY]at e;unfold jM at e;rw[A3]at e;show i=z.cps.size;simp at e;lia
def Hw(hm:X.mg "enumerate" =none)(he:ED X EX a f)(hg:Gl X "enumerate" :=by rfl)(hs:starEach [a] X.env= [(false,eval a X.env)]:=by rfl)(ma:starEach [a] X.env=(false,eval a X.env)::starEach [] X.env:=by rfl):
  ID X EX (.Tuple elts x1 tp) (.Call (.Name "enumerate" p) [a] [] pos) (kX f):=
 PI.imp (UZ hg hm (lV he mn ma) hs) λ σ H Q ⟨G,δ,g0,s0,o⟩=>by
  refine⟨G,δ,g0,s0, ?_⟩;unfold kX at o;cases e1:f δ with
  |ok w=>
   rw[e1]at o;simp only[R.aI]at o;refine WP.intro λv G' H' st r=> ?_;revert r o;cases w.d with
   |lst ds=>
    intro o r;cases r with
    |lst h r=>exact .inl ⟨_,rfl,⟨_,st.gh.seq h⟩,o _ G' H' st (UY h r)⟩
   |str z=>
    intro o r;cases r;exact .inr ⟨z,rfl,o _ G' H' st (UX z)⟩
   |_=>intro o _;exact False.elim o
  |ex x=>rw[e1]at o;exact o
  |no=>rw[e1]at o;exact o
end
def Mu(lo c:Int)(n:Nat):It:=⟨λi _=>i < n,λi H x H'=>H'=H/\x=.int (lo + (i:Int) * c),λi _=>n<=i⟩
def KW{P:Program}{w:World}{tg:Expr}(it:Addr)(lo c:Int)(n:Nat):Turn P w K tg (Mu lo c n) [it] it (λi h=>IsRangeIter h it (lo + (i:Nat) * c) ((n:Int) - (i:Nat)) c) where
 mem:=by simp
 obj:=λi h st b hb=>by
  have e:b=it:=by simpa using hb
  subst e;exact⟨_,st,λv z=>by
   have z':Data.fields _=Data.cell v:=z;cases z'⟩
 keep:=λi h h' st k=>k it (by simp) _ st
 item:=by
  intro X hP hw hK hc i zd s σ H E I hf st hg;subst hP hw hK;obtain⟨f0,f1,f2,f3,f4,f5⟩:=hf it (by simp);have W:=Walks.range (prog:=X.prog) (w:=X.w) (I.ok.hd hc) it lo c n;refine W.item i s _ _ hg st λv h' tk hv cX kk=> ?_;obtain⟨t,rfl⟩:=hv;have I1:Inv X zd σ H {s with heap:=h',toks:=tk}:=I.turned (λb o hb e=>kk b o (by simpa using hb) e) f0 f1 f3 f4 f5;exact⟨_,rfl,nq (s:={s with heap:=h',toks:=tk}) (n:= "range_iterator") cX rfl rfl ⋯ ⟨.int (lo + (i:Int) * c),H,I1,⟨t,rfl⟩,⟨rfl,rfl⟩,cX,λb hb=>(hf b hb).1⟩⟩
 done:=by
  intro X hP hw hK hc i zd s σ H E I hf st hg;subst hP hw hK;obtain⟨f0,f1,f2,f3,f4,f5⟩:=hf it (by simp);exact ZA9 (I.ok.hd hc) st (by have:n<=i:=hg;lia) λh' eb=>⟨rfl,I.turned (t':=s.toks) (λb o hb e=>eb b o hb e) f0 f1 f3 f4 f5⟩
 self:=λ_ _ _ _ _ st h=>ZB0 st h
def C3(i j c:Int):Prop:=0<=i/\i.natAbs < 1073741824/\j.natAbs < 1073741824/\0 < c/\c.natAbs < 1073741824
instance (i j c:Int):Decidable (C3 i j c):=by unfold C3;exact inferInstance
section
variable{X:Cx}{EX:Bi}{tg a b c:Expr}{fa:FA}{ta:TA}{p pos:Pos}
noncomputable def eV(lo c:Int)(n:Nat):List D:=(List.range n).map λ(k:Nat)=>D.int (lo + (k:Int) * c)
def Km{lo c:Int}{n i:Nat}{d:D}(h:(eV lo c n)[i]? =some d):i < n/\d=.int (lo + (i:Int) * c):=by
 unfold eV at h;rw[B3]at h
 by_cases hi:i < n
 ·rw[E9 hi]at h;cases h;exact⟨hi,rfl⟩
 ·rw[F2 (by rw[K4];lia)]at h;cases h
def Kl(lo c:Int)(n:Nat):(eV lo c n).length=n:=by unfold eV;rw[A3,K4]
end
section
variable{X:Cx}{EX:Bi}{a:Expr}{f:FE}{pos:Pos}
def uV:D->R W
 | .int i=> .ok (.sh (.int (-i)))
 |_=> .no
def mV(f:FE):FE:=λ δ=>(f δ).bind λw=>uV w.d
def EG(ha:ED X EX a f):ED X EX (.UnaryOp .USub a pos) (mV f):=
 PE.imp (RO Tg ha) λ σ H Q ⟨G,δ,g0,s0,o⟩=>tD.seq g0 s0 o λw v G1 H1 _ cG r1 o1=>by
  revert r1 o1;cases w.d with
  |int i=>intro r1 o1;cases r1;exact⟨i,rfl,Dl o1 cG.gh (.int _)⟩
  |_=>intro _ o1;exact False.elim o1
def lx:List D->Option (List Bool)
 | []=>some []
 | .bl b::ds=>(lx ds).map (b:: ·)
 |_=>none
def nM:List D->R W
 | [.lst ds]=>match lx ds with
  |some bs=> .ok (.sh (.bl (bs.all id)))
  |none=> .no
 |_=> .no
theorem IQ{G:Hp}:∀{vs:List V} {ds:List D} {us:List Value} {bs:List Bool},aB K G vs ds->Vals vs us->lx ds=some bs->us=bs.map Value.bool
 |_,_,_,_,.nil,r,e=>by cases r;cases e;rfl
 |_,_,_,_,.cons h t,r,e=>by
  cases r with
  |cons r1 r2=>
   cases h with
   |bl x=>
    cases r1;simp only[lx]at e;obtain⟨zs,q,rfl⟩:=N3.mp e;rw[B1,IQ t r2 q]
   |_=>cases e
def Ye(bs:List Bool):(List.range bs.length).all (λi=>bs.getD i true)=bs.all id:=by
 rw[P8,F8,F8];constructor
 ·intro h b hb;obtain⟨i,hi,e⟩:=List.getElem_of_mem hb;have:=h i (K7.mpr hi);simp[hi]at this;rw[<-e];exact this
 ·intro h i hi;have hi:=K7.mp hi;simp[hi];exact h _ (R1 hi)
def Yd(hc:X.calm=true):Ff X (.builtin "all") nM:=by
 intro zd s σ H vs us Q I rv q;obtain⟨EX,G,ds,g,r,o⟩:=q;cases r with
 |nil=>exact False.elim o
 |cons h t=>
  cases t with
  |cons _ _=>cases h <;> exact False.elim o
  |nil=>
   cases h with
   |lst h r=>
    rename_i l _ _;simp only[nM]at o
    split at o
    ·rename_i bs e;obtain⟨u,rfl,ru⟩:=rv.one;cases ru;obtain⟨its,fO,pl,hz⟩:=I.list (g.seq h);have eb:=IQ r fO e;subst eb;have nl:l≠s.heap.objs.size:=λz=>by
      obtain⟨o',ho,_⟩:=pl.isList;exact absurd (A8 ho) (by rw[<-z];exact F1 _)
     refine call_all_walk (U9 pl.isList ⟨s.heap.objs.size,_,_,_,_,_,λi=>bs.getD i true,rfl,Walks.list (A:=X.A.in1) (I.ok.hd hc) s.heap.objs.size l nl (bs.map Value.bool).toArray,⟨⟨_,C5 _ rfl,rfl,rfl⟩, ?_⟩,λi v s' Q' E' hP hQ=> ?_,λh' tk kk=> ?_⟩)
     ·exact pl.isList.at λo z=>A5 _ z
     ·have jZ:(bs.map Value.bool)[i]? =some v:=by simpa using hP
      rw[B3]at jZ;cases q:bs[i]? with
      |none=>rw[q]at jZ;cases jZ
      |some b=>
       rw[q]at jZ;cases jZ;have:bs.getD i true=b:=by simp[List.getD,q]
       dsimp only at hQ;rw[this]at hQ;exact O4 hQ
     ·have en:(bs.map Value.bool).toArray.size=bs.length:=by simp
      rw[en,Ye];refine⟨.bl _,H,I.kept (t':=tk) λb o' z=>kk b o' (by
       have hb:b≠s.heap.objs.size:=C4 (A8 z);simpa using hb) (A5 _ z),rfl,Dl o g (.bl _)⟩
    ·exact o.elim
   |_=>exact False.elim o
def lu:D->List D->R W
 | .str x,[.str y]=>match Builtin.Str.occurrences x y 0 x.length 1 with
  |i::_=> .ok (.sh (.int (i:Nat)))
  | []=> .no
 |_,_=> .no
def Yc:QC X "str.index" lu:=by
 intro zd s σ H x vs v us Q I rx rv h;obtain⟨EX,G,d,ds,g,r,rl,o⟩:=h;refine Hy r rl (λx y e1 e2 e3 e4=> ?_) λn=> ?_
 ·subst e1 e2 e3 e4;obtain⟨t,rfl⟩:=rx;obtain⟨u,rfl,t',rfl⟩:=rv.one;simp only[lu]at o
  split at o
  ·rename_i i Cz e;exact SC.index e ⟨.int _,H,I.tok _,⟨_,rfl⟩,Dl o g (.int _)⟩
  ·exact o.elim
 ·have e:lu d ds=.no:=by
   unfold lu
   split
   ·rename_i x y;exact absurd ⟨rfl,rfl⟩ (n x y)
   ·rfl
  rw[e]at o;exact o.elim
end
section
variable{prog:Program}{w:World}{A:Around}{E:AA}{s:Shared}
def aaV{env:Env}{elts:List Expr}{x1}{t:Addr}{items:Array Value}{Q:Unit->Shared->Prop}(hh:A.handled=none)(ht:s.heap.IsList t items)
  (hn:(assignEach elts env).length=items.size) (dq:(assignEach elts env).findIdx? (·.1)=none)
  (h:∀h',Heap.ExtBut s.heap.objs.size s.heap h'->wpAny (model prog w) A (assignInOrder ((assignEach elts env).map (·.2)) items.toList) Q E {s with heap:=h'}):
  wpAny (model prog w) A (assign (.Tuple elts x1 pos) env (.ref t)) Q E s:=by
 rw[assign_Tuple,unpack,hn,dq];exact A4 (O8 (A4 (N9 (kun_itemsOf hh ht h))))
end
section
variable{X:Cx}{EX:Bi}{pos:Pos}
def Rn(K:Frag)(n:Nat)(t:qj):TG:=λv σ H Q=>∃a xs,v=.ref a/\(cU K H a xs\/bU K H a xs)/\xs.length=n/\t xs σ H Q
def SG{es:List Expr}{k:Nat}{t:qj}{n:Nat}(hc:X.calm=true)(h:CD X es t)
  (hn:(assignEach es X.env).length=n:=by rfl) (cM:(assignEach es X.env).findIdx? (·.1)=none:=by rfl):PG X (.Tuple es k pos) (Rn X.K n t):=by
 intro zd s σ H v u Q I r hw;obtain⟨a,xs,e1,hq,hl,hw⟩:=hw;rcases hq with hq|hq
 ·exact EY hc h hn cM zd s σ H v u Q I r ⟨a,xs,e1,hq,hl,hw⟩
 ·subst e1;cases r;obtain⟨its,rv,ht,hz⟩:=I.list hq;refine aaV (I.ok.hd hc) ht.isList (by simp[hn,<-hl,rv.length]) cM λh' hx=> ?_;have I1:Inv X zd σ H {s with heap:=h'}:=I.kept (t':=s.toks) λb o e=>hx b o (C4 (A8 e)) e;exact h zd _ σ H xs _ Q I1 (by simpa using rv) hw
def aR.skip{G:Hp}{σ:Sg}{δ:DE}{v:V}{i:Nat}(h:aR K G σ δ)(e:δ[i]? =some none):aR K G (σ.set i (some v)) δ:=by
 refine⟨by rw[F4];exact h.len,λj d' e'=> ?_⟩;obtain⟨v',e1,r'⟩:=h.get j d' e';refine⟨v', ?_,r'⟩;rw[C6]
 ·exact e1
 ·rintro rfl
  rw[e]at e';cases e'
end
section
variable{X:Cx}{EX:Bi}
noncomputable def kP:D->Bool
 | .aJ=>true
 |_=>false
def Di(neg:Bool):D->D->R W
 |d,.aJ=> .ok (.sh (.bl (if neg then !kP d else kP d)))
 |_,_=> .no
def EF{G:Hp}{v:V}{d:D}(r:aU K G v d):decide (v=.aJ)=kP d:=by
 cases r <;> rfl
def rQ:Ey X (compareOp .Is) (Di false):=by
 intro zd s σ H x y v u Q I rx ry q;obtain⟨EX,G,a,b,g,ra,rb,o⟩:=q;cases rb with
 |aJ=>exact Tf zd s σ H _ _ _ _ Q I rx ry ⟨rfl,by rw[EF ra];exact Dl o g (.bl _)⟩
 |_=>exact False.elim o
def WD:Ey X (compareOp .IsNot) (Di true):=by
 intro zd s σ H x y v u Q I rx ry q;obtain⟨EX,G,a,b,g,ra,rb,o⟩:=q;cases rb with
 |aJ=>exact Vq zd s σ H _ _ _ _ Q I rx ry ⟨rfl,by rw[EF ra];exact Dl o g (.bl _)⟩
 |_=>exact False.elim o
def qB(i:Nat)(fi fe:FE):FS:=λ Δ=>match Δ[i]? with
 |some (.ow (.lst ds))=>(match fe (Az Δ) with
  | .ok w=>if Bf w.d=true then(match fi (Az Δ) with
   | .ok z=>(match z.d with
    | .int k=>(match kF ds.length k with
     |some j=> .nx (Δ.set i (.ow (.lst (ds.set j w.d))))
     |none=> .no)
    |_=> .no)
   |_=> .no) else .no
  |_=> .no)
 |_=> .no
def UW{i:Nat}{x:Str}{e ie:Expr}{fe fi:FE}{p1 zi pos:Pos}(he:ED X EX e fe)(hi:ED X EX ie fi)(hN:X.N[i]? =some x:=by rfl)(hv:fV X.env.scope x:=by trivial)(hd:AG x:=by decide)
  (bT:(x ==("__classdict__" :Str))=false:=by decide)
  (ha:∀v,assign (.Subscript (.Name x p1) ie zi) X.env v=(do
   let ov<-holding [v] (eval (.Name x p1) X.env)
   let iv<-holding [v,ov] (eval ie X.env)
   standAt zi
   holding [v,ov,iv] (setItem ov iv v)
   release [v,ov,iv] []):=by intro _;rfl)
  (hs:swapsWithSole [.Subscript (.Name x p1) ie zi] e pos.line X.env=pure false:=by rfl) (hw:swappedStores [.Subscript (.Name x p1) ie zi] e X.env=pure none:=by rfl)
  (h1:(assignEach [.Subscript (.Name x p1) ie zi] X.env).map (·.2)= [assign (.Subscript (.Name x p1) ie zi) X.env]:=by rfl):
  SD X EX (.Assign [.Subscript (.Name x p1) ie zi] e pos) (qB i fi fe):=
 PS.imp (EW he (Ts (iJ hN hv hd bT) hi Xc ha) hs hw h1) λD σ H ⟨H0,G0,G,Δ,O,E,q⟩=>by
  unfold qB at q
  split at q
  ·rename_i ds e1;obtain⟨v0,s1,t⟩:=E.ow i _ _ e1 rfl;obtain⟨a,vs,rfl,m,hH,rl⟩:=t.dB
   ·skip
    refine⟨Dh G H O,Az Δ,E.aH,E.dF, ?_⟩;cases e2:fe (Az Δ) with
    |ex x=>rw[e2]at q;exact q.elim
    |no=>rw[e2]at q;exact q.elim
    |ok w=>
     simp only[e2]at q
     split at q
     ·rename_i fl;refine WP.intro λv G' H' st r=> ?_;have E1:=E.keep st.hh;refine⟨.ref a,s1,Dh G H' O,Az Δ,E1.aH,E1.dF, ?_⟩;cases e3:fi (Az Δ) with
      |ex x=>simp only[e3]at q;exact q.elim
      |no=>simp only[e3]at q;exact q.elim
      |ok z=>
       simp only[e3]at q;refine WP.intro λv2 G2 H2 bC r2=> ?_;revert q r2;cases z.d with
       |int k=>
        intro q r2;cases r2;cases e4:kF ds.length k with
        |none=>simp only[e4]at q;exact q.elim
        |some j=>
         simp only[e4]at q;have Pr:H2 a=some (.lst vs):=bC.hh _ _ (st.hh _ _ hH);refine⟨a,vs,k,j,rfl,rfl,Pr,by rw[rl.length];exact e4, ?_⟩;exact q σ G _ _ ((E1.keep bC.hh).jH s1 m (aB.set (r.uU fl) j rl)) (aA.refl _)
       |_=>intro q _;exact False.elim q
     ·exact q.elim
  ·exact q.elim
end
section
variable{X:Cx}{EX:Bi}{tg a b:Expr}{f g:FE}{fa:FA}{p pos:Pos}
theorem aB.rep{G:Hp}{vs:List V}{ds:List D}(r:aB K G vs ds):∀n:Nat,aB K G (List.replicate n vs).flatten (List.replicate n ds).flatten
 |0=> .nil
 |n + 1=>by rw[M6,M6,Q1,Q1];exact r.append (aB.rep r n)
def qm(ds:List D):D->R W
 | .int k=>if k.natAbs < 4611686018427387904/\ds.length * k.toNat<=16777216 then .ok (.ow (.lst (List.replicate k.toNat ds).flatten)) else .no
 |_=> .no
def mU(fa:FA)(f:FE):FE:=λ δ=>(fa δ).bind λds=>if ds.length<=16777216 then(f δ).bind λw=>qm ds w.d else .no
def SA{es:List Expr}{ir:Pos}(ha:AD X EX es fa)(hb:ED X EX b f):ED X EX (.BinOp (.List es ir) .Mult b pos) (mU fa f):=
 PE.imp (DO SV (vB ha) hb) λ σ H Q ⟨G,δ,g0,s0,o⟩=>dY.seq g0 s0 o λds vs G' H' _ st r o'=>by
  split at o'
  ·rename_i hz;refine⟨by rw[r.length,F0];exact hz,λq hq=> ?_⟩;have so:=Step.own st.gh hq (.lst vs);refine tD.seq so.gh (s0.mono st.gg) (Out.mono so o') λw v G2 H2 _ bC r2 o2=> ?_;revert r2 o2;cases w.d with
   |int k=>
    intro r2 o2;cases r2;simp only[qm]at o2
    split at o2
    ·rename_i hk;exact⟨q,k,vs,rfl,rfl,bC.hh _ _ Ce,by have:=hk.1;lia,by have:=hk.1;lia,by rw[r.length,F0];exact hk.2,rR o2 bC.gh ((r.mono bC.gg).rep k.toNat)⟩
    ·exact o2.elim
   |_=>intro _ o2;exact False.elim o2
  ·exact o'.elim
def jK:List D->Option (List Int)
 | []=>some []
 | .int i::ds=>(jK ds).map (i:: ·)
 |_=>none
theorem qX{G:Hp}:∀{vs:List V} {ds:List D} {us:List Value} {is:List Int},aB K G vs ds->Vals vs us->jK ds=some is->us.length=is.length/\∀(j:Nat) (v:Value),us[j]? =some v->∃t,v=.int (is.getD j 0) t
 |_,_,_,_,.nil,r,e=>by cases r;cases e;exact⟨rfl,λj v h=>by simp at h⟩
 |_,_,_,_,.cons h t,r,e=>by
  cases r with
  |cons r1 r2=>
   cases h with
   |int x=>
    obtain⟨tk,rfl⟩:=r1;simp only[jK]at e;obtain⟨zs,q,rfl⟩:=N3.mp e;obtain⟨h1,h2⟩:=qX t r2 q;refine⟨by simp[h1],λj v hj=> ?_⟩;cases j with
    |zero=>simp at hj;subst hj;exact⟨tk,rfl⟩
    |succ j=>
     obtain⟨t',e'⟩:=h2 j v (by simpa using hj);exact⟨t',by rw[e'];simp⟩
   |_=>cases e
def Yb{G:Hp}(lo:Int):∀n:Nat,aB K G ((List.range n).map λ(k:Nat)=>V.int (lo + (k:Int))) (Ca lo n):=by
 intro n;unfold Ca;generalize List.range n=l
 induction l with
 |nil=>exact .nil
 |cons a l ih=>exact .cons (.int _) ih
def RB{n:Nat}{lo:Int}{zn:Array Value}(h:PySem.ItemsOf (λi v=>∃t,v=.int (lo + i * 1) t) zn n):Vals ((List.range n).map λ(k:Nat)=>V.int (lo + (k:Int))) zn.toList:=by
 obtain⟨h1,h2⟩:=h;have all:∀(l:List Value) (k:Nat),(∀(j:Nat) v,l[j]? =some v->∃t,v=.int (lo + ((k + j:Nat):Int)) t)->Vals ((List.range' k l.length).map λ(k:Nat)=>V.int (lo + (k:Int))) l:=by
  intro l
  induction l with
  |nil=>intro k _;exact .nil
  |cons a l ih=>
   intro k h;rw[B5,List.range'_succ,B1];refine .cons ?_ (ih (k + 1) λj v hj=> ?_)
   ·obtain⟨t,e⟩:=h 0 a rfl;exact⟨t,by rw[e];rfl⟩
   ·obtain⟨t,e⟩:=h (j + 1) v (by simpa using hj);exact⟨t,by rw[e,show k + (j + 1)=k + 1 + j by lia]⟩
 have:=all zn.toList 0 λj v hj=>by
  obtain⟨t,e⟩:=h2 j v (by simpa using hj);exact⟨t,by rw[e];simp⟩
 rw[show zn.toList.length=n by simpa using h1]at this;rw[List.range_eq_range'];exact this
def ZQ{zd:AE}{s:Shared}{σ:Sg}{Q:VK}{lo hi:Int}{t u v:Tok}{tk:Nat}(hc:X.calm=true)(I:Inv X zd σ H s)(h1: -(2 ^ 62)<=lo)(h2:lo < 2 ^ 62)(h3: -(2 ^ 62)<=hi)(h4:hi < 2 ^ 62)(hz:(hi - lo).toNat<=16777216)
  (q:∀p,H p=none->Q (.ref p) (upd H p (.lst ((List.range (hi - lo).toNat).map λ(k:Nat)=>V.int (lo + (k:Int)))))):
  wpAny (model X.prog X.w) X.A (call (.type "list") [.ref s.heap.objs.size]) (EP X zd σ Q) X.xe {s with heap:=s.heap.push {cls:=.type "range",data:=.fields #[.int lo t,.int hi u,.int 1 v]},toks:=tk}:=by
 have I1:Inv X zd σ H {s with heap:=s.heap.push {cls:=.type "range",data:=.fields #[.int lo t,.int hi u,.int 1 v]},toks:=tk}:=I.kept λb o e=>A5 _ e;have en:Builtin.Range.rangeSize lo hi 1=(((hi - lo).toNat:Nat):Int):=by rw[rangeSize_one];split <;> lia
 refine PySem.call_list_range (I1.ok.hd hc) (IsRange.new ..) (small_one h1 h2 h3 h4) en hz λh' tk' zn c kk mf it=> ?_;have rv:=RB it;have fr:=I1.aN.fresh (A9 _);refine⟨.ref _,upd H _ (.lst _),I1.laid (t':=tk') kk (A9 _) ⟨?_,zn.toList,c,rv,by simpa using mf⟩,rfl,q _ fr⟩;rw[rv.length,F0];have:=it.1;simp;lia
def gE(k:List D->R (List D))(fa:FA):FE:=λ δ=>(fa δ).bind λas=>(k as).bind λds=>if ds.length<=16777216 then .ok (.ow (.lst ds)) else .no
def xP{p' pos':Pos}(hc:X.calm=true)(zZ:X.mg "list" =none)(hm:X.mg "range" =none)(ha:AD X EX [a] fa)(yA:Gl X "list" :=by rfl)(hg:Gl X "range" :=by rfl)
  (hs:starEach [a] X.env= [(false,eval a X.env)]:=by rfl)
  (dZ:starEach [.Call (.Name "range" p') [a] [] pos'] X.env=(false,eval (.Call (.Name "range" p') [a] [] pos') X.env)::starEach [] X.env:=by rfl):
  ED X EX (.Call (.Name "list" p) [.Call (.Name "range" p') [a] [] pos'] [] pos) (gE Cn fa):=by
 intro zd s σ H Q I q;obtain⟨G,δ,g0,s0,o⟩:=q;refine Call_ (lS I yA zZ M3 (K0 ?_ dZ rfl));rw[dZ];show wpAny _ _ (spliced ((false,eval (.Call (.Name "range" p') [a] [] pos') X.env)::backTo pos (starEach [] X.env))) _ _ s;refine M8 ?_;refine Call_ (lS I hg hm boot_range (K0 (Bg (ha pos' zd s σ H _ I (dY.seq g0 s0 o (P:=λvs H1=>∃j G1,aA G1 H1/\vs= [.int j]/\j.natAbs < 4611686018427387904/\j.toNat<=16777216/\Out X.K (EX σ) G1 H1 (.ok (.ow (.lst (Ca 0 j.toNat)))) Q) λds vs G' H' _ st r o'=> ?_)) λus s1 ⟨vs,H1,I1,r1,q1⟩=> ?_) hs rfl))
 ·cases r with
  |nil=>exact False.elim o'
  |cons h t=>
   cases t with
   |cons _ _=>cases h <;> exact False.elim o'
   |nil=>
    cases h with
    |int j=>
     simp only[Cn]at o'
     split at o'
     ·rename_i hj;simp only[R.aI,oS]at o'
      split at o'
      ·rename_i hl;exact⟨j,G',st.gh,rfl,hj,hl,o'⟩
      ·exact o'.elim
     ·exact o'.elim
    |_=>exact False.elim o'
 ·obtain⟨j,G1,sg,rfl,hj,hl,o'⟩:=q1;obtain⟨u,rfl,t,rfl⟩:=r1.one;refine Ql ?_;refine Q0 ?_;have Pd:(j - 0).toNat<=16777216:=by simpa using hl
  refine ZQ hc I1 () () () () Pd ?_;rw[Int.sub_zero];exact rR o' sg (Yb 0 _)
def gP(i j:Nat):FG:=λd Δ=>match d with
 | .tup [a,b]=> .ok ((Δ.set i (.sh a)).set j (.sh b))
 | .lst [a,b]=> .ok ((Δ.set i (.sh a)).set j (.sh b))
 |_=> .no
def UU{i j k:Nat}{x y:Str}{p1 p2:Pos}(hc:X.calm=true)(hN:X.N.Nodup)(hi:X.N[i]? =some x:=by rfl)(hj:X.N[j]? =some y:=by rfl)(hx:Loc X.env.scope x:=by trivial)(hy:Loc X.env.scope y:=by trivial)
  (hf:X.fn x=true\/X.env.scope.names.lookup x=some .local:=by trivial) (Pm:X.fn y=true\/X.env.scope.names.lookup y=some .local:=by trivial)
  (hn:(assignEach [.Name x p1,.Name y p2] X.env).length=2:=by rfl) (cM:(assignEach [.Name x p1,.Name y p2] X.env).findIdx? (·.1)=none:=by rfl)
  (hs:(assignEach [.Name x p1,.Name y p2] X.env).map (·.2)=assign (.Name x p1) X.env::(assignEach [.Name y p2] X.env).map (·.2):=by rfl) (dZ:(assignEach [.Name y p2] X.env).map (·.2)=assign (.Name y p2) X.env::(assignEach [] X.env).map (·.2):=by rfl):
  GD X EX (.Tuple [.Name x p1,.Name y p2] k pos) (gP i j):=
 PG.imp (SG hc (rB (lH hN hi hx hf) (rB (lH hN hj hy Pm) HS dZ) hs) hn cM) λv σ H Q ⟨H0,G0,G,Δ,O,d,E,r,q⟩=>by
  cases r with
  |tup h r=>
   cases r with
   |nil=>exact False.elim q
   |cons r1 r=>
    cases r with
    |nil=>exact False.elim q
    |cons r2 r=>
     cases r with
     |nil=>exact⟨_,_,rfl,.inl (aA.tupS E.st.gh h),rfl,_,_,rfl,_,_,rfl,rfl,q _ G H O ((E.put r1).put r2) (aA.refl _)⟩
     |cons _ _=>exact False.elim q
  |lst h r=>
   cases r with
   |nil=>exact False.elim q
   |cons r1 r=>
    cases r with
    |nil=>exact False.elim q
    |cons r2 r=>
     cases r with
     |nil=>exact⟨_,_,rfl,.inr (E.st.gh.seq h),rfl,_,_,rfl,_,_,rfl,rfl,q _ G H O ((E.put r1).put r2) (aA.refl _)⟩
     |cons _ _=>exact False.elim q
  |_=>exact False.elim q
def kM(fg:FG)(js:List Nat)(f:FE):FS:=λ Δ=>match f (Bn (aC js Δ)) with
 | .ok w=>(match fg w.d (aC js Δ) with
  | .ok Δ'=> .nx Δ'
  |_=> .no)
 | .ex x=> .ex x (aC js Δ)
 | .no=> .no
def EE{fg:FG}(js:List Nat){e tg:Expr}(he:ED X EX e f)(hg:GD X EX tg fg)(hs:swapsWithSole [tg] e pos.line X.env=pure false:=by rfl)(hw:swappedStores [tg] e X.env=pure none:=by rfl)
  (h1:(assignEach [tg] X.env).map (·.2)= [assign tg X.env]:=by rfl):SD X EX (.Assign [tg] e pos) (kM fg js f):=
 PS.imp (EW he hg hs hw h1) λD σ H ⟨H0,G0,G,Δ,O,E,q⟩=>by
  obtain⟨G1,O1,sg,E1⟩:=E.aC js;unfold kM at q;refine⟨G1,Bn (aC js Δ),E1.st.gh,E1.iL, ?_⟩;cases e1:f (Bn (aC js Δ)) with
  |ok w=>
   simp only[e1]at q;refine WP.intro λv G' H' st r=>⟨H0,G0,G',aC js Δ,O1,w.d,E1.grow st,r, ?_⟩;cases e2:fg w.d (aC js Δ) with
   |ok Δ'=>simp only[e2]at q;exact λ σ' G2 H2 O2 E2 s2=>q σ' G2 H2 O2 E2 (sg.trans (st.gg.trans s2))
   |ex x=>simp only[e2]at q;exact q.elim
   |no=>simp only[e2]at q;exact q.elim
  |ex x=>simp only[e1]at q;exact q σ G1 H O1 E1 sg
  |no=>simp only[e1]at q;exact q.elim
end
@[elab_as_elim] theorem qI{P:List Value->Prop}{us:List Value}{n:Nat}(h:us.length=n)(k:∀y:Nat->Value,P ((List.range n).map y)):P us:=by
 have e:us=(List.range n).map λi=>us.getD i .none:=by
  apply Q2;intro i;rw[B3]
  by_cases hi:i < n
  ·rw[E9 hi,L7,E4,B6 ()];rfl
  ·rw[F2 (),F2 (by rw[K4];lia)];rfl
 rw[e];exact k _
section
variable{K:Frag}{x qual:Str}{st:Stmt}{f:Addr}{fd:FuncData}{ps:List Str}
def bI.yf(F:bI K x qual st f fd)(hl:ps.length=1:=by rfl)(h:∀(kV doc pm:Value) (an:Option Addr) (zp ct a:Value),bindArgs (fnOf x qual (iV st) (Gk st) (Cr st) .none kV doc pm an zp ct) ⟨[a],[]⟩=pure (ps.zip [a]):=by intros;rfl):Binds K fd ps []:=
 F.binds λkV doc pm an zp ct us hu=>qI (hu.trans hl) λy=>h kV doc pm an zp ct (y 0)
def bI.ye(F:bI K x qual st f fd)(hl:ps.length=2:=by rfl)(h:∀(kV doc pm:Value) (an:Option Addr) (zp ct a b:Value),bindArgs (fnOf x qual (iV st) (Gk st) (Cr st) .none kV doc pm an zp ct) ⟨[a,b],[]⟩=pure (ps.zip [a,b]):=by intros;rfl):Binds K fd ps []:=
 F.binds λkV doc pm an zp ct us hu=>qI (hu.trans hl) λy=>h kV doc pm an zp ct (y 0) (y 1)
def bI.yd(F:bI K x qual st f fd)(hl:ps.length=3:=by rfl)(h:∀(kV doc pm:Value) (an:Option Addr) (zp ct a b c:Value),bindArgs (fnOf x qual (iV st) (Gk st) (Cr st) .none kV doc pm an zp ct) ⟨[a,b,c],[]⟩=pure (ps.zip [a,b,c]):=by intros;rfl):Binds K fd ps []:=
 F.binds λkV doc pm an zp ct us hu=>qI (hu.trans hl) λy=>h kV doc pm an zp ct (y 0) (y 1) (y 2)
def bI.yc(F:bI K x qual st f fd)(hl:ps.length=4:=by rfl)(h:∀(kV doc pm:Value) (an:Option Addr) (zp ct a b c d:Value),bindArgs (fnOf x qual (iV st) (Gk st) (Cr st) .none kV doc pm an zp ct) ⟨[a,b,c,d],[]⟩=pure (ps.zip [a,b,c,d]):=by intros;rfl):Binds K fd ps []:=
 F.binds λkV doc pm an zp ct us hu=>qI (hu.trans hl) λy=>h kV doc pm an zp ct (y 0) (y 1) (y 2) (y 3)
end
structure abm(z TI TO i1 i2:Addr):Prop where
 TIz:TI≠z
 TOz:TO≠z
 i1z:i1≠z
 i2z:i2≠z
 TITO:TI≠TO
 TIi1:TI≠i1
 TIi2:TI≠i2
 TOi1:TO≠i1
 TOi2:TO≠i2
 i12:i1≠i2
section
variable{X:Cx}{EX:Bi}{a b:Expr}{fa:FA}{elts:List Expr}{x1:Nat}{tp p pos:Pos}
end
def met(is:List Int):List Int:=PyProof.Rows.firstMet (λi=>is.getD i 0) is.length
def qW:D->R W
 | .lst ds=>match jK ds with
  |some is=>if is.length<=4000 then .ok (.sh (.int (met is).length)) else .no
  |none=> .no
 |_=> .no
def oJ(f:FE):FE:=λ δ=>(f δ).bind λw=>qW w.d
theorem wB{G:Hp}:∀{vs:List V} {ds:List D} {us:List Value} {is:List Int},aB K G vs ds->Vals vs us->jK ds=some is->IntsAre us is
 |_,_,_,_,.nil,r,e=>by cases r;cases e;exact .nil
 |_,_,_,_,.cons h t,r,e=>by
  cases r with
  |cons r1 r2=>
   cases h with
   |int x=>
    obtain⟨tk,rfl⟩:=r1;simp only[jK]at e;obtain⟨zs,q,rfl⟩:=N3.mp e;exact .cons x tk (wB t r2 q)
   |_=>cases e
section
variable{X:Cx}{EX:Bi}{a:Expr}{f:FE}{p p' pos pos':Pos}
def wX(hc:X.calm=true)(zZ:X.mg "len" =none)(hm:X.mg "set" =none)(ha:ED X EX a f)(yA:Gl X "len" :=by rfl)(hg:Gl X "set" :=by rfl)
  (hs:starEach [a] X.env=(false,eval a X.env)::starEach [] X.env:=by rfl)
  (dZ:starEach [.Call (.Name "set" p') [a] [] pos'] X.env=(false,eval (.Call (.Name "set" p') [a] [] pos') X.env)::starEach [] X.env:=by rfl) (bH:(backTo pos (starEach [] X.env)).any (·.1)=false:=by rfl) (ji:(backTo pos' (starEach [] X.env)).any (·.1)=false:=by rfl):
  ED X EX (.Call (.Name "len" p) [.Call (.Name "set" p') [a] [] pos'] [] pos) (oJ f):=by
 intro zd s σ H Q I q;obtain⟨G,δ,g0,s0,o⟩:=q;refine Call_ (lS I yA zZ B9 (W7 ?_ dZ bH));rw[dZ];show wpAny _ _ (spliced ((false,eval (.Call (.Name "set" p') [a] [] pos') X.env)::backTo pos (starEach [] X.env))) _ _ s;refine M8 ?_;refine Call_ (lS I hg hm PyProof.Rows.boot_set (K0 ?_ hs ji));rw[hs];show wpAny _ _ (spliced ((false,eval a X.env)::backTo pos' (starEach [] X.env))) _ _ s;refine M8 (Bg (ha zd s σ H _ I (tD.seq g0 s0 o (P:=λv H1=>∃l ds vs is G1,aA G1 H1/\v=.ref l/\bU X.K G1 l vs/\aB X.K G1 vs ds/\jK ds=some is/\is.length<=4000/\Out X.K (EX σ) G1 H1 (.ok (.sh (.int (met is).length))) Q) λw v G' H' _ st r o'=> ?_)) λu s1 ⟨v,H1,I1,r1,q1⟩=>Q0 ?_)
 ·revert r o';cases w.d with
  |lst ds=>
   intro r o';cases r with
   |lst h r=>
    simp only[qW]at o'
    split at o'
    ·rename_i is e
     split at o'
     ·rename_i hl;exact⟨_,ds,_,is,G',st.gh,rfl,h,r,e,hl,o'⟩
     ·exact o'.elim
    ·exact o'.elim
  |_=>intro _ o';exact False.elim o'
 ·obtain⟨l,ds,vs,is,G1,sg,rfl,hq,r,e,hl,o'⟩:=q1;cases r1;obtain⟨its,rv,pl,hz⟩:=I1.list (sg.seq hq);have ia:=wB r rv e;have il:its.length=is.length:=ia.length;refine PySem.call_set_list (ns:=is) (I1.ok.hd hc) pl.isList (by simpa using ia) (by rw[C7,il];show is.length + 1 < 4096;lia) λh' tk so kk=> ?_;refine Q0 ?_;obtain⟨ob,es,ep,t,ho,hex,hd,_,_,hb,hf,hn⟩:=so;have cJ:es.size < 4096:=hb;refine PySem.call_len_set ho hex hd hf () ?_;rw[hn,C7,il];exact⟨.int _,H1,I1.kept (t':=_) λb ob hbo=>kk b ob (A8 hbo) hbo,⟨_,rfl⟩,Dl o' sg (.int _)⟩
end
noncomputable def Ec:D->Option Ap
 | .int i=>some (.inl i)
 | .str x=>some (.inr x)
 |_=>none
def nz{G:Hp}{v:V}{d:D}{k:Ap}(r:aU K G v d)(e:Ec d=some k):v=kV k:=by
 cases r <;> first|(cases e;rfl)|cases e
section
variable{α:Type}
noncomputable def Dj(kvs:List (Ap×α))(k:Ap):Option α:=(kvs.find? λkv=>decide (kv.1=k)).map (·.2)
noncomputable def Ga(kvs:List (Ap×α))(k:Ap)(v:α):List (Ap×α):=if(kvs.any λkv=>decide (kv.1=k))=true then kvs.map (λkv=>if kv.1=k then(kv.1,v) else kv) else kvs ++ [(k,v)]
def Fb(kvs:List (Ap×α))(k:Ap):Bool:=(Dj kvs k).isSome
end
def Hv(kvs:List (Ap×V))(k:Ap)(v:V):Co kvs k v=Ga kvs k v:=rfl
theorem qV{G:Hp}:∀{kvs:List (Ap×V)} {aW:List (Ap×D)} (k:Ap),kvs.map (·.1)=aW.map (·.1)->aB K G (kvs.map (·.2)) (aW.map (·.2))->(Dk kvs k).isSome=Fb aW k/\∀d,Dj aW k=some d->∃v,Dk kvs k=some v/\aU K G v d
 | [],[],k,_,_=>⟨rfl,λd e=>by cases e⟩
 | [],_::_,k,e,_=>by simp at e
 |_::_,[],k,e,_=>by simp at e
 |(x,v)::kvs,(y,d)::aW,k,e,r=>by
  simp only[B1,U1]at e;obtain⟨e1,e2⟩:=e;subst e1;cases r with
  |cons h r=>
   obtain⟨i1,i2⟩:=qV (kvs:=kvs) (aW:=aW) k e2 r
   by_cases q:x=k
   ·have a1:Dk ((x,v)::kvs) k=some v:=kC q;have a2:Dj ((x,d)::aW) k=some d:=by unfold Dj;rw[V2 (by simpa using q)];rfl
    refine⟨by unfold Fb;rw[a1,a2];rfl,λd' e'=> ?_⟩;rw[a2]at e';cases e';exact⟨v,a1,h⟩
   ·have a1:Dk ((x,v)::kvs) k=Dk kvs k:=jV q;have a2:Dj ((x,d)::aW) k=Dj aW k:=by unfold Dj;rw[V3 (by simpa using q)]
    refine⟨by unfold Fb at i1⊢;rw[a1,a2];exact i1,λd' e'=> ?_⟩;rw[a2]at e';rw[a1];exact i2 d' e'
theorem IP{α β:Type}:∀{kvs:List (Ap×α)} {aW:List (Ap×β)} (k:Ap),kvs.map (·.1)=aW.map (·.1)->(kvs.any λkv=>decide (kv.1=k))=aW.any λkv=>decide (kv.1=k)
 | [],[],_,_=>rfl
 | [],_::_,k,e=>by simp at e
 |_::_,[],k,e=>by simp at e
 |(x,v)::kvs,(y,d)::aW,k,e=>by
  simp only[B1,U1]at e;obtain⟨e1,e2⟩:=e;subst e1;rw[Q6,Q6,IP k e2]
def UT{G:Hp}{kvs:List (Ap×V)}{aW:List (Ap×D)}(k:Ap){v:V}{d:D}(e:kvs.map (·.1)=aW.map (·.1))(r:aB K G (kvs.map (·.2)) (aW.map (·.2)))(h:aU K G v d):
  (Co kvs k v).map (·.1)=(Ga aW k d).map (·.1)/\aB K G ((Co kvs k v).map (·.2)) ((Ga aW k d).map (·.2)):=by
 rw[Hv];unfold Ga;rw[IP k e]
 split
 ·have all:∀{kvs:List (Ap×V)} {aW:List (Ap×D)},kvs.map (·.1)=aW.map (·.1)->aB K G (kvs.map (·.2)) (aW.map (·.2))->
    (kvs.map (λkv=>if kv.1=k then(kv.1,v) else kv)).map (·.1)=(aW.map (λkv=>if kv.1=k then(kv.1,d) else kv)).map (·.1)/\aB K G ((kvs.map (λkv=>if kv.1=k then(kv.1,v) else kv)).map (·.2)) ((aW.map (λkv=>if kv.1=k then(kv.1,d) else kv)).map (·.2)):=by
   intro kvs
   induction kvs with
   |nil=>
    intro aW e r;cases aW with
    |nil=>exact⟨rfl,.nil⟩
    |cons _ _=>simp at e
   |cons p kvs ih=>
    intro aW e r;cases aW with
    |nil=>simp at e
    |cons q aW=>
     obtain⟨x,u⟩:=p;obtain⟨y,w⟩:=q;simp only[B1,U1]at e;obtain⟨e1,e2⟩:=e;subst e1;cases r with
     |cons h1 r=>
      obtain⟨i1,i2⟩:=ih e2 r;simp only[B1]
      by_cases z:x=k
      ·simp only[z,if_true];exact⟨by rw[i1],.cons h i2⟩
      ·simp only[z,F3];exact⟨by rw[i1],.cons h1 i2⟩
  exact all e r
 ·refine⟨by rw[E7,E7,e];rfl, ?_⟩;rw[E7,E7];exact r.append (.cons h .nil)
section
variable{X:Cx}{EX:Bi}{pos:Pos}
def Eo:FE:=λ_=> .ok (.ow (.aD []))
def lG:ED X EX (.Dict [] [] pos) Eo:=PE.imp WQ λ σ H Q ⟨G,δ,g,s,o⟩=>λp hp=>
 o (.ref p) (λb=>b=p) G _ (Step.own g hp _) (λa e=>by subst e;exact⟨hp,g.free hp,by rw[Ce];simp⟩) (.dict Ce rfl rfl .nil)
def sG(neg:Bool):D->D->R W
 |d,.aD kvs=>match Ec d with
  |some k=> .ok (.sh (.bl (if neg then !Fb kvs k else Fb kvs k)))
  |none=> .no
 |_,_=> .no
def cV.rd{a:Addr}{kvs:List (Ap×V)}{k:Ap}(e:Rd H a (.dK kvs)):cV H a (kV k) (Dk kvs k):=.inl ⟨kvs,k,e,rfl,rfl⟩
def qH(hu:X.A.units + 64 < cLine):Ey X (compareOp .In) (sG false):=by
 intro zd s σ H x y v u Q I rx ry q;obtain⟨EX,G,a,b,g,ra,rb,o⟩:=q;cases rb with
 |aD h hk r=>
  simp only[sG]at o
  split at o
  ·rename_i k ek;have ex:=nz ra ek;subst ex;cases ry;refine WZ () I (cV.rd (k:=k) (aA.pH g h)) rx λs' I'=>⟨.bl _,H,I',rfl, ?_⟩;rw[(qV k hk r).1];exact Dl o g (.bl _)
  ·exact o.elim
 |_=>exact False.elim o
def Fy:D->D->R W
 | .aD kvs,d=>match Ec d with
  |some k=>(match Dj kvs k with
   |some x=> .ok (.sh x)
   |none=> .no)
  |none=> .no
 |_,_=> .no
def vX{o i:Expr}{f g:FE}(hu:X.A.units + 64 < cLine)(ho:ED X EX o f)(hi:ED X EX i g)(hs:xU i:=by intro _ _;rfl):ED X EX (.Subscript o i pos) (Ah Fy f g):=
 PE.imp (Vi () ho hi hs) λ σ H Q ⟨G,δ,g0,s0,o⟩=>tD.seq g0 s0 o λw v G1 H1 _ cG r1 o1=>tD.seq cG.gh (s0.mono cG.gg) o1 λw2 v2 G2 H2 _ bC r2 o2=>by
  have r1:=r1.mono bC.gg;revert r1 o2;cases w.d with
  |aD kvs=>
   intro o2 r1;simp only[Fy]at o2
   split at o2
   ·rename_i k ek
    split at o2
    ·rename_i x ex;cases r1 with
     |aD h hk r=>
      obtain⟨u,e1,e2⟩:=(qV k hk r).2 x ex;have e3:=nz r2 ek;subst e3;refine⟨_,u,rfl, ?_,Dl o2 bC.gh e2⟩;rw[<-e1];exact cV.rd (aA.pH bC.gh h)
    ·exact o2.elim
   ·exact o2.elim
  |_=>intro o2 _;exact False.elim o2
def Er(i:Nat)(js:List Nat)(fk fe:FE):FS:=λ Δ=>match(aC js Δ)[i]? with
 |some (.ow (.aD kvs))=>(match fe (Bn (aC js Δ)) with
  | .ok w=>(match fk (Az (aC js Δ)) with
   | .ok z=>(match Ec z.d with
    |some k=>if kvs.length < 16777216 then .nx ((aC js Δ).set i (.ow (.aD (Ga kvs k w.d)))) else .no
    |none=> .no)
   |_=> .no)
  |_=> .no)
 |_=> .no
def nI{i:Nat}(js:List Nat){x:Str}{e ie:Expr}{fe fk:FE}{p1 zi pos:Pos}(hu:X.A.units + 64 < cLine)(he:ED X EX e fe)(hi:ED X EX ie fk)(hN:X.N[i]? =some x:=by rfl)(hv:fV X.env.scope x:=by trivial)(hd:AG x:=by decide)
  (bT:(x ==("__classdict__" :Str))=false:=by decide) (hs:swapsWith e (some (.Subscript (.Name x p1) ie zi)) pos.line X.env=pure false:=by rfl):
  SD X EX (.Assign [.Subscript (.Name x p1) ie zi] e pos) (Er i js fk fe):=
 PS.imp (Vh () (iJ hN hv hd bT) hi he hs) λD σ H ⟨H0,G0,G,Δ,O,E,q⟩=>by
  obtain⟨G1,O1,sg,E1⟩:=E.aC js;unfold Er at q;generalize aC js Δ=Δ1 at q E1
  split at q
  ·rename_i aW e1;obtain⟨v0,s1,t⟩:=E1.ow i _ _ e1 rfl;obtain⟨a,kvs,rfl,m,hH,hk,rl⟩:=t.rL;refine⟨G1,Bn Δ1,E1.st.gh,E1.iL, ?_⟩;cases e2:fe (Bn Δ1) with
   |ex x=>rw[e2]at q;exact q.elim
   |no=>rw[e2]at q;exact q.elim
   |ok w=>
    simp only[e2]at q;refine WP.intro λv G' H' st r=> ?_;have E2:=E1.grow st;refine⟨.ref a,s1,Dh G' H' O1,Az Δ1,E2.aH,E2.dF, ?_⟩;cases e3:fk (Az Δ1) with
    |ex x=>simp only[e3]at q;exact q.elim
    |no=>simp only[e3]at q;exact q.elim
    |ok z=>
     simp only[e3]at q;refine WP.intro λv2 G2 H2 bC r2=> ?_
     split at q
     ·rename_i k ek
      split at q
      ·rename_i hl;have e4:=nz r2 ek;subst e4;have Pr:H2 a=some (.dK kvs):=bC.hh _ _ (st.hh _ _ hH);have hle:kvs.length=aW.length:=by
        have:=L8 List.length hk
        rwa[A3,A3]at this
       obtain⟨p1,p2⟩:=UT k hk (rl.mono st.gg) r;exact⟨a,_,rfl,jG.k Pr (by rw[hle,F0];exact hl),q σ G' _ _ ((E2.keep bC.hh).xW s1 m p1 p2) (sg.trans st.gg)⟩
      ·exact q.elim
     ·exact q.elim
  ·exact q.elim
end
section
variable{K:Frag}{H0 H1:HB}{G0 G H:Hp}{σ:Sg}{Δ:SE}{O:OS}
end
section
variable{X:Cx}{EX:Bi}{pos:Pos}
end
section
variable{X:Cx}{EX:Bi}{pos:Pos}
end
section
variable{X:Cx}{EX:Bi}{a b:Expr}{fa:FA}{p pos:Pos}
end
section
variable{K:Frag}{G H:Hp}
theorem aX.focus:∀{vs:List V} {ts:List Tn} {S:AS} {n:Nat} {t:Tn},aX K G H vs ts S->ts[n]? =some t->∃v S1,vs[n]? =some v/\Ow K G H v t S1/\(∀b,S1 b->S b)/\
  ∀{H':Hp} {t':Tn},(∀b o,S b->¬S1 b->H b=some o->H' b=some o)->Ow K G H' v t' S1->aX K G H' vs (ts.set n t') S
 |_,_,_,_,_,.nil,e=>by simp at e
 |v::vs,t0::ts,S,0,t,.cons (S1:=S1) (S2:=S2) h r dj s1 s2,e=>by
  have e:t0=t:=by simpa using e
  subst e;refine⟨v,S1,rfl,h,s1,λ{H' t'} f h'=> ?_⟩;exact .cons h' (r.mono (aA.refl _) (λb o hb q=>f b o (s2 b hb) (λz=>dj b z hb) q) λ_ q=>q) dj s1 s2
 |v::vs,t0::ts,S,n + 1,t,.cons (S1:=S1) (S2:=S2) h r dj s1 s2,e=>by
  obtain⟨v',S',e1,h',i',f'⟩:=aX.focus (n:=n) r (by simpa using e);refine⟨v',S',by simpa using e1,h',λb q=>s2 b (i' b q),λ{H' t'} f h2=> ?_⟩;exact .cons (h.mono (aA.refl _) (λb o hb q=>f b o (s1 b hb) (λz=>dj b hb (i' b z)) q) λ_ q=>q) (f' (λb o hb nb q=>f b o (s2 b hb) nb q) h2) dj s1 s2
theorem aX.append:∀{vs us:List V} {ts rs:List Tn} {S1 S2 S:AS},aX K G H vs ts S1->aX K G H us rs S2->(∀b,S1 b->S2 b->False)->(∀b,S1 b->S b)->(∀b,S2 b->S b)->aX K G H (vs ++ us) (ts ++ rs) S
 |_,_,_,_,_,_,_,.nil,r,_,_,i2=>r.mono (aA.refl _) (λ_ _ _ q=>q) i2
 |_,_,_,_,S1,S2,S,.cons (S1:=Sa) (S2:=Sb) h r dj s1 s2,q,d,i1,i2=>
  .cons (S2:=λb=>Sb b\/S2 b) h (aX.append r q (λb z1 z2=>d b (s2 b z1) z2) (λb z=> .inl z) λb z=> .inr z) (λb z1 z2=>by
   rcases z2 with z2|z2
   ·exact dj b z1 z2
   ·exact d b (s1 b z1) z2) (λb z=>i1 b (s1 b z)) λb z=>by
   rcases z with z|z
   ·exact i1 b (s2 b z)
   ·exact i2 b z
end
section
variable{α:Type}
noncomputable def Ed:List (Ap×α)->Ap->α->List (Ap×α)
 | [],_,_=> []
 |(x,v)::r,k,v'=>if x=k then(x,v')::r else(x,v)::Ed r k v'
theorem JG:∀(l:List (Ap×α)) (k:Ap) (v:α),(Ed l k v).map (·.1)=l.map (·.1)
 | [],_,_=>rfl
 |(x,v0)::r,k,v=>by
  unfold Ed
  split
  ·rfl
  ·rw[B1,B1,JG r k v]
end
section
variable{K:Frag}{G H:Hp}
theorem aX.eY(k:Ap):∀{kvs:List (Ap×V)} {zm:List (Ap×Tn)} {S:AS} {t:Tn},kvs.map (·.1)=zm.map (·.1)->aX K G H (kvs.map (·.2)) (zm.map (·.2)) S->Dj zm k=some t->
  ∃v S1,Dk kvs k=some v/\Ow K G H v t S1/\(∀b,S1 b->S b)/\
   ∀{H':Hp} {t':Tn},(∀b o,S b->¬S1 b->H b=some o->H' b=some o)->Ow K G H' v t' S1->aX K G H' (kvs.map (·.2)) ((Ed zm k t').map (·.2)) S
 | [],[],_,_,_,_,e=>by cases e
 | [],_::_,_,_,e,_,_=>by simp at e
 |_::_,[],_,_,e,_,_=>by simp at e
 |(x,v)::kvs,(y,t0)::zm,S,t,e,r,h=>by
  simp only[B1,U1]at e;obtain⟨e1,e2⟩:=e;subst e1;cases r with
  |cons hh r dj s1 s2=>
   rename_i S1 S2
   by_cases q:x=k
   ·have a2:Dj ((x,t0)::zm) k=some t0:=by unfold Dj;rw[V2 (by simpa using q)];rfl
    rw[a2]at h;cases h;refine⟨v,S1,kC q,hh,s1,λ{H' t'} f h'=> ?_⟩;unfold Ed;rw[if_pos q];exact .cons h' (r.mono (aA.refl _) (λb o hb z=>f b o (s2 b hb) (λw=>dj b w hb) z) λ_ z=>z) dj s1 s2
   ·have a2:Dj ((x,t0)::zm) k=Dj zm k:=by unfold Dj;rw[V3 (by simpa using q)]
    rw[a2]at h;obtain⟨v',S',e1,h',i',f'⟩:=aX.eY k e2 r h;refine⟨v',S',by rw[jV q];exact e1,h',λb z=>s2 b (i' b z),λ{H' t'} f h2=> ?_⟩;unfold Ed;rw[if_neg q];exact .cons (hh.mono (aA.refl _) (λb o hb z=>f b o (s1 b hb) (λw=>dj b hb (i' b w)) z) λ_ z=>z) (f' (λb o hb nb z=>f b o (s2 b hb) nb z) h2) dj s1 s2
end
def Sl.tree:Sl->Option (Tn×Bool)
 | .ow d=>some (Tn.of d,false)
 | .tr t=>some (t,false)
 | .lt t=>some (t,true)
 |_=>none
def Sl.mk(b:Bool)(t:Tn):Sl:=if b then .lt t else .tr t
def Sl.cF{s:Sl}{t:Tn}{b:Bool}(e:s.tree=some (t,b)):s.own=some t:=by
 cases s <;> first|(cases e;rfl)|cases e
def Sl.oA(b:Bool)(t:Tn):(Sl.mk b t).own=some t:=by cases b <;> rfl
def Sl.tm(b:Bool)(t:Tn):∀d,Sl.mk b t≠ .lk d:=by intro d;cases b <;> (intro z;cases z)
def Ev.tj{H0:HB}{G0 G H:Hp}{σ:Sg}{Δ:SE}{O:OS}(E:Ev K H0 G0 G H σ Δ O){i:Nat}{s:Sl}{t:Tn}{b:Bool}(e:Δ[i]? =some s)(q:s.tree=some (t,b))(t':Tn):∀d,Sl.mk b t'=.lt d->σ[i]? =some (some (.ref (H0.b i))):=by
 intro d z;cases b with
 |false=>cases z
 |true=>
  cases s with
  |lt t0=>exact E.lt i t0 e
  |_=>cases q
def Ev.kj{H0:HB}{G0 G H:Hp}{σ:Sg}{Δ:SE}{O:OS}(E:Ev K H0 G0 G H σ Δ O){i:Nat}{s:Sl}{t t':Tn}{b:Bool}{v:V}{a:Addr}{o:HO}(e:Δ[i]? =some s)(q:s.tree=some (t,b))(s1:σ[i]? =some (some v))(m:O i a)(t1:Ow K G (upd H a o) v t' (O i)):
  Ev K H0 G0 G (upd H a o) σ (Δ.set i (Sl.mk b t')) (Hj O i (O i)):=
 have ms:=bR.write E.st.gh m (E.out i a m).1 o
 E.gZ (Sl.oA b t') (Sl.tm b t') (E.tj e q t') ms.weak s1 (λb hb=>⟨.inl hb,(E.out i b hb).1,ms.al b (E.out i b hb).2.2⟩) t1
def Ow.oE{G H:Hp}{v:V}{zm:List (Ap×Tn)}{S:AS}(t:Ow K G H v (.aD zm) S):∃a kvs S1,v=.ref a/\S a/\H a=some (.dK kvs)/\kvs.map (·.1)=zm.map (·.1)/\(∀b,S1 b->S b/\b≠a)/\aX K G H (kvs.map (·.2)) (zm.map (·.2)) S1:=by
 cases t with
 |aD h hk ha sub r=>exact⟨_,_,_,rfl,ha,h,hk,sub,r⟩
section
variable{X:Cx}{EX:Bi}{pos:Pos}
end
section
variable{X:Cx}{EX:Bi}{pos:Pos}
end
def kD:Ap->D
 | .inl i=> .int i
 | .inr x=> .str x
def vt{G:Hp}(k:Ap):aU K G (kV k) (kD k):=by cases k <;> constructor
theorem Hu{G:Hp}:∀ks:List Ap,aB K G (ks.map kV) (ks.map kD)
 | []=> .nil
 |k::ks=> .cons (vt k) (Hu ks)
def RA{P:Program}{w:World}{k:Ap}{u:Value}(h:(eG P w).is k u=true):RelV (kV k) u:=by
 rcases oW h with⟨i,t,rfl,rfl⟩|⟨x,t,rfl,rfl⟩
 ·exact⟨t,rfl⟩
 ·exact⟨t,rfl⟩
theorem wW{P:Program}{w:World}:∀{kvs:List (Ap×V)} {vs:List (Ap×Value)} {us:List Value},KV kvs vs->us.length=vs.length->(∀(j:Nat) v,us[j]? =some v->∃k x,vs[j]? =some (k,x)/\(eG P w).is k v=true)->Vals ((kvs.map (·.1)).map kV) us
 | [],vs,us,r,hl,_=>by
  have:=r.length;simp at this;have:us= []:=R6 ();subst this;exact .nil
 |(k,v)::kvs,vs,us,r,hl,h=>by
  cases r with
  |cons h1 r=>
   rename_i q vs;obtain⟨k',x⟩:=q;cases us with
   |nil=>simp at hl
   |cons u us=>
    obtain⟨k2,x2,e,i⟩:=h 0 u rfl;have e:(k',x)=(k2,x2):=by simpa using e
    cases e;have e1:k=k':=h1.1;subst e1;exact .cons (RA i) (wW r (by simpa using hl) λj v e=>by
     obtain⟨a,b,c,d⟩:=h (j + 1) v (by simpa using e);exact⟨a,b,by simpa using c,d⟩)
section
variable{X:Cx}{EX:Bi}{pos:Pos}
def vi:List D->R W
 | [.aD kvs]=> .ok (.ow (.lst (kvs.map λp=>kD p.1)))
 |_=> .no
def Zd(hc:X.calm=true):Ff X (.type "list") vi:=by
 intro zd s σ H vs us Q I rv q;obtain⟨EX,G,ds,g,r,o⟩:=q;cases r with
 |nil=>exact False.elim o
 |cons h t=>
  cases t with
  |cons _ _=>cases h <;> exact False.elim o
  |nil=>
   cases h with
   |aD h hk r=>
    rename_i kvs aW;obtain⟨u,rfl,ru⟩:=rv.one;cases ru;obtain⟨z,lo,ws,kv,dd⟩:=gN I.aN (aA.pH g h);obtain⟨ep,da⟩:=dd.dictAt;refine kdl_call (kdl_dict lo) (I.ok.hd hc) da (by rw[<-kv.length];exact z) λh' tk zn c kk mf it=> ?_;have fO:Vals ((kvs.map (·.1)).map kV) zn.toList:=wW kv (by rw[M4];exact it.1) λj v e=>it.2 j v (by rw[<-S5];exact e);have fr:=I.aN.fresh (A9 _);refine⟨.ref _,upd H _ (.lst _),I.laid (t':=tk) kk (A9 _) ⟨?_,zn.toList,c,fO,by simpa using mf⟩,rfl, ?_⟩
    ·rw[A3,A3];exact z
    ·have e:(aW.map λp=>kD p.1)=(kvs.map (·.1)).map kD:=by rw[hk,D7];rfl
     have o':Out X.K EX G H (.ok (.ow (.lst ((kvs.map (·.1)).map kD)))) Q:=by rw[<-e];exact o
     exact rR o' g (Hu _) _ fr
   |_=>exact False.elim o
end
section
variable{X:Cx}{EX:Bi}{pos:Pos}
def gL(i j:Nat):FS:=λ Δ=>match Δ[j]? with
 |some (.ow (.lst ds))=>(match ds[ds.length - 1]? with
  |some d=> .nx ((Δ.set j (.ow (.lst ds.dropLast))).set i (.sh d))
  |none=> .no)
 |_=> .no
theorem aB.dropLast{G:Hp}{vs:List V}{ds:List D}(h:aB K G vs ds):aB K G vs.dropLast ds.dropLast:=by
 rw[List.dropLast_eq_take,List.dropLast_eq_take,h.length];exact h.take _
def GZ{i j:Nat}{x y:Str}{p1 p2 zh zf:Pos}(hN:X.N.Nodup)(hi:X.N[i]? =some x:=by rfl)(hx:Loc X.env.scope x:=by trivial)(hj:X.N[j]? =some y:=by rfl)(hv:fV X.env.scope y:=by trivial)(hd:AG y:=by decide)
  (bT:(y ==("__classdict__" :Str))=false:=by decide) (hs:swapsWith (.Call (.Attribute (.Name y p1) "pop" zh) [] [] zf) (some (.Name x p2)) pos.line X.env=pure false:=by rfl)
  (hf:X.fn x=true\/X.env.scope.names.lookup x=some .local:=by trivial)
  (ae:attributeBase (.Name y p1) "pop" X.env (eval (.Name y p1) X.env)=eval (.Name y p1) X.env:=by rfl) (af:(zh.endLine ==zf.line)=true:=by rfl):
  SD X EX (.Assign [.Name x p2] (.Call (.Attribute (.Name y p1) "pop" zh) [] [] zf) pos) (gL i j):=
 PS.imp (vD hN hi hx (SX R0 PySem.F.slot_list_pop PySem.F.type_list_pop SW (iJ hj hv hd bT) ae af) hs hf) λD σ H ⟨H0,G0,G,Δ,O,E,q⟩=>by
  unfold gL at q
  split at q
  ·rename_i ds e1;obtain⟨v0,s1,t⟩:=E.ow j _ _ e1 rfl;obtain⟨a,vs,rfl,m,hH,rl⟩:=t.dB
   split at q
   ·rename_i d e2;rw[<-rl.length]at e2;obtain⟨v,e3,hv⟩:=rl.get e2;exact⟨.ref a,s1,.inl ⟨rfl,_,bU.of hH⟩,a,vs,v,rfl,rfl,hH,e3,q _ G _ _ ((E.jH s1 m rl.dropLast).put hv) (aA.refl _)⟩
   ·exact q.elim
  ·exact q.elim
theorem aB.eraseIdx{G:Hp}:∀{vs:List V} {ds:List D} (n:Nat),aB K G vs ds->aB K G (vs.eraseIdx n) (ds.eraseIdx n)
 |_,_,_,.nil=> .nil
 |_,_,0,.cons _ r=>r
 |_,_,n + 1,.cons h r=> .cons h (aB.eraseIdx n r)
def qA(kvs:List (Ap×D))(b c:D):R W:=match Ec b with
 |some k=>(match Dj kvs k with
  |some x=> .ok (.sh x)
  |none=> .ok (.sh c))
 |none=> .no
def vh(f g h:FE):FE:=λ δ=>(f δ).bind λa=>match a.d with
 | .aD kvs=>(g δ).bind λb=>(h δ).bind λc=>qA kvs b.d c.d
 |_=> .no
def US{o e e2:Expr}{f g h:FE}{zh zf:Pos}(hu:X.A.units + 64 < cLine)(ho:ED X EX o f)(he:ED X EX e g)(hf:ED X EX e2 h)(hm:M2 X o "get" zh e e2 zf:=by exact⟨rfl,rfl,rfl,rfl⟩):
  ED X EX (.Call (.Attribute o "get" zh) [e,e2] [] zf) (vh f g h):=
 PE.imp (WO () ho he hf hm) λ σ H Q ⟨G,δ,g0,s0,o⟩=>tD.seq g0 s0 o λw v G1 H1 e1 cG r1 o1=>by
  revert r1 o1;cases w.d with
  |aD kvs=>
   intro r1 o1;cases r1 with
   |aD hh hk r=>
    rename_i a0 kv0;refine⟨_,rfl,.inl ⟨_,aA.pH cG.gh hh⟩, ?_⟩;refine tD.seq cG.gh (s0.mono cG.gg) o1 λw2 v2 G2 H2 _ bC r2 o2=>tD.seq bC.gh (s0.mono (cG.gg.trans bC.gg)) o2 λw3 v3 G3 H3 _ iO r3 o3=> ?_;unfold qA at o3
    split at o3
    ·rename_i k ek;have ev:=nz r2 ek;subst ev;have hg:=aA.pH iO.gh (aA.pH iO.gg (aA.pH bC.gg hh));refine⟨_,cV.rd hg, ?_⟩;obtain⟨i1,i2⟩:=qV (K:=X.K) (G:=G3) k hk (r.mono (bC.gg.trans iO.gg))
     split at o3
     ·rename_i x ex;obtain⟨u,e5,e6⟩:=i2 x ex;rw[e5];exact Dl o3 iO.gh e6
     ·rename_i ex;have:Dk kv0 k=none:=by
       cases q:Dk kv0 k with
       |none=>rfl
       |some u=>
        rw[q]at i1;unfold Fb at i1;rw[ex]at i1;cases i1
      rw[this];exact Dl o3 iO.gh r3
    ·exact o3.elim
  |_=>intro _ o1;exact False.elim o1
end
section
variable{X:Cx}{EX:Bi}{e:Expr}{es:List Expr}{x:Str}{pp pos:Pos}{c:Bool}{k k':Nat}{ps:List Str}
end
def cD(K:Frag)(cs:List Str)(f:Str):Prop:=∀c,cs.contains c=true->∀C,ClsAt K c C->iN K C/\aZ K C f
def cD.nil{f:Str}:cD K [] f:=λc h=>by cases h
def ClsAt.same{c:Str}{C C':Addr}(a:ClsAt K c C)(b:ClsAt K c C'):C'=C:=by
 unfold ClsAt at a b;rw[a]at b;injection b with b
 injection b with b
 injection b with b
 exact b.symm
def cD.one{c:Str}{C:Addr}{cs:List Str}{f:Str}(a:ClsAt K c C)(k:iN K C)(n:aZ K C f)(r:cD K cs f):cD K (c::cs) f:=λc' h C' a'=>by
 rw[P2,S0]at h;rcases h with h|h
 ·have e:=M5.mp h;subst e;rw[a.same a'];exact⟨k,n⟩
 ·exact r c' h C' a'
def Fu(cs:List Str)(f:Str)(fo:FE):FE:=λ δ=>(fo δ).bind λw=>match w.d with
 | .obj c ns vs=>if cs.contains c then(match(ns.zip vs).lookup f with
  |some d=> .ok (.sh d)
  |none=> .no) else .no
 |_=> .no
theorem qU{G:Hp}{f:Str}:∀{ns:List Str} {us:List V} {vs:List D},aB K G us vs->ns.length=us.length->(∀d,(ns.zip vs).lookup f=some d->∃v,(ns.zip us).lookup f=some v/\aU K G v d)/\(ns.contains f=false->(ns.zip us).lookup f=none)
 | [],_,_,_,_=>⟨λd e=>(by cases e),λ_=>rfl⟩
 |n::ns,[],_,_,e=>by simp at e
 |n::ns,u::us,_,.cons h r,e=>by
  obtain⟨i1,i2⟩:=qU (f:=f) (ns:=ns) r (by simpa using e);refine⟨λd q=> ?_,λq=> ?_⟩
  ·rw[Y6,K6]at q⊢;cases hb:f ==n with
   |true=>simp only[hb]at q⊢;cases q;exact⟨u,rfl,h⟩
   |false=>simp only[hb]at q⊢;exact i1 d q
  ·rw[P2,Bool.or_eq_false_iff]at q;rw[Y6,K6];simp only[q.1];exact i2 q.2
section
variable{X:Cx}{EX:Bi}{e:Expr}{pos:Pos}
def lR{cs:List Str}{f:Str}{fo:FE}(k:cD X.K cs f)(he:ED X EX e fo)(hb:attributeBase e f X.env (eval e X.env)=eval e X.env:=by rfl):ED X EX (.Attribute e f pos) (Fu cs f fo):=
 PE.imp (Td he hb) λ σ H Q ⟨G,δ,g0,s0,o⟩=>tD.seq g0 s0 o λw v G1 H1 _ st r o'=>by
  revert o' r;cases w.d with
  |obj c ns vs=>
   intro r o';simp only at o'
   split at o'
   ·rename_i hc
    split at o'
    ·rename_i d ed;cases r with
     |obj hC hh hl rl=>
      obtain⟨v1,e1,h1⟩:=(qU (f:=f) rl hl).1 d ed;obtain⟨kc,kn⟩:=k c hc _ hC;exact⟨_,_,_,_,v1,rfl,st.gh _ _ hh,kc,kn,e1,Dl o' st.gh h1⟩
    ·exact o'.elim
   ·exact o'.elim
  |_=>intro _ o';exact False.elim o'
end
structure iA(P:Program)(w:World)(K:Frag)(mg:AB)(base:Heap)(cc:Bool)(k n:Nat)(m c:Str)(F:AF):Prop where
 ex:∃C f fd ps,ClsAt K c C/\iN K C/\Meth K C m f/\bO P w K mg base cc k f fd ps (Br K (n + 1) F)/\Binds K fd ps []
def bE(P:Program)(w:World)(K:Frag)(mg:AB)(base:Heap)(cc:Bool)(k n:Nat)(m:Str)(tb:List (Str×(AF))):Prop:=∀c F,tb.lookup c=some F->iA P w K mg base cc k n m c F
def bE.nil{P:Program}{w:World}{cc:Bool}{k n:Nat}{m:Str}:bE P w K mg base cc k n m []:=λc F e=>by cases e
def bO.up{P:Program}{w:World}{c:Bool}{j k:Nat}{f:Addr}{ps:List Str}{sp:Sp}(F:bO P w K mg base c j f fd ps sp)(h:j<=k):bO P w K mg base c k f fd ps sp:=
 ⟨F.len,λA outer s H args us vs Q E hr=>F.run A outer s H args us vs Q E (hr.mono h)⟩
def bE.one{P:Program}{w:World}{cc:Bool}{j k n:Nat}{m c:Str}{F:AF}{tb:List (Str×(AF))}(d:iA P w K mg base cc j n m c F)(hj:j<=k)(r:bE P w K mg base cc k n m tb):bE P w K mg base cc k n m ((c,F)::tb):=λc' F' e=>by
 rw[K6]at e;cases hb:c' ==c with
 |true=>
  simp only[hb]at e;cases e;have:=M5.mp hb;subst this;obtain⟨C,f,fd,ps,a1,a2,a3,a4,a5⟩:=d.ex;exact⟨C,f,fd,ps,a1,a2,a3,a4.up hj,a5⟩
 |false=>simp only[hb]at e;exact r c' F' e
def Ft(m:Str)(n:Nat)(tb:List (Str×(AF)))(fo:FE)(fa:FA):FE:=λ δ=>(fo δ).bind λw=>match w.d with
 | .obj c ns vs=>if ns.contains m then .no else match tb.lookup c with
  |some F=>(fa δ).bind λds=>if ds.length=n then F (.obj c ns vs::ds) else .no
  |none=> .no
 |_=> .no
section
variable{X:Cx}{EX:Bi}{e o:Expr}{es:List Expr}{pos zh:Pos}{cc:Bool}{k k' n:Nat}{m:Str}{tb:List (Str×(AF))}{fo:FE}{fa:FA}
def vg(X:Cx)(EX:Bi)(cc:Bool)(k:Nat)(m:Str)(ta:TE)(t:TA):TE:=λ σ H Q=>ta σ H λx H1=>∃a C dx fs f fd ps sp,x=.ref a/\H1 a=some (.ins C dx fs)/\fs.lookup m=none/\iN X.K C/\Meth X.K C m f/\
 bO X.prog X.w X.K X.mg X.base cc k f fd ps sp/\Binds X.K fd ps []/\t σ H1 λvs H2=>sp (.ref a::vs) H2 Q (pz X.K (EX σ))
def UR{pl:Sem Bool}{ta:TE}{t:TA}(he:PE X o ta)(hr:aE cc k X.A)(lk:Lk X EX)(ha:PA X (e::es) t)
  (cM:starEach (e::es) X.env=(false,eval e X.env)::starEach es X.env) (bH:(backTo pos (starEach es X.env)).any (·.1)=false)
  (ht:eval (.Call (.Attribute o m zh) (e::es) [] pos) X.env=(do
   let ov<-eval o X.env
   standAt zh.atName
   let(f,first)<-holding [ov] (getMethod ov m pl)
   callWith pos f first (backTo pos (starEach (e::es) X.env)) (backToKw pos (keywordEach [] X.env)))):
  PE X (.Call (.Attribute o m zh) (e::es) [] pos) (vg X EX cc k m ta t):=by
 intro zd s σ H Q I h;refine Z4 (pl:=pl) (Bg (he zd s σ H _ I h) λu s1 hh=> ?_) ht;obtain⟨x,H1,I1,rx,a,C,dx,fs,f,fd,ps,sp,ex,ea,l,c,hm,F,hb,q⟩:=hh;subst ex;obtain rfl:u=Value.ref a:=rx;refine Kp I1 ea c hm l ?_;refine Y2 (first:=[.ref a]) (h₀:=X.base) I.ok.mod.lZ hm.kp (Bg (ha pos zd s1 σ H1 _ I1 q) λus s2 ⟨vs,H2,I2,r,q2⟩=>⟨I2.bY, ?_⟩) cM bH;exact rf (us:=.ref a::us) (vs:=.ref a::vs) F hr hb lk I2 (.cons rfl r) q2
def WC{pl:Sem Bool}{ta:TE}(he:PE X o ta)(hr:aE cc k X.A)(lk:Lk X EX)
  (ht:eval (.Call (.Attribute o m zh) [] [] pos) X.env=(do
   let ov<-eval o X.env
   standAt zh.atName
   let(f,first)<-holding [ov] (getMethod ov m pl)
   callWith pos f first (backTo pos (starEach [] X.env)) (backToKw pos (keywordEach [] X.env)))):
  PE X (.Call (.Attribute o m zh) [] [] pos) (vg X EX cc k m ta qk):=by
 intro zd s σ H Q I h;refine Z4 (pl:=pl) (Bg (he zd s σ H _ I h) λu s1 hh=> ?_) ht;obtain⟨x,H1,I1,rx,a,C,dx,fs,f,fd,ps,sp,ex,ea,l,c,hm,F,hb,q⟩:=hh;subst ex;obtain rfl:u=Value.ref a:=rx;refine Kp I1 ea c hm l ?_;exact callWith_K0 (first:=[.ref a]) I1.bY hm.kp (rf (us:=[.ref a]) (vs:=[.ref a]) F hr hb lk I1 (.cons rfl .nil) q)
def Sz{σ:Sg}{Q:VK}(hK:X.K=K)(T:bE X.prog X.w X.K X.mg X.base cc k n m tb)(q:tD K EX (Ft m n tb fo fa) σ H Q):vg X EX cc k m (tD K EX fo) (dY K EX fa) σ H Q:=by
 subst hK;obtain⟨G,δ,g0,s0,o⟩:=q;refine tD.seq g0 s0 o λw v G1 H1 _ st r o'=> ?_;revert o' r;cases w.d with
 |obj c ns vs=>
  intro r o';simp only at o'
  split at o'
  ·exact o'.elim
  ·rename_i hn
   split at o'
   ·rename_i F ef;cases r with
    |obj hC hh hl rl=>
     rename_i a0 C0 dx0 us0;obtain⟨C,f,fd,ps,a1,a2,a3,a4,a5⟩:=(T c F ef).ex;have:=a1.same hC;subst this;refine⟨_,_,_,_,f,fd,ps,_,rfl,st.gh _ _ hh,(qU (f:=m) rl hl).2 (by simpa using hn),a2,a3,a4,a5, ?_⟩;refine dY.seq st.gh (s0.mono st.gg) o' λds us G' H' _ cX r' o2=> ?_
     split at o2
     ·rename_i zk;refine⟨by rw[B5,r'.length,zk],G',.obj c ns vs::ds,cX.gh,.cons (aU.mono cX.gg (.obj hC hh hl rl)) r', ?_⟩;cases q:F (.obj c ns vs::ds) with
      |ok w=>rw[q]at o2;exact o2
      |ex x=>rw[q]at o2;exact bQ.in o2
      |no=>rw[q]at o2;exact o2.elim
     ·exact o2.elim
   ·exact o'.elim
 |_=>intro _ o';exact False.elim o'
def pC{pl:Sem Bool}(T:bE X.prog X.w X.K X.mg X.base cc k n m tb)(hr:aE cc k' X.A)(lk:Lk X EX)(he:ED X EX o fo)(ha:AD X EX (e::es) fa)(hk:k<=k':=by decide)
  (cM:starEach (e::es) X.env=(false,eval e X.env)::starEach es X.env:=by rfl) (bH:(backTo pos (starEach es X.env)).any (·.1)=false:=by rfl)
  (ht:eval (.Call (.Attribute o m zh) (e::es) [] pos) X.env=(do
   let ov<-eval o X.env
   standAt zh.atName
   let(f,first)<-holding [ov] (getMethod ov m pl)
   callWith pos f first (backTo pos (starEach (e::es) X.env)) (backToKw pos (keywordEach [] X.env))):=by rfl):ED X EX (.Call (.Attribute o m zh) (e::es) [] pos) (Ft m n tb fo fa):=
 PE.imp (UR he (hr.mono hk) lk ha cM bH ht) λ_ _ _ q=>Sz rfl T q
def IM{pl:Sem Bool}(T:bE X.prog X.w X.K X.mg X.base cc k 0 m tb)(hr:aE cc k' X.A)(lk:Lk X EX)(he:ED X EX o fo)(hk:k<=k':=by decide)
  (ht:eval (.Call (.Attribute o m zh) [] [] pos) X.env=(do
   let ov<-eval o X.env
   standAt zh.atName
   let(f,first)<-holding [ov] (getMethod ov m pl)
   callWith pos f first (backTo pos (starEach [] X.env)) (backToKw pos (keywordEach [] X.env))):=by rfl):ED X EX (.Call (.Attribute o m zh) [] [] pos) (Ft m 0 tb fo Ac):=
 PE.imp (WC he (hr.mono hk) lk ht) λ σ H Q ⟨G,δ,g0,s0,q⟩=>tD.seq g0 s0 q λw v G1 H1 _ st r o'=>by
  revert o' r;cases w.d with
  |obj c ns vs=>
   intro r o';simp only at o'
   split at o'
   ·exact o'.elim
   ·rename_i hn
    split at o'
    ·rename_i F ef;cases r with
     |obj hC hh hl rl=>
      obtain⟨C,f,fd,ps,a1,a2,a3,a4,a5⟩:=(T c F ef).ex;have:=a1.same hC;subst this;refine⟨_,_,_,_,f,fd,ps,_,rfl,st.gh _ _ hh,(qU (f:=m) rl hl).2 (by simpa using hn),a2,a3,a4,a5, ?_⟩;have o2:Out X.K (EX σ) G1 H1 (F [.obj c ns vs]) Q:=o';refine⟨rfl,G1,[.obj c ns vs],st.gh,.cons (.obj hC hh hl rl) .nil, ?_⟩;cases q:F [.obj c ns vs] with
      |ok w=>rw[q]at o2;exact o2
      |ex x=>rw[q]at o2;exact bQ.in o2
      |no=>rw[q]at o2;exact o2.elim
    ·exact o'.elim
  |_=>intro _ o';exact False.elim o'
end
noncomputable def mq:List Tn->Option (List D)
 | []=>some []
 | .sh d::r=>(mq r).map (d:: ·)
 |_=>none
theorem wA:∀{ts:List Tn} {ds:List D},mq ts=some ds->ts=ds.map .sh
 | [],_,e=>by cases e;rfl
 |t::r,ds,e=>by
  cases t with
  |sh d=>
   simp only[mq]at e;cases q:mq r with
   |none=>rw[q]at e;cases e
   |some l=>
    rw[q]at e;cases e;rw[wA q];rfl
  |_=>cases e
noncomputable def nv(n:Nat)(c:Str)(ds:List D):SE:=.lt (.obj c [] [])::(ds.map Sl.sh ++ List.replicate (n - (ds.length + 1)) .no)
def eP(n:Nat)(c:Str)(g:FS)(ds:List D):R (List Str×List D):=match g (nv n c ds) with
 | .nx Δ=>(match Δ[(0:Nat)]? with
  |some (.lt (.obj c' ns ts))=>if c'=c then(match mq ts with
   |some rs=> .ok (ns,rs)
   |none=> .no) else .no
  |_=> .no)
 | .ex x _=> .ex x
 |_=> .no
def pF(K:Frag)(C:Addr)(n:Nat)(F:List D->R (List Str×List D)):Sp:=λvs H Q E=>∃x dx yj Hq G ds,vs=.ref x::yj/\yj.length=n/\Hq x=none/\aA Hq H/\H x=some (.ins C dx [])/\aA G Hq/\aB K G yj ds/\
 (match F ds with
 | .ok p=>∀G' H' us NK,Step G Hq G' H'->G' x=none->H' x=some (.ins C NK (p.1.zip us))->p.1.length=us.length->aB K G' us p.2->Q .aJ H'
 | .ex e=>(bQ K E).p e G Hq
 | .no=>False)
def Ya{G H h0:Hp}{v0:V}{vs:List V}{ds:List D}{N:List Str}{b:Nat->Addr}(g:aA G H)(i0:aA h0 H)(r:aB K G vs ds)(hl:vs.length + 1<=N.length):Ev K ⟨h0,b⟩ G G H (iH N (v0::vs)) (.no::(ds.map Sl.sh ++ List.replicate (N.length - (ds.length + 1)) .no)) (λ_ _=>False):=by
 have key:∀(i:Nat) (s:Sl),(Sl.no::(ds.map Sl.sh ++ List.replicate (N.length - (ds.length + 1)) .no))[i]? =some s->(∃j d,i=j + 1/\s=.sh d/\ds[j]? =some d)\/s=.no:=λi s e=>by
  cases i with
  |zero=>exact .inr (by simpa using e.symm)
  |succ i=>
   rw[R3]at e
   by_cases hi:i < ds.length
   ·rw[B7 (by rw[A3];exact hi),B3]at e;obtain⟨d,e1,e2⟩:=N3.mp e;exact .inl ⟨i,d,rfl,e2.symm,e1⟩
   ·rw[D2 (by rw[A3];lia),F5]at e
    split at e
    ·cases e;exact .inr rfl
    ·cases e
 refine⟨⟨i0,g,aA.refl _,λ_ n _=>n⟩, ?_,λi d e=> ?_,λi z d e zo=> ?_,λ_ _ ha=>ha.elim,λ_ _ _ ha=>ha.elim,λi d e=> ?_,λi d e=> ?_⟩
 ·unfold iH;have:=r.length;simp only[A7,A3,J6,B5]at hl⊢;lia
 ·rcases key i _ e with⟨j,d',rfl,q,q2⟩|q
  ·cases q;obtain⟨v,e1,h⟩:=r.get q2;refine⟨v, ?_,h⟩;unfold iH;have hi:j < vs.length:=(B4.mp e1).1;rw[B7 (by rw[A3,B5];lia),B3,R3,e1];rfl
  ·cases q
 ·rcases key i _ e with⟨j,d',_,q,_⟩|q <;> (subst q;cases zo)
 ·rcases key i _ e with⟨j,d',_,q,_⟩|q <;> cases q
 ·rcases key i _ e with⟨j,d',_,q,_⟩|q <;> cases q
def Rp{c:Bool}{P:Program}{w:World}{x qual cn:Str}{st:Stmt}{f C:Addr}{N ps:List Str}{k n:Nat}{g:FS}(F:bI K x qual st f fd)(S:bA N ps (Cr st))(hC:ClsAt K cn C)(hn:ps.length=n + 1)(hle:ps.length<=N.length)
  (zj:∀(zp:Value) (A:Around) (outer:List Env) (s:Shared) (H:Hp) (E:XK),aE c k (A.deeper (envOfC qual (Cr st) s.heap.objs.size f zp))->
   BD (Fx c P w K mg base N qual (Cr st) f zp A outer s H E) (λ_=>bQ K E) (Gk st) g):bO P w K mg base c (k + 1) f fd ps (pF K C n (eP N.length cn g)):=by
 refine bI.OJ F S (λvs H Q E h=> ?_) λzp A outer s H vs Q E hr h=>⟨_,zj zp A outer s H E hr, ?_⟩
 ·obtain⟨x,dx,yj,Hq,G,ds,rfl,hl,_⟩:=h;rw[B5,hl,hn]
 obtain⟨x,dx,yj,Hq,G,ds,rfl,hl,n1,i0,hx,g0,r,q⟩:=h;have E0:=Ya (N:=N) (b:=λ_=>x) (v0:=.ref x) (g0.trans i0) i0 r (by rw[hl];lia);have hs:(iH N (.ref x::yj))[0]? =some (some (.ref x)):=rfl;have E1:=E0.uT (i:=0) (z:=.lt (.obj cn [] [])) (v:=.ref x) (S:=λb=>b=x) (λa ha=>by subst ha;exact⟨n1,g0.free n1,by rw[hx];simp⟩) rfl (λ_ z=>by cases z) (.obj (S1:=λ_=>False) hC (us:=[]) hx rfl rfl (λ_ z=>z.elim) .nil) (λj a ha=>ha.elim) (λ_ _=>rfl);rw[nW hs]at E1;refine⟨⟨Hq,λ_=>x⟩,G,G,_,_,E1, ?_⟩;unfold eP at q;have e2:(Sl.no::(ds.map Sl.sh ++ List.replicate (N.length - (ds.length + 1)) .no)).set 0 (.lt (.obj cn [] []))=nv N.length cn ds:=rfl;rw[e2];cases e:g (nv N.length cn ds) with
 |nx Δ=>
  rw[e]at q;intro σ G' H' O E' _;simp only at q
  split at q
  ·rename_i p ep
   split at ep
   ·rename_i c2 ns ts e3
    split at ep
    ·rename_i sN;subst sN
     split at ep
     ·rename_i rs eu;cases ep;obtain⟨v,s1,t3⟩:=E'.ow _ _ _ e3 rfl;have s2:=E'.lt _ _ e3;rw[s1]at s2;cases s2;cases t3 with
      |obj hc h Pd ha sub rl=>
       rw[wA eu]at rl;have:=hC.same hc;subst this;exact q G' H' _ _ E'.st (E'.out _ _ ha).1 h Pd rl.off
     ·cases ep
    ·cases ep
   ·cases ep
  ·rename_i x2 ep
   split at ep
   ·split at ep
    ·split at ep <;> cases ep
    ·cases ep
   ·cases ep
  ·rename_i ep;exact q.elim
 |ex x Δ=>rw[e]at q;exact λ σ G' H' O E' _=>(bQ K E).mono _ _ _ _ _ E'.st q
 |rt w=>rw[e]at q;exact q.elim
 |rv d Δ=>rw[e]at q;exact q.elim
 |bk Δ=>rw[e]at q;exact q.elim
 |ct Δ=>rw[e]at q;exact q.elim
 |no=>rw[e]at q;exact q.elim
theorem IL{f:Str}{y:V}:∀{ns:List Str} {us:List V},ns.length=us.length->ns.contains f=false->Db f y (ns.zip us)=(ns ++ [f]).zip (us ++ [y])
 | [],[],_,_=>rfl
 | [],_::_,e,_=>by simp at e
 |_::_,[],e,_=>by simp at e
 |n::ns,u::us,e,h=>by
  rw[P2,Bool.or_eq_false_iff]at h;have hn:¬n=f:=λz=>by rw[z]at h;simp at h
  show Db f y ((n,u)::ns.zip us)=(n,u)::(ns ++ [f]).zip (us ++ [y]);unfold Db;rw[if_neg hn,IL (by simpa using e) h.2]
def fE(i:Nat)(cs:List Str)(f:Str)(js:List Nat)(fe:FE):FS:=λ Δ=>match(aC js Δ)[i]? with
 |some (.lt (.obj c ns ts))=>if cs.contains c=true/\ns.contains f=false/\ns.length < 1000 then(match fe (Bn (aC js Δ)) with
  | .ok w=> .nx ((aC js Δ).set i (.lt (.obj c (ns ++ [f]) (ts ++ [.sh w.d]))))
  | .ex x=> .ex x (aC js Δ)
  | .no=> .no) else .no
 |_=> .no
section
variable{X:Cx}{EX:Bi}{pos:Pos}
def lF{i:Nat}{cs:List Str}{f x:Str}(js:List Nat){e:Expr}{fe:FE}{p1 p2:Pos}(k:cD X.K cs f)(he:ED X EX e fe)(hN:X.N[i]? =some x:=by rfl)(hv:fV X.env.scope x:=by trivial)(hd:AG x:=by decide)
  (bT:(x ==("__classdict__" :Str))=false:=by decide) (hs:swapsWith e (some (.Attribute (.Name x p1) f p2)) pos.line X.env=pure false:=by rfl):SD X EX (.Assign [.Attribute (.Name x p1) f p2] e pos) (fE i cs f js fe):=
 PS.imp (Tc (iJ hN hv hd bT) he hs) λD σ H ⟨H0,G0,G,Δ,O,E,q⟩=>by
  obtain⟨G1,O1,sg,E1⟩:=E.aC js;unfold fE at q;generalize aC js Δ=Δ1 at q E1
  split at q
  ·rename_i c ns ts e1
   split at q
   ·rename_i hc;obtain⟨yD,pd,hc3⟩:=hc;refine⟨G1,Bn Δ1,E1.st.gh,E1.iL, ?_⟩;cases e2:fe (Bn Δ1) with
    |ex y=>simp only[e2]at q;exact q σ G1 H O1 E1 sg
    |no=>simp only[e2]at q;exact q.elim
    |ok w=>
     simp only[e2]at q;refine WP.intro λv G2 H2 st r=> ?_;have E2:=E1.grow st;obtain⟨v0,s1,t⟩:=E2.ow i _ _ e1 rfl;have s2:=E2.lt i _ e1;generalize et:(Tn.obj c ns ts)=t0 at t;cases t with
     | @obj a C dx c2 ns2 us ts2 S S1 hC h hl ha sub rl=>
      injection et with PM PL PK
      subst PM PL PK;obtain⟨kc,kn⟩:=k _ yD _ hC;refine⟨_,s1,_,_,_,_,rfl,h,kc,kn,by rw[List.length_zip,<-hl,Nat.min_self];exact hc3, ?_⟩;rw[IL hl pd];have ms:=bR.write (S:=O1 i) E2.st.gh ha (E2.out i _ ha).1 (.ins C dx ((ns ++ [f]).zip (us ++ [v])));refine q σ G2 _ _ (E2.gZ (S:=O1 i) (z:=.lt _) rfl (λ_ z=>by cases z) (λ_ _=>by rw[s1]at s2⊢;exact s2) ms.weak s1 (λb hb=>⟨.inl hb,(E2.out i b hb).1,ms.al b (E2.out i b hb).2.2⟩) ?_) (sg.trans st.gg);refine .obj hC Ce (by rw[A7,A7,hl];rfl) ha sub ?_;refine aX.append (S2:=λ_=>False) (rl.mono (aA.refl _) (λb o hb z=> ?_) λ_ z=>z) (.cons (S1:=λ_=>False) (S2:=λ_=>False) (.sh r) .nil (λ_ z _=>z) (λ_ z=>z.elim) λ_ z=>z.elim) (λ_ _ z=>z) (λ_ z=>z) λ_ z=>z.elim;rw[Be (sub b hb).2];exact z
     |_=>cases et
   ·exact q.elim
  ·exact q.elim
end
section
variable{X:Cx}{EX:Bi}{e:Expr}{es:List Expr}{x:Str}{pp pos:Pos}{cc:Bool}{k k' n:Nat}{ps:List Str}{C f:Addr}{fd:FuncData}
def XZ{zd:AE}{σ:Sg}{s:Shared}{Q:VK}{vs:List V}{sp:Sp}(M:Mk X.K C f)(F:bO X.prog X.w X.K X.mg X.base cc k f fd ps sp)(hr:aE cc (k + 1) X.A)(hb:Binds X.K fd ps [])(lk:Lk X EX)(I:Inv X zd σ H s)(r:Vals vs us)
  (h:∀x dx,H x=none->H dx=none->dx≠x->sp (.ref x::vs) (upd (upd H dx (.own x)) x (.ins C dx [])) (λv H2=>v=.aJ/\Q (.ref x) H2) (pz X.K (EX σ))):wpAny (model X.prog X.w) X.A (call (.ref C) us) (EP X zd σ Q) X.xe s:=by
 have hq:=h (s.heap.objs.size + 1) s.heap.objs.size (I.aN.fresh (N5 _)) (I.aN.fresh (A9 _)) (C4 (O9 _));have I2:=Inv.made (C:=C) I;have r2:Vals (V.ref (s.heap.objs.size + 1)::vs) (Value.ref (s.heap.objs.size + 1)::us):=.cons rfl r;have hl:(Value.ref (s.heap.objs.size + 1)::us).length=ps.length:=by
  rw[<-r2.length];exact F.len _ _ _ _ hq
 have cJ:=hb _ (Value.ref (s.heap.objs.size + 1)::us) I2.bY (by rw[D9];exact hl);rw[D9]at cJ;refine U5 (Xd (f:=f) I.bY M.makes M.init (M5.mp M.fn) (R9 (F.run _ X.stack _ _ ⟨Value.ref (s.heap.objs.size + 1)::us,[]⟩ (Value.ref (s.heap.objs.size + 1)::us) _ _ _ (hr.make C us []) (I2.va.make C us []) cJ r2 hq) λr s' zT=> ?_));cases r with
 |error e=>exact lk zd σ _ _ e s' I2 zT
 |ok fl=>
  cases fl with
  |ret u=>
   obtain⟨v,H',I3,rv,ev,q3⟩:=I2.after zT;subst ev;exact⟨rv,⟨V.ref (s.heap.objs.size + 1),H',I3,rfl,q3⟩⟩
  |next=>exact False.elim zT
  |brk=>exact False.elim zT
  |cont=>exact False.elim zT
def oj(P:Program)(w:World)(K:Frag)(mg:AB)(base:Heap)(cc:Bool)(c:Str)(k n:Nat)(F:List D->R (List Str×List D)):Prop:=
 ∃C f fd ps,ClsAt K c C/\mg c=some (.ref C)/\Mk K C f/\bO P w K mg base cc k f fd ps (pF K C n F)/\Binds K fd ps []
def Gb(c:Str)(n:Nat)(F:List D->R (List Str×List D))(fa:FA):FE:=λ δ=>(fa δ).bind λds=>if ds.length=n then(F ds).bind λp=> .ok (.sh (.obj c p.1 p.2)) else .no
def GY{F:List D->R (List Str×List D)}{fa:FA}(hr:aE cc k' X.A)(lk:Lk X EX)(h:oj X.prog X.w X.K X.mg X.base cc x k n F)(ha:AD X EX (e::es) fa)(hk:k + 1<=k':=by decide)(hg:Gl X x:=by rfl)(cZ:AG x:=by decide)
  (he:starEach (e::es) X.env=(false,eval e X.env)::starEach es X.env:=by rfl) (bH:(backTo pos (starEach es X.env)).any (·.1)=false:=by rfl):ED X EX (.Call (.Name x pp) (e::es) [] pos) (Gb x n F fa):=by
 obtain⟨C,f,fd,ps,hC,hm,M,ok,hb⟩:=h;intro zd s σ H Q I q;obtain⟨G,δ,g0,s0,o⟩:=q;refine N8 (rS I hg hm ?_ cZ);have ta:dY X.K EX fa σ H λvs H1=>∃G1 ds,aA G1 H1/\aB X.K G1 vs ds/\ds.length=n/\Out X.K (EX σ) G1 H1 ((F ds).bind λp=> .ok (.sh (.obj x p.1 p.2))) Q:=by
  refine dY.seq g0 s0 o λds vs G' H' _ st r o'=> ?_
  split at o'
  ·rename_i hl;exact⟨G',ds,st.gh,r,hl,o'⟩
  ·exact o'.elim
 refine Y2 (h₀:=X.base) I.ok.mod.lZ M.kp (Bg (ha pos zd s σ H _ I ta) λus s1 ⟨vs,H1,I1,r,G1,ds,sg,rl,hl,o'⟩=>⟨I1.bY, ?_⟩) he bH;refine XZ M ok (hr.mono hk) hb lk I1 r λy dy ny ndy ne=> ?_;refine⟨y,dy,vs,H1,G1,ds,rfl,by rw[rl.length];exact hl,ny,(λb o e=>by rw[Be (En e ny),Be (En e ndy)];exact e),Ce,sg,rl, ?_⟩;cases ef:F ds with
 |ok p=>
  rw[ef]at o';intro G' H' Ou NK st gy hy zk rr;refine⟨rfl, ?_⟩;have bC:Step G1 H1 (upd G' y (.ins C NK (p.1.zip Ou))) H':=⟨st.hh,λb u z=>by
   by_cases w:b=y
   ·subst w;rw[Ce]at z;rw[hy];exact z
   ·rw[Be w]at z;exact st.gh b u z,st.gg.trans (kE gy _),λb z1 z2=>by
   have w:b≠y:=λw=>z2 (by rw[w];exact ny);rw[Be w];exact st.nw b z1 z2⟩
  exact o' _ _ _ bC (.obj hC Ce zk (rr.mono (kE gy _)))
 |ex z=>rw[ef]at o';exact bQ.in o'
 |no=>rw[ef]at o';exact o'
end
section
variable{K:Frag}{G:Hp}{a:Addr}{vs:List V}{ds:List D}
end
section
variable{X:Cx}{EX:Bi}{pos:Pos}
end
end L3
namespace L3
open PySem L2 Builtin Builtin.Str
variable{K:Frag}{fd:FuncData}{mg:AB}{us:List Value}{base:Heap}{H:Hp}{X:Cx}{pos:Pos}
def UQ{x y:Str}(h:x.cps.toList=y.cps.toList):x=y:=by
 obtain⟨a⟩:=x;obtain⟨b⟩:=y;simp only at h;have:a=b:=by
  have:=L8 List.toArray h;simpa using this
 rw[this]
def UP(x:Str):x.length=x.cps.toList.length:=by simp[Str.length]
def UO(x y:Str):(x ++ y).cps.toList=x.cps.toList ++ y.cps.toList:=by
 show(Str.append x y).cps.toList=_;simp[Str.append]
end L3
namespace L3
open PySem L2
variable{K:Frag}{fd:FuncData}{mg:AB}{us:List Value}{base:Heap}{H:Hp}{X:Cx}{pos:Pos}
def Ht(i j:Int):Dm (.int i) (.int j)=.ok (.sh (.bl (decide (i=j)))):=by
 have h:Hc (.int i) (.int j)=decide (i=j):=by
  show(i ==j)=decide (i=j);rw[Bool.beq_eq_decide_eq]
 show(if ka (.int i) (.int j)=true then R.ok (W.sh (D.bl (Hc (.int i) (.int j)))) else .no)=_;rw[if_pos (by rfl),h]
def GX(i j:Int):fP (.int i) (.int j)=.ok (.sh (.bl (!decide (i=j)))):=by
 have h:Hc (.int i) (.int j)=decide (i=j):=by
  show(i ==j)=decide (i=j);rw[Bool.beq_eq_decide_eq]
 show(if ka (.int i) (.int j)=true then R.ok (W.sh (D.bl (!Hc (.int i) (.int j)))) else .no)=_;rw[if_pos (by rfl),h]
def eU{i j:Int}(h1: -18446744073709551616 < i)(h2:i < 18446744073709551616):Hg i j=true:=E8 (.inl ())
def lr{i j:Int}(h1: -18446744073709551616 < j)(h2:j < 18446744073709551616):Hg i j=true:=E8 (.inr ())
def iQ{i j:Int}(h:Hg i j=true):Et (.int i) (.int j)=.ok (.sh (.int (i * j))):=by unfold Et intD;simp only[h,if_true]
def Ee(i j:Int):Bq (.int i) (.int j)=.ok (.sh (.int (i + j))):=rfl
def gT(i j:Int):eM (.int i) (.int j)=.ok (.sh (.int (i - j))):=rfl
def ku{i j:Int}(h1:0 < j)(h2:j < 1361129467683753853853498429727072845824):Cw (.int i) (.int j)=.ok (.sh (.int (i / j))):=by
 exact if_pos (show divC i j=true from E8 ⟨h1,by lia⟩)
def Gy{i j:Int}(h1:0 < j):Dz (.int i) (.int j)=.ok (.sh (.int (i % j))):=by
 exact if_pos (show CS i j=true from E8 h1)
def Fz(i j:Int):mE (.int i) (.int j)=.ok (.sh (.bl (decide (i < j)))):=rfl
def gK(i j:Int):lY (.int i) (.int j)=.ok (.sh (.bl (decide (i<=j)))):=rfl
def kW(i j:Int):sT (.int i) (.int j)=.ok (.sh (.bl (decide (j < i)))):=rfl
def DH(i j:Int):BB (.int i) (.int j)=.ok (.sh (.bl (decide (j<=i)))):=rfl
def Sy{x y:Str}(h:x.length + y.length<=16777216):Bq (.str x) (.str y)=.ok (.sh (.str (x ++ y))):=if_pos h
def UN{x y:List D}(h:x.length + y.length<=16777216):Bq (.lst x) (.lst y)=.ok (.ow (.lst (x ++ y))):=if_pos h
def Sx{i j:Int}(h:powC i j=true):qo (.int i) (.int j)=.ok (.sh (.int (i ^ j.toNat))):=by unfold qo intD;simp only[h,if_true]
def WB{i j:Int}(h1:0<=j)(h2:j<=1000000)(h3: -18446744073709551616 < i)(h4:i < 18446744073709551616):powC i j=true:=E8 ⟨h1,by lia,by lia⟩
def Cy(ds:List D):Bu [.lst ds]=.ok (.sh (.int ds.length)):=rfl
def WA{x:Str}(h:x.length<=16777216):Bu [.str x]=.ok (.sh (.int x.length)):=if_pos h
def nu(i j:Int):Fd [.int i,.int j]=.ok (.sh (.int (max i j))):=by
 show R.ok (W.sh (D.int (if j > i then j else i)))=_;rw[show(if j > i then j else i)=max i j by rw[Int.max_def];split <;> split <;> lia]
def nt(i j:Int):Gj [.int i,.int j]=.ok (.sh (.int (min i j))):=by
 show R.ok (W.sh (D.int (if j < i then j else i)))=_;rw[show(if j < i then j else i)=min i j by rw[Int.min_def];split <;> split <;> lia]
def Gz{ds:List D}{i:Int}{d:D}(h:dC ds i=some d):Bw (.lst ds) (.int i)=.ok (.sh d):=by unfold Bw;simp only[h]
def UM{x:Str}{i:Int}{c:Nat}(hz:x.length<=16777216)(h:dC x.cps.toList i=some c):Bw (.str x) (.int i)=.ok (.sh (.str ⟨#[c]⟩)):=by
 unfold Bw;simp only[h,if_pos hz]
def EC{α:Type}{xs:List α}{i:Int}{x:α}(h0:0<=i)(h:xs[i.toNat]? =some x):dC xs i=some x:=by
 have hl:i.toNat < xs.length:=(B4.mp h).1;unfold dC kF;rw[if_pos h0,if_pos ()];exact h
def XY(fg:FG)(g:FS)(I:Nat->SE->Prop){n:Nat}{lo:Int}{Δ:SE}(h0:I 0 Δ)
  (step:∀k Δ,k < n->I k Δ->∃Δ1,fg (.int (lo + (k:Int))) Δ=.ok Δ1/\∃Δ2,(g Δ1=.nx Δ2\/g Δ1=.ct Δ2)/\I (k + 1) Δ2):∃Δ',Cf fg g (Ca lo n) Δ=.nx Δ'/\I n Δ':=by
 have all:∀(m k:Nat) (Δ:SE),k + m=n->I k Δ->∃Δ',Cf fg g ((List.range' k m).map λ(j:Nat)=>D.int (lo + (j:Int))) Δ=.nx Δ'/\I n Δ':=by
  intro m
  induction m with
  |zero=>intro k Δ e h;exact⟨Δ,rfl,by rw[<-e];exact h⟩
  |succ m ih=>
   intro k Δ e h;obtain⟨Δ1,e1,Δ2,e2,h2⟩:=step k Δ () h;obtain⟨Δ',e3,h3⟩:=ih (k + 1) Δ2 () h2;refine⟨Δ', ?_,h3⟩;rw[List.range'_succ,B1];show(match fg (.int (lo + (k:Int))) Δ with
    | .ok Δ1=>(match g Δ1 with
     | .nx Δ2=>Cf fg g _ Δ2
     | .ct Δ2=>Cf fg g _ Δ2
     | .bk Δ2=> .nx Δ2
     |r=>r)
    | .ex _=> .no
    | .no=> .no)=_
   rw[e1];rcases e2 with e2|e2
   ·simp only[e2];exact e3
   ·simp only[e2];exact e3
 obtain⟨Δ',e,h⟩:=all n 0 Δ () h0;refine⟨Δ', ?_,h⟩;unfold Ca;rw[List.range_eq_range'];exact e
def pJ(fg:FG)(g:FS)(I:Nat->SE->Prop){ds:List D}{Δ:SE}(h0:I 0 Δ)
  (step:∀k d Δ,ds[k]? =some d->I k Δ->∃Δ1,fg d Δ=.ok Δ1/\∃Δ2,(g Δ1=.nx Δ2\/g Δ1=.ct Δ2)/\I (k + 1) Δ2):∃Δ',Cf fg g ds Δ=.nx Δ'/\I ds.length Δ':=by
 have all:∀(m k:Nat) (Δ:SE),k + m=ds.length->I k Δ->∃Δ',Cf fg g (ds.drop k) Δ=.nx Δ'/\I ds.length Δ':=by
  intro m
  induction m with
  |zero=>
   intro k Δ e h;rw[V0 ()];exact⟨Δ,rfl,by rw[<-e];exact h⟩
  |succ m ih=>
   intro k Δ e h;obtain⟨d,d1,d2⟩:=lL (l:=ds) (i:=k) ();obtain⟨Δ1,e1,Δ2,e2,h2⟩:=step k d Δ d1 h;obtain⟨Δ',e3,h3⟩:=ih (k + 1) Δ2 () h2;refine⟨Δ', ?_,h3⟩;rw[d2];show(match fg d Δ with
    | .ok Δ1=>(match g Δ1 with
     | .nx Δ2=>Cf fg g (ds.drop (k + 1)) Δ2
     | .ct Δ2=>Cf fg g (ds.drop (k + 1)) Δ2
     | .bk Δ2=> .nx Δ2
     |r=>r)
    | .ex _=> .no
    | .no=> .no)=_
   rw[e1];rcases e2 with e2|e2
   ·simp only[e2];exact e3
   ·simp only[e2];exact e3
 have:=all ds.length 0 Δ () h0
 rwa[List.drop_zero]at this
def lU{j:Int}(h1: -4611686018427387903<=j)(h2:j < 4611686018427387904):Cn [.int j]=.ok (Ca 0 j.toNat):=by
 have h:j.natAbs < 4611686018427387904:=by lia
 exact if_pos h
def Ho{m:Nat}{fi:FI}{fg:Gw}{p:FT}{f:FE}{δ:DE}{ds rs:List D}(h:fi δ=.ok ds)(hl:ds.length<=16777216)(hc:fG fg p f (δ ++ List.replicate m none) ds=.ok rs):By m fi fg p f δ=.ok (.ow (.lst rs)):=by
 unfold By;rw[h];simp only[R.aI];rw[if_pos hl,hc];rfl
def DG{fg:Gw}{p:FT}{f:FE}{δ:DE}:∀(n:Nat) (lo:Int),(∀k:Nat,k < n->∃δ1 z,fg (.int (lo + (k:Int))) δ=.ok δ1/\p δ1=.ok true/\f δ1=.ok (.sh (.int z)))->
  ∃cs:List Int,cs.length=n/\fG fg p f δ (Ca lo n)=.ok (cs.map D.int):=by
 have all:∀(es:List Nat) (lo:Int),(∀k∈es,∃δ1 z,fg (.int (lo + ((k:Nat):Int))) δ=.ok δ1/\p δ1=.ok true/\f δ1=.ok (.sh (.int z)))->
   ∃cs:List Int,cs.length=es.length/\fG fg p f δ (es.map λ(k:Nat)=>D.int (lo + (k:Int)))=.ok (cs.map D.int):=by
  intro es lo
  induction es with
  |nil=>intro _;exact⟨[],rfl,rfl⟩
  |cons k es ih=>
   intro h;obtain⟨δ1,z,e1,e2,e3⟩:=h k L4;obtain⟨cs,l5,e5⟩:=ih λj hj=>h j (D5 _ hj);refine⟨z::cs,by simp[l5], ?_⟩;rw[B1,B1];show((fg (.int (lo + (k:Int))) δ).bind λ δ1=>(p δ1).bind λb=>if b=true then(f δ1).bind λw=>(fG fg p f δ _).bind λrs=> .ok (w.d::rs) else fG fg p f δ _)=_;rw[e1];simp only[R.aI,e2,if_true,e3];rw[e5];rfl
 intro n lo h;obtain⟨cs,l,e⟩:=all (List.range n) lo λk hk=>h k (K7.mp hk);exact⟨cs,by rw[l,K4],e⟩
def mD{js:List Nat}{p:FT}{g:FS}{n:Nat}{Δ Δ':SE}(h1:p (Az Δ)=.ok true)(h2:g Δ=.nx Δ'):Do js p g (n + 1) Δ=Do js p g n Δ':=by
 show(match p (Az Δ) with
  | .ok b=>if b=true then(match g Δ with
    | .nx Δ'=>Do js p g n Δ'
    | .ct Δ'=>Do js p g n Δ'
    | .bk Δ'=> .nx Δ'
    |r=>r) else .nx Δ
  | .ex _=>uD js p Δ
  | .no=> .no)=_
 rw[h1];simp only[if_true,h2]
def nZ{js:List Nat}{p:FT}{g:FS}{n:Nat}{Δ:SE}(h1:p (Az Δ)=.ok false):Do js p g (n + 1) Δ=.nx Δ:=by
 show(match p (Az Δ) with
  | .ok b=>if b=true then(match g Δ with
    | .nx Δ'=>Do js p g n Δ'
    | .ct Δ'=>Do js p g n Δ'
    | .bk Δ'=> .nx Δ'
    |r=>r) else .nx Δ
  | .ex _=>uD js p Δ
  | .no=> .no)=_
 rw[h1];simp only[C8,F3]
def EB(d:D):Sl.mB (.sh d)=some d:=rfl
def Sw(d:D):Sl.mB (.ow d)=none:=rfl
def Sv:Sl.mB .no=none:=rfl
def Su(d:D):Sl.any (.sh d)=some d:=rfl
def Ss(d:D):Sl.any (.ow d)=some d:=rfl
def Sr:Sl.any .no=none:=rfl
def UL(d:D):Sl.give (.sh d)=.sh d:=rfl
def UK(d:D):Sl.give (.ow d)=.sh d:=rfl
def UJ:Sl.give .no=.no:=rfl
def Ba{g h:FS}{Δ Δ':SE}(e:g Δ=.nx Δ'):Af g h Δ=h Δ':=by unfold Af;rw[e]
def fR{n:Nat}{g:FS}{ds:List D}{w:W}(e:g (Av n ds)=.rt w):Al n g ds=.ok w:=by unfold Al;rw[e]
theorem su{fg:Gw}{p:FT}{f:FE}{δ:DE}(P:D->Bool)(F:D->D):∀(ds:List D),(∀d∈ds,∃δ1,fg d δ=.ok δ1/\p δ1=.ok (P d)/\(P d=true->∃w,f δ1=.ok w/\w.d=F d))->
  fG fg p f δ ds=.ok ((ds.filter P).map F)
 | [],_=>rfl
 |d::ds,h=>by
  obtain⟨δ1,e1,e2,e3⟩:=h d L4;have ih:=su P F ds λx hx=>h x (D5 _ hx);show((fg d δ).bind λ δ1=>(p δ1).bind λb=>if b=true then(f δ1).bind λw=>(fG fg p f δ ds).bind λrs=> .ok (w.d::rs) else fG fg p f δ ds)=_;rw[e1];simp only[R.aI,e2];cases hP:P d with
  |true=>
   obtain⟨w,e4,e5⟩:=e3 hP;rw[if_pos rfl,e4,ih];simp only[R.aI,e5,List.filter_cons_of_pos hP,B1]
  |false=>
   rw[if_neg A6,ih,List.filter_cons_of_neg (by rw[hP];exact A6)]
def lX{fg:Gw}{f:FE}{δ:DE}(F:D->D)(ds:List D)(h:∀d∈ds,∃δ1 w,fg d δ=.ok δ1/\f δ1=.ok w/\w.d=F d):
  fG fg (λ_=> .ok true) f δ ds=.ok (ds.map F):=by
 have:=su (fg:=fg) (p:=λ_=> .ok true) (f:=f) (δ:=δ) (λ_=>true) F ds λd hd=>by
  obtain⟨δ1,w,e1,e2,e3⟩:=h d hd;exact⟨δ1,e1,rfl,λ_=>⟨w,e2,e3⟩⟩
 rw[this,List.filter_eq_self.mpr λ_ _=>rfl]
def ZP:Dq "int" .aJ=some false:=rfl
def Zc(b:Bool):Dq "int" (.bl b)=some true:=rfl
def ZO(i:Int):Dq "int" (.int i)=some true:=rfl
def ZN(x:Str):Dq "int" (.str x)=some false:=rfl
def ZM(l:List D):Dq "int" (.lst l)=some false:=rfl
def ZL(l:List D):Dq "int" (.tup l)=some false:=rfl
def aaj:Dq "bool" .aJ=some false:=rfl
def ZK(b:Bool):Dq "bool" (.bl b)=some true:=rfl
def aai(i:Int):Dq "bool" (.int i)=some false:=rfl
def aah(x:Str):Dq "bool" (.str x)=some false:=rfl
def aag(l:List D):Dq "bool" (.lst l)=some false:=rfl
def aaf(l:List D):Dq "bool" (.tup l)=some false:=rfl
def ZJ:Dq "str" .aJ=some false:=rfl
def Zb(b:Bool):Dq "str" (.bl b)=some false:=rfl
def ZI(i:Int):Dq "str" (.int i)=some false:=rfl
def ZH(x:Str):Dq "str" (.str x)=some true:=rfl
def ZG(l:List D):Dq "str" (.lst l)=some false:=rfl
def ZF(l:List D):Dq "str" (.tup l)=some false:=rfl
def aae:Dq "list" .aJ=some false:=rfl
def ZE(b:Bool):Dq "list" (.bl b)=some false:=rfl
def aad(i:Int):Dq "list" (.int i)=some false:=rfl
def aac(x:Str):Dq "list" (.str x)=some false:=rfl
def aab(l:List D):Dq "list" (.lst l)=some true:=rfl
def aaa(l:List D):Dq "list" (.tup l)=some false:=rfl
def aaD:Dq "tuple" .aJ=some false:=rfl
def Z'(b:Bool):Dq "tuple" (.bl b)=some false:=rfl
def aaC(i:Int):Dq "tuple" (.int i)=some false:=rfl
def aaB(x:Str):Dq "tuple" (.str x)=some false:=rfl
def aaA(l:List D):Dq "tuple" (.lst l)=some false:=rfl
def aaz(l:List D):Dq "tuple" (.tup l)=some true:=rfl
end L3
namespace L3
open PySem PySem.Spec PyProof.Rows L2
variable{K:Frag}{fd:FuncData}{mg:AB}{us:List Value}{base:Heap}{H:Hp}{X:Cx}{pos:Pos}
def qG:List Value->Bool
 | .ref _::r=>qG r
 |l=>l == [.type "ValueError",.type "Exception",.type "BaseException",.type "object"]
theorem LP(self:Value):∀{l:List Value},qG l=true->refuseLoop self "__setattr__" l=pure .unit
 | [],e=>by cases e
 | .ref c::r,e=>by rw[refuseLoop_ref];exact LP self e
 | .type n::r,e=>by
  have e':(Value.type n::r)= [.type "ValueError",.type "Exception",.type "BaseException",.type "object"]:=eq_of_beq e;rw[e'];exact PySem.F.store_ValueError.passes self
 | .none::r,e=>by cases(eq_of_beq (show((Value.none::r) == [.type "ValueError",.type "Exception",.type "BaseException",.type "object"])=true from e))
 | .bool b::r,e=>by cases(eq_of_beq (show((Value.bool b::r) == [.type "ValueError",.type "Exception",.type "BaseException",.type "object"])=true from e))
 | .int b t::r,e=>by cases(eq_of_beq (show((Value.int b t::r) == [.type "ValueError",.type "Exception",.type "BaseException",.type "object"])=true from e))
 | .str b t::r,e=>by cases(eq_of_beq (show((Value.str b t::r) == [.type "ValueError",.type "Exception",.type "BaseException",.type "object"])=true from e))
 | .builtin b::r,e=>by cases(eq_of_beq (show((Value.builtin b::r) == [.type "ValueError",.type "Exception",.type "BaseException",.type "object"])=true from e))
theorem Kk:∀{l:List Value},qG l=true->l.contains (.type "object")=true/\l.isEmpty=false
 | [],e=>by cases e
 | .ref c::r,e=>⟨by rw[P2,(Kk (l:=r) e).1,Qj],rfl⟩
 | .type n::r,e=>by
  have e':(Value.type n::r)= [.type "ValueError",.type "Exception",.type "BaseException",.type "object"]:=eq_of_beq e;rw[e'];exact⟨by decide,rfl⟩
 | .none::r,e=>by cases(eq_of_beq (show((Value.none::r) == [.type "ValueError",.type "Exception",.type "BaseException",.type "object"])=true from e))
 | .bool b::r,e=>by cases(eq_of_beq (show((Value.bool b::r) == [.type "ValueError",.type "Exception",.type "BaseException",.type "object"])=true from e))
 | .int b t::r,e=>by cases(eq_of_beq (show((Value.int b t::r) == [.type "ValueError",.type "Exception",.type "BaseException",.type "object"])=true from e))
 | .str b t::r,e=>by cases(eq_of_beq (show((Value.str b t::r) == [.type "ValueError",.type "Exception",.type "BaseException",.type "object"])=true from e))
 | .builtin b::r,e=>by cases(eq_of_beq (show((Value.builtin b::r) == [.type "ValueError",.type "Exception",.type "BaseException",.type "object"])=true from e))
structure dW(K:Frag)(C:Addr):Prop where
 sa:findIn K (.ref C) "__setattr__" =some (some (.builtin "object.__setattr__"))
 over:(clsIn K C).any (λcd=>qG cd.mro && cd.hasDict)=true
section
variable{prog:Program}{w:World}{A:Around}{E:AA}{s:Shared}{K:Frag}{x C:Addr}{R:Result->Shared->Prop}
def UI{ox:Obj}{od:Option Obj}{name:Str}{tk:Tok}{v:Value}(X:K.In s.heap)(I:InstAt s.heap x ox C od)(xc:dW K C)(ha:findIn K (.ref C) name=some none)
  (h:wpAny (model prog w) A.in1 (Builtin.ObjectAttr.storeInOwnDict (.ref x) (.ref C) (.str name tk) name v false)
   (λfin s'=>match fin with| .done f=>R (.ok f) s'| .again c'=>c'.quiet=true/\codeAny (model prog w) A c' R s') (λe s'=>R (.error e) s') s):
  codeAny (model prog w) A (.call (.builtin "object.__setattr__") ⟨[.ref x,.str name tk,v],[]⟩) R s:=by
 have SF:=PySem.F.store_object;obtain⟨cd,hc,ho⟩:=any_some xc.over;rw[C9]at ho;obtain⟨ma,dZ⟩:=Kk ho.1;have sub:Looks (model prog w) s.heap (isInstance (.ref x) (.type "object")) true:=I.type.andThen (looks_mroIn X (by unfold mroIn;rw[hc,Option.bind_some,if_neg (by rw[dZ];decide),ma]));refine X4 SF.slot.plain SF.entry (@check_slot (model prog w) _ _ s "object.__setattr__" "object" "__setattr__" (.ref x) [.str name tk,v] [] _ SF.kind SF.split sub (SF.args (.ref x) (.str name tk) v) ?_);have hm:Looks (model prog w) s.heap (mroOf (.ref C)) cd.mro:=(Qo X hc).andThen .now;rw[osa_eq,refuse_eq];refine A4 (A4 (I.type.here (A4 (hm.here ?_))));rw[LP _ ho.1];refine D0 (A4 (I.type.here (A4 ((X9 X ha).here (A4 (D0 (a:=(none:Option Value)) ?_))))));exact h
def XX{D:Addr}{name:Str}{tk:Tok}{v:Value}{Q:PySem.Fin->Shared->Prop}(hD:s.heap.get? D=some {cls:=.type "dict",data:=.dict #[]})
  (h:∀h' tk,h'.Ns1 D (λy=>if y=name then some v else none)->Heap.SameBut D s.heap h'->Q (.done (.ret .none)) {s with heap:=h',toks:=tk}):wpAny (model prog w) A (Builtin.ObjectAttr.storeInDict D (.str name tk) name v) Q E s:=by
 have dm:s.heap.Ns D λ_=>none:=⟨_, #[],_,hD,rfl,λ_ he=>(Array.not_mem_empty _ he).elim,λ_=>rfl⟩;unfold Builtin.ObjectAttr.storeInDict Builtin.ObjectAttr.newKeyGuard
 wp_walk using wpAny_nsSet1 (Heap.Ns1.of_empty dm)
 intro h' n sb;obtain⟨o,es,ep,NL,is1,BH⟩:=n.count (.cons name v .nil);have le:es.size<=sizeLine + 1:=D4 BH (by simp[F0]);exact A4 (wpAny_lookBehind NL (is1▸pastItsLine_dict le) (D0 (h h' _ n sb)))
def ZD{name:Str}{v:Value}{us:Array Value}{Q:Unit->Shared->Prop}(X:K.In s.heap)(hx:s.heap.get? x=some ⟨.ref C,none,.fields us, #[]⟩)(xc:dW K C)(ha:findIn K (.ref C) name=some none)
  (h:∀h' tk,h'.get? x=some ⟨.ref C,some s.heap.objs.size,.fields us, #[]⟩->h'.Ns1 s.heap.objs.size (λy=>if y=name then some v else none)->(∀b o,b≠x->s.heap.get? b=some o->h'.get? b=some o)->Q .unit {s with heap:=h',toks:=tk}):
  wpAny (model prog w) A (setAttr (.ref x) name v) Q E s:=by
 have I:InstAt s.heap x ⟨.ref C,none,.fields us, #[]⟩ C none:=⟨hx,rfl,rfl,True.intro⟩;refine set_plain X I xc.sa (UI (s:={s with toks:=s.toks + 1}) X I xc ha ?_);obtain⟨cd,hc,yC⟩:=any_some xc.over;rw[C9]at yC;refine A4 (D0 (A4 (A4 (wpAny_loadPart (s:={s with toks:=s.toks + 1}) hx (A4 (NR (s:={s with toks:=s.toks + 1}) (Qo X hc) ?_))))));rw[yC.2]
 
 have fP:x≠s.heap.objs.size:=C4 (A8 hx);have old:∀b o,b≠x->s.heap.get? b=some o->((s.heap.push {cls:=.type "dict",data:=.dict #[]}).update x λo=>{o with dict:=some s.heap.objs.size}).get? b=some o:=λb o hb e=>by
  rw[Heap.get?_update_ne _ _ _ _ hb];exact A5 _ e
 have itself:=P5 (λo:Obj=>{o with dict:=some s.heap.objs.size}) (A5 {cls:=.type "dict",data:=.dict #[]} hx) rfl;have isD:((s.heap.push {cls:=.type "dict",data:=.dict #[]}).update x λo=>{o with dict:=some s.heap.objs.size}).get? s.heap.objs.size=some {cls:=.type "dict",data:=.dict #[]}:=by
  rw[Heap.get?_update_ne _ _ _ _ (Ne.symm fP)];exact C5 _ rfl
 refine A4 (wpAny_alloc' (A4 (wpAny_update' (A5 _ hx) (D0 (XX isD λh' tk n sb=>h h' tk ?_ n λb o hb e=> ?_)))))
 ·rw[sb.2 x fP];exact itself
 ·rw[sb.2 b (C4 (A8 e))];exact old b o hb e
end
def XE(a:Addr)(o:Obj):HO:=.ext λh=>h.get? a=some o
def XE.ok{P:Program}{w:World}{h:Heap}{a:Addr}{o:Obj}(e:h.get? a=some o):aY P w H h a (XE a o):=⟨e,⟨o,e⟩,λ_ _ p k=>k _ p⟩
theorem XE.get{P:Program}{w:World}{h:Heap}{a:Addr}{o:Obj}(x:cH P w H h)(e:H a=some (XE a o)):h.get? a=some o:=(x a _ e).1
def XO.ok{P:Program}{w:World}{h:Heap}{a C:Addr}{dx:Option Addr}{us:Array Value}{sl:Array (Option Value)}(e:h.get? a=some ⟨.ref C,dx,.fields us,sl⟩)(c2:us[2]? =some .none):aY P w H h a (XO a C dx):=
 ⟨⟨us,sl,e,c2⟩,⟨_,e⟩,λ_ _ ⟨us,sl,p,c⟩ k=>⟨us,sl,k _ p,c⟩⟩
section
variable{X:Cx}{zd:AE}{σ:Sg}{H:Hp}{s:Shared}
def Inv.xZ{a:Addr}{o0 o1:Obj}{h':Heap}{t':Nat}{fs:List (Str×V)}{mA:AB}(I:Inv X zd σ H s)(e:H a=some (XE a o0))(hx:h'.get? a=some o1)(hn:h'.Ns1 s.heap.objs.size mA)(hr:∀f,bJ (fs.lookup f) (mA f))
  (k:∀b o,b≠a->s.heap.get? b=some o->h'.get? b=some o):Inv X zd σ (upd (upd H s.heap.objs.size (.xd fs)) a (XE a o1)) {s with heap:=h',toks:=t'}:=by
 have hf:H s.heap.objs.size=none:=I.aN.fresh (A9 _);have other:∀b u,H b=some u->b≠a->(upd (upd H s.heap.objs.size (.xd fs)) a (XE a o1)) b=some u:=λb u q n=>by
  rw[Be n,Be (En q hf)];exact q
 refine I.un (h':=h') ⟨λb o q n _ _=>k b o (λz=>by subst z;rw[e]at n;cases n) q,λb o q n _ _=>⟨o.slots,k b o (λz=>by subst z;rw[e]at n;cases n) q⟩,λb o q n _=> ?_,λb o q _=> ?_,λb xs q=> ?_,λb o u q=> ?_,λb ps q=> ?_⟩ λb u q=> ?_
 ·rw[Be (λz=>by subst z;rw[e]at n;cases n),Be (C4 (A8 q))];exact n
 ·by_cases z:b=a
  ·subst z;exact⟨_,hx⟩
  ·exact⟨_,k b o z q⟩
 ·exact other b _ q λz=>by subst z;rw[e]at q;cases q
 ·exact other b _ q λz=>by subst z;rw[e]at q;cases q
 ·exact⟨#[],by rw[other b _ q λz=>by subst z;rw[e]at q;cases q];simp⟩
 ·by_cases z:b=a
  ·subst z;rw[Ce]at q;cases q;exact XE.ok hx
  ·rw[Be z]at q
   by_cases z2:b=s.heap.objs.size
   ·subst z2;rw[Ce]at q;cases q;exact⟨mA,hn,hr⟩
   ·rw[Be z2]at q;refine(I.aN b u q).cO (λc v hc z3=>k c v ?_ z3) (λc z3=>other c _ z3 λz4=> ?_) (λc xs z3=>other c _ z3 λz4=> ?_) λc o z3=>other c _ z3 λz4=> ?_
    ·rcases hc with rfl|hc
     ·exact z
     ·exact λz4=>by subst z4;rw[e]at hc;cases hc
    ·subst z4;rw[e]at z3;cases z3
    ·subst z4;rw[e]at z3;cases z3
    ·subst z4;rw[e]at z3;cases z3
def Inv.forget{a:Addr}{φ:Heap->Prop}(I:Inv X zd σ (upd H a (.ext φ)) s)(hn:H a=none):Inv X zd σ H s:=by
 have sub:∀b u,H b=some u->upd H a (.ext φ) b=some u:=λb u e=>by rw[Be (En e hn)];exact e
 have nf:∀b,upd H a (.ext φ) b=none->H b=none:=λb e=>by
  by_cases z:b=a
  ·subst z;exact hn
  ·rw[Be z]at e;exact e
 have bk:∀b u,upd H a (.ext φ) b=some u->(∀ψ,u≠ .ext ψ)->H b=some u:=λb u e n=>by
  by_cases z:b=a
  ·subst z;rw[Ce]at e;cases e;exact absurd rfl (n φ)
  ·rw[Be z]at e;exact e
 have B:=I.base;refine⟨I.ok,I.os,I.bare,⟨B.keep,B.slot,λb u q n x=>nf b (B.free b u q n x),B.there,λb xs q=>bk _ _ (B.cN b xs q) (λ_ z=>nomatch z),λb u v q=>bk _ _ (B.cK b u v q) (λ_ z=>nomatch z),λb ps q=> ?_⟩,I.loc,I.cell,nf _ I.free,λx c e=>nf _ (I.bD x c e),λp hp=> ?_,λb u e=> ?_,I.len⟩
 ·obtain⟨more,z⟩:=B.cC b ps q;exact⟨more,bk _ _ z (λ_ z=>nomatch z)⟩
 ·obtain⟨p1,p2,p3⟩:=I.pin p hp;exact⟨p1,nf _ p2,p3⟩
 ·exact(I.aN b u (sub b u e)).cO (λ_ _ _ q=>q) (λc q=>bk _ _ q (λ_ z=>nomatch z)) (λc xs q=>bk _ _ q (λ_ z=>nomatch z)) λc o q=>bk _ _ q (λ_ z=>nomatch z)
end
def jx(C:Addr)(f:Str):Sp:=λvs H Q _=>∃a v us,vs= [.ref a,v]/\H a=some (XE a ⟨.ref C,none,.fields us, #[]⟩)/\∀d,H d=none->d≠a->Q .aJ (upd (upd H d (.xd [(f,v)])) a (XE a ⟨.ref C,some d,.fields us, #[]⟩))
section
variable{X:Cx}{C:Addr}{f:Str}{pos pos' p1 p2:Pos}{x y:Str}
def DF(C:Addr)(f:Str):TS:=λD σ H=>∃a v us,σ[0]? =some (some (.ref a))/\σ[1]? =some (some v)/\H a=some (XE a ⟨.ref C,none,.fields us, #[]⟩)/\∀d,H d=none->d≠a->D.nx σ (upd (upd H d (.xd [(f,v)])) a (XE a ⟨.ref C,some d,.fields us, #[]⟩))
def vW(xc:dW X.K C)(hn:findIn X.K (.ref C) f=some none)(ho:PE X (.Name x p1) (uR 0))(hv:PE X (.Name y p2) (uR 1))(hs:swapsWith (.Name y p2) (some (.Attribute (.Name x p1) f pos')) pos.line X.env=pure false:=by rfl):
  PS X (.Assign [.Attribute (.Name x p1) f pos'] (.Name y p2) pos) (DF C f):=by
 intro zd s σ H D I h;obtain⟨a,v,us,e0,e1,ha,q⟩:=h;refine W1 (Bg (hv zd s σ H (λy H1=>y=v/\H1=H) I ⟨v,e1,rfl,rfl⟩) λu s1 ⟨y,H1,I1,ry,ey,eH⟩=>Bg (ho zd s1 σ H1 (λy H2=>y=.ref a/\H2=H) I1 ⟨.ref a,e0,rfl,eH⟩) λov s2 ⟨x,H2,I2,rx,ex,eH2⟩=> ?_) hs;subst ey ex eH eH2;obtain rfl:ov=Value.ref a:=rx;refine ZD I2.bY (XE.get I2.aN ha) xc hn λh' tk g1 g2 g3=> ?_;refine⟨σ,_,Inv.xZ I2 (t':=tk) (fs:=[(f,y)]) ha g1 g2 (λg=> ?_) g3,q _ (I2.aN.fresh (A9 _)) ?_⟩
 ·show bJ ([(f,y)].lookup g) (if g=f then some u else none)
  by_cases z:g=f
  ·subst z;rw[if_pos rfl];simp only[K6,P0];exact ry
  ·rw[if_neg z];have zb:(g ==f)=false:=by simpa using z
   simp only[K6,zb,List.lookup_nil]
   trivial
 ·exact Y0 (A8 (XE.get I2.aN ha))
end
abbrev gH:List Value:=[.type "ValueError",.type "Exception",.type "BaseException",.type "object"]
def oN(es:Array DictEntry):Bool:=es.toList.all λe=>match e.key with| .str _ _=>true|_=>false
def Za{es:Array DictEntry}(h:oN es=true):StrKeys es:=λe he=>by
 have q:=F8.mp h e (Array.mem_toList_iff.mpr he);revert q;cases hk:e.key with
 |str n t=>intro _;exact⟨n,t,rfl⟩
 |_=>intro q;cases q
def qz{N:Addr}{oc:Value}{od:Option Addr}{es:Array DictEntry}{ep:Nat}{sl:Array (Option Value)}(l:K.lookup N=some ⟨oc,od,.dict es ep,sl⟩)(k:oN es=true){h:Heap}(X:K.In h):h.Ns N (nsFind es):=
 ⟨_,es,ep,X _ _ l,rfl,Za k,λ_=>rfl⟩
def Qz(K:Frag)(C fI:Addr):Prop:=∃(nm q:Str) (N:Addr) (bs bm:List Value) (sn:List Str) (sub:List Value) (ab:Bool) (col:Option Bool) (dd:Option Addr) (k0 k1 k2 k3 k5:Option Value) (mN:AB),
 K.lookup C=some (excClassObj nm q C N bs bm true sn sub ab col dd k0 k1 k2 k3 k5 "ValueError.__new__")/\(∀h:Heap,K.In h->OwnTail h gH bm)/\(∀h:Heap,K.In h->h.Ns N mN)/\mN "__init__" =some (.ref fI)
def Sq{C fI N L:Addr}{nm q:Str}{bs:List Value}{sn:List Str}{sub:List Value}{ab:Bool}{col:Option Bool}{dd:Option Addr}{k0 k1 k2 k3 k5:Option Value}{oc c0 oL:Value}{od uI tZ:Option Addr}{es jo:Array DictEntry}{ep uE:Nat}{sl tW tU:Array (Option Value)}{cd:ClassData}
  (lc:K.lookup C=some (excClassObj nm q C N bs (.ref L::gH) true sn sub ab col dd k0 k1 k2 k3 k5 "ValueError.__new__")) (ln:K.lookup N=some ⟨oc,od,.dict es ep,sl⟩) (kn:oN es=true) (hi:nsFind es "__init__" =some (.ref fI))
  (ll:K.lookup L=some ⟨c0,uI,.cls cd,tW⟩) (lm:K.lookup cd.ns=some ⟨oL,tZ,.dict jo uE,tU⟩) (km:oN jo=true) (hL:nsFind jo "__init__" =none):Qz K C fI:=
 ⟨nm,q,N,bs,_,sn,sub,ab,col,dd,k0,k1,k2,k3,k5,nsFind es,lc,λh X=> .own (X _ _ ll) (qz lm km X) hL .base,λh X=>qz ln kn X,hi⟩
def UH{C N L:Addr}{nm q:Str}{bs:List Value}{sn:List Str}{sub:List Value}{ab:Bool}{col:Option Bool}{dd:Option Addr}{k0 k1 k2 k3 k5:Option Value}
  (lc:K.lookup C=some (excClassObj nm q C N bs (.ref L::gH) true sn sub ab col dd k0 k1 k2 k3 k5 "ValueError.__new__")) (sa:findIn K (.ref C) "__setattr__" =some (some (.builtin "object.__setattr__"))):dW K C:=
 ⟨sa,by unfold clsIn;rw[lc];rfl⟩
def vV{c:Bool}{P:Program}{w:World}{x qual sf at_ fl:Str}{st:Stmt}{f C:Addr}{k:Nat}(F:bI K x qual st f fd)(S:bA [sf,at_] [sf,at_] (Cr st))
  (zj:∀(zp:Value) (A:Around) (outer:List Env) (s:Shared) (H:Hp) (E:XK),fW (Fx c P w K mg base [sf,at_] qual (Cr st) f zp A outer s H E) (Gk st) (DF C fl)):bO P w K mg base c (k + 1) f fd [sf,at_] (jx C fl):=by
 refine bI.OJ F S (λvs H Q E h=> ?_) λzp A outer s H vs Q E hr h=>⟨_,zj zp A outer s H E, ?_⟩
 ·obtain⟨a,v,us,rfl,_⟩:=h;rfl
 ·obtain⟨a,v,us,rfl,ha,q⟩:=h;exact⟨a,v,us,rfl,rfl,ha,q⟩
theorem wV{h:Heap}:∀{bm:List Value},OwnTail h gH bm->bm.contains (.type "BaseException")=true
 |_,.base=>by decide
 |_,.own _ _ _ t=>by rw[P2,wV t,Qj]
structure XC(P:Program)(w:World)(K:Frag)(mg:AB)(base:Heap)(c:Str)(f:Str)(C:Addr):Prop where
 at_:ClsAt K c C
 glob:mg c=some (.ref C)
 kp:keepIn K (.ref C)=true
 xc:dW K C
 made:∃(fI:Addr) (fd:FuncData) (ps:List Str) (oI:Obj),Qz K C fI/\K.lookup fI=some oI/\oI.cls=.type "function" /\bO P w K mg base false 1 fI fd ps (jx C f)/\Binds K fd ps []
section
variable{X:Cx}{zd:AE}{σ:Sg}{H:Hp}{s:Shared}{C:Addr}{c f:Str}
def Wz{e d:Addr}{o0 o1 x:HO}:upd (upd (upd H e o0) d x) e o1=upd (upd H d x) e o1:=by
 funext b
 unfold upd
 by_cases z:b=e
 ·rw[if_pos z,if_pos z]
 ·rw[if_neg z,if_neg z,if_neg z]
def XU{u:Value}{v:V}{Q:AA}{E:AA}(M:XC X.prog X.w X.K X.mg X.base c f C)(hr:aE false 2 X.A)(I:Inv X zd σ H s)(r:RelV v u)
  (h:∀a d t s',H a=none->H d=none->d≠a->s.heap.objs.size<=a->Inv X zd σ (upd (upd H d (.xd [(f,v)])) a (XE a ⟨.ref C,some d,.fields #[.ref t,.none,.none,.none,.bool false,.none], #[]⟩)) s'->Q (.ref a) s'):
  wpAny (model X.prog X.w) X.A (call (.ref C) [u]) Q E s:=by
 obtain⟨fI,fd,ps,oI,⟨nm,q,N,bs,bm,sn,sub,ab,col,dd,k0,k1,k2,k3,k5,mN,lc,tl,hn,hi⟩,lI,hI,F,hb⟩:=M.made;have KX:=I.bY;obtain⟨hh,g,dr,tk,os⟩:=s;refine WV Y7 (tl hh KX) (KX _ _ lc) (hn hh KX) hi (KX _ _ lI) hI (λh' e me ze=> ?_) (by show 1<=sizeLine;rw[F0];lia);obtain⟨kk,new,t,et,_,_⟩:=me;have I2:Inv X zd σ (upd H e (XE e ⟨.ref C,none,.fields #[.ref t,.none,.none,.none,.bool false,.none], #[]⟩)) ⟨h',g,dr,tk,os⟩:=I.laid (h':=h') (t':=tk) kk ze (XE.ok et);have he:H e=none:=I.aN.fresh ze;have r2:Vals [.ref e,v] [.ref e,u]:=.cons rfl (.cons r .nil);have sp:jx C f [.ref e,v] (upd H e (XE e ⟨.ref C,none,.fields #[.ref t,.none,.none,.none,.bool false,.none], #[]⟩)) (λy H2=>y=.aJ/\∃d,H d=none/\d≠e/\H2=upd (upd H d (.xd [(f,v)])) e (XE e ⟨.ref C,some d,.fields #[.ref t,.none,.none,.none,.bool false,.none], #[]⟩)) (λ_ _ _=>False):=
  ⟨e,v,_,rfl,Ce,λd hd ne=>⟨rfl,d,by rw[Be ne]at hd;exact hd,ne,Wz⟩⟩
 have hl: [Value.ref e,u].length=ps.length:=F.len _ _ _ _ sp;have cJ:=hb ⟨h',g,dr,tk,os⟩ [.ref e,u] I2.bY (by rw[D9];exact hl);rw[D9]at cJ;refine U5 (R9 (F.run _ X.stack _ _ ⟨[.ref e,u],[]⟩ [.ref e,u] [.ref e,v] _ _ (hr.make C [u] []) (I2.va.make C [u] []) cJ r2 sp) λr s' hq=> ?_);cases r with
 |error x=>
  obtain⟨a,C',dx,T,H',_,_,_,_,_,_,_,_,_,_,z⟩:=hq;exact z.elim
 |ok fl=>
  cases fl with
  |ret y=>
   obtain⟨v',H',I3,rv,ev,d,hd,ne,eH⟩:=I2.after hq;subst ev eH;exact⟨rv,h e d t s' he hd ne ze I3⟩
  |next=>exact False.elim hq
  |brk=>exact False.elim hq
  |cont=>exact False.elim hq
def QD(X:Cx)(EX:Bi):Prop:=∀(zd:AE) (σ:Sg) (H H':Hp) (s s':Shared) (a C:Addr) (dx:Option Addr) (o:Obj) (us:Array Value),Inv X zd σ H s->Inv X zd σ H' s'->s'.heap.get? a=some o->o.cls=.ref C->o.dict=dx->o.data=.fields us->us[1]? =some .none->us[2]? =some .none->
 H' a=none->s.heap.objs.size<=a->pz X.K (EX σ) (.ref C) dx H'->X.xe (.ref a) s'
def lE{cm:Bool}{P:Program}{w:World}{N:List Str}{qual:Str}{scope:Scope}{f:Addr}{cd:Value}{A:Around}{outer:List Env}{s:Shared}{E:XK}:
  QD (Fx cm P w K mg base N qual scope f cd A outer s H E) (λ_=>bQ K E):=λzd σ H H' s s' a C dx o us I I' he hc hx hd h1 c2 n1 z1 q=>aak I I' he hc hx hd h1 c2 n1 z1 q.of
def lQ(c f:Str)(js:List Nat)(fe:FE):FS:=λ Δ=>match fe (Bn (aC js Δ)) with
 | .ok w=> .ex ⟨c,[f],[w.d]⟩ (aC js Δ)
 | .ex x=> .ex x (aC js Δ)
 | .no=> .no
def nS{EX:Bi}(js:List Nat){e:Expr}{fe:FE}{np zf pos:Pos}(M:XC X.prog X.w X.K X.mg X.base c f C)(hr:aE true 2 X.A)(l1:QD X EX)(he:ED X EX e fe)(hg:Gl X c:=by rfl)(cZ:AG c:=by decide)
  (hs:starEach [e] X.env=(false,eval e X.env)::starEach [] X.env:=by rfl) (bH:(backTo zf (starEach [] X.env)).any (·.1)=false:=by rfl):
  SD X EX (.Raise (some (.Call (.Name c np) [e] [] zf)) none pos) (lQ c f js fe):=by
 intro zd s σ H D I q;obtain⟨H0,G0,G,Δ,O,E,q⟩:=q;obtain⟨G',O',sg,E'⟩:=E.aC js;obtain⟨fI,fd,ps,oI,⟨nm,qn,N,bs,bm,sn,sub,ab,col,dd,k0,k1,k2,k3,k5,mN,lc,tl,hn,hi⟩,lI,hI,F,hb⟩:=M.made;have hB:bm.contains (.type "BaseException")=true:=wV (tl s.heap I.bY);rw[arm_exec_Raise];have tD0:tD X.K EX fe σ H λv H1=>∃v' w G1,[v]= [v']/\fe (Bn (aC js Δ))=.ok w/\Step G' H G1 H1/\aU X.K G1 v' w.d:=by
  refine⟨G',Bn (aC js Δ),E'.st.gh,E'.iL, ?_⟩;unfold lQ at q;cases e1:fe (Bn (aC js Δ)) with
  |ok w=>exact WP.intro λv G1 H1 st r=>⟨v,w,G1,rfl,rfl,st,r⟩
  |ex x=>rw[e1]at q;exact q σ G' H O' E' sg
  |no=>rw[e1]at q;exact q
 have mk:wpAny (model X.prog X.w) X.A (eval (.Call (.Name c np) [e] [] zf) X.env) (λv s1=>∃a t dx,v=.ref a/\s1.heap.get? C=some (excClassObj nm qn C N bs bm true sn sub ab col dd k0 k1 k2 k3 k5 "ValueError.__new__")/\
   s1.heap.get? a=some {cls:=.ref C,dict:=dx,data:=.fields #[.ref t,.none,.none,.none,.bool false,.none]}/\X.xe (.ref a) s1) X.xe s:=by
  refine N8 (rS I hg M.glob ?_ cZ);refine Y2 (h₀:=X.base) I.ok.mod.lZ M.kp (Bg (lV he mn hs zf zd s σ H (λvs H1=>∃v' w G1,vs= [v']/\fe (Bn (aC js Δ))=.ok w/\Step G' H G1 H1/\aU X.K G1 v' w.d) I tD0) λus s1 ⟨vs,H1,I1,r,v,w,G1,ev,ew,st,hv⟩=>⟨I1.bY, ?_⟩) hs bH;subst ev;obtain⟨u,rfl,ru⟩:=r.one;refine XU M hr.loose I1 ru λa d t s2 ha hd ne za I2=> ?_;have ga:=XE.get I2.aN Ce;refine⟨a,t,some d,rfl,I2.bY _ _ lc,ga, ?_⟩;have I3:Inv X zd σ (upd H1 d (.xd [(f,v)])) s2:=Inv.forget I2 (by rw[Be ne.symm];exact ha);refine l1 zd σ H1 _ s1 s2 a C (some d) _ _ I1 I3 ga rfl rfl rfl rfl rfl (by rw[Be ne.symm];exact ha) za ?_;have bC:Step G1 H1 (upd G1 d (.xd [(f,v)])) (upd H1 d (.xd [(f,v)])):=Step.new st.gh hd _;refine⟨⟨c,[f],[w.d]⟩,upd G1 d (.xd [(f,v)]),bC.gh,.gX M.at_ Ce rfl (.cons (hv.mono bC.gg) .nil), ?_⟩;unfold lQ at q;rw[ew]at q;exact q σ _ _ O' ((E'.grow st).grow bC) (sg.trans (st.gg.trans bC.gg))
 refine A4 (O8 (JM hB (hr.hd rfl) (A4 (D6 mk (λv s3 h3=>A4 (O8 (D0 h3))) λ_ _ x=>x))))
end
section
variable{X:Cx}{zd:AE}{σ:Sg}{H:Hp}{s:Shared}
def rF{M:Model}{A:Around}{E:AA}{i:Nat}{n:Str}{Q:Unit->Shared->Prop}(I:Inv X zd σ H s)(hN:X.N.Nodup)(hi:X.N[i]? =some n)(hk:X.env.scope.names.lookup n=some .local)
  (h:∀s',Inv X zd (σ.set i none) H s'->Q .unit s'):wpAny M A (do bindName X.env n .none;unbindBehindTheSuite X.env n pos) Q E s:=by
 obtain⟨m,hn,hl⟩:=id I.loc;have dg:(X.env.scope.kind == .class || (X.env.scope.kind == .module && X.env.locals != X.env.globals))=false:=by rw[I.ok.kind];rfl
 have hiσ:i < σ.length:=by rw[I.len];exact(B4.mp hi).1
 have mP:=I.mP;have tracked:∀{a:Addr} {h':Heap},(∃o,s.heap.get? a=some o/\H a=none)->Heap.SameBut a s.heap h'->cH X.prog X.w H h':=λ{a h'} ha hs b ob e=>by
  obtain⟨_,_,ay⟩:=ha;refine(I.aN b ob e).cO (λc w' hc q=>(hs.2 c ?_).trans q) (λ_ q=>q) λ_ _ q=>q
  rintro rfl
  rcases hc with rfl|hc
  ·rw[ay]at e;cases e
  ·rw[ay]at hc;cases hc
 refine wpAny_nameGoes_keeps hk hn dg λh' v Pb hs=> ?_;obtain⟨oL,_,_,OZ,_⟩:=id hn;refine h _ ⟨I.ok,I.os,I.bare,⟨λb o e n hb hx=> ?_,λb o e n hb hx=> ?_,I.base.free,λb o e hx=> ?_,I.base.cN,I.base.cK,I.base.cC⟩,⟨_,Pb,λj y v' e1 e2 e3=> ?_⟩,λy c e=> ?_,I.free,I.bD,λp hp=> ?_,tracked ⟨oL,OZ,I.free⟩ hs,by simpa using I.len⟩
 ·exact(hs.2 b (C4 (C1 (A8 e) I.ok.above))).trans (I.base.keep b o e n hb hx)
 ·obtain⟨sl,e1⟩:=I.base.slot b o e n hb hx;exact⟨sl,(hs.2 b (C4 (C1 (A8 e) I.ok.above))).trans e1⟩
 ·obtain⟨o',e1⟩:=I.base.there b o e hx;exact⟨o',(hs.2 b (C4 (C1 (A8 e) I.ok.above))).trans e1⟩
 ·by_cases hj:j=i
  ·subst hj;rw[G6 hiσ]at e2;cases e2
  ·rw[C6 (Ne.symm hj)]at e2;obtain⟨u',r',q⟩:=hl j y v' e1 e2 e3;refine⟨u',r', ?_⟩;rcases q with⟨k,e⟩|⟨k,c,e,z⟩
   ·refine .inl ⟨k, ?_⟩;have:y≠n:=λe=>hj (wH hN e1 (e▸hi));simp[this,e]
   ·exact .inr ⟨k,c,e,z.sameBut hs (mP y c e)⟩
 ·obtain⟨w',z⟩:=I.cell y c e;exact⟨w',z.sameBut hs (mP y c e)⟩
 ·obtain⟨e,n,ne,nf,d⟩:=I.pin p hp;exact⟨(hs.2 p.1 ne).trans e,n,ne,nf,d⟩
def Inv.Mz{H':Hp}{s':Shared}{a C:Addr}{dx:Option Addr}{us:Array Value}{sl:Array (Option Value)}(I:Inv X zd σ H s)(I':Inv X zd σ H' s')(za:s.heap.objs.size<=a)(e:s'.heap.get? a=some ⟨.ref C,dx,.fields us,sl⟩)(c2:us[2]? =some .none)(hn:H' a=none):Inv X zd σ (upd H' a (.cS ⟨.ref C,dx,.fields us,sl⟩ (XO a C dx))) s':=by
 have B:=I'.base;have ns:∀b o,X.s₀.heap.get? b=some o->b≠a:=λb o q z=>absurd (C1 (A8 q) (D4 I.sz za)) (by rw[z];exact F1 _);have lt:∀b:Addr,b < s.heap.objs.size->b≠a:=λb h z=>absurd (C1 h za) (by rw[z];exact F1 _);have up:∀b u,H' b=some u->upd H' a (.cS ⟨.ref C,dx,.fields us,sl⟩ (XO a C dx)) b=some u:=λb u q=>by rw[Be (En q hn)];exact q
 refine⟨I'.ok,I'.os,I'.bare,⟨B.keep,B.slot,λb o q n x=>by rw[Be (ns b o q)];exact B.free b o q n x,B.there,λb xs q=>up _ _ (B.cN b xs q),λb o u q=>up _ _ (B.cK b o u q),λb ps q=>let⟨m,z⟩:=B.cC b ps q;⟨m,up _ _ z⟩⟩,I'.loc,I'.cell, ?_,λx c q=> ?_,λp hp=> ?_,λb u q=> ?_,I'.len⟩
 ·rw[Be (lt _ I.lt)];exact I'.free
 ·obtain⟨v,hv⟩:=I.cell x c q;rw[Be (lt _ hv.lt)];exact I'.bD x c q
 ·obtain⟨p1,p2,p3⟩:=I'.pin p hp;exact⟨p1,by rw[Be (lt _ (A8 (I.pin p hp).1))];exact p2,p3⟩
 ·by_cases z:b=a
  ·subst z;rw[Ce]at q;cases q;exact⟨e,XO.ok e c2⟩
  ·rw[Be z]at q;exact(I'.aN b u q).cO (λ_ _ _ q=>q) (λc q=>up _ _ q) (λc xs q=>up _ _ q) λc o q=>up _ _ q
end
noncomputable def fY(X:Cx)(zd:AE)(W:AA):Cx:={X with pn:=X.pn ++ zd,xe:=W}
structure HX where
 a:Addr
 C:Addr
 dx:Option Addr
 us:Array Value
 sl:Array (Option Value)
 c2:us[2]? =some .none
def HX.ho(e:HX):HO:=.cS ⟨.ref e.C,e.dx,.fields e.us,e.sl⟩ (XO e.a e.C e.dx)
def hand(X:Cx)(e:HX):Cx:={X with A:=X.A.mark (some (.ref e.a)),calm:=false,xe:=λ_ _=>False,H₀:=upd X.H₀ e.a e.ho}
section
variable{X:Cx}{zd au:AE}{σ:Sg}{H:Hp}{s:Shared}{W:AA}{e:HX}
def ko:(fY X zd W).Ok↔X.Ok:=⟨λok=>⟨ok.mod,ok.kind,ok.glob,ok.blt,ok.above,ok.inj,ok.has,ok.qg,ok.hd,ok.frames,ok.rZ,ok.yL,ok.bs,ok.fU,ok.dQ,ok.gB,ok.bV,ok.kH,ok.tb⟩,
 λok=>⟨ok.mod,ok.kind,ok.glob,ok.blt,ok.above,ok.inj,ok.has,ok.qg,ok.hd,ok.frames,ok.rZ,ok.yL,ok.bs,ok.fU,ok.dQ,ok.gB,ok.bV,ok.kH,ok.tb⟩⟩
def Inv.toB(I:Inv X zd σ H s):Inv (fY X zd W) [] σ H s:=⟨ko.mpr I.ok,I.os,I.bare,I.base,I.loc,I.cell,I.free,I.bD,λp hp=>I.pin p (by have hp:p∈(X.pn ++ zd) ++ []:=hp;rwa[D9]at hp),I.aN,I.len⟩
def Inv.sx(I:Inv (fY X zd W) au σ H s):Inv X zd σ H s:=⟨ko.mp I.ok,I.os,I.bare,I.base,I.loc,I.cell,I.free,I.bD,λp hp=>I.pin p (M9 _ hp),I.aN,I.len⟩
theorem SP.sx{D:Ends}{f:Flow}(h:SP (fY X zd W) au D f s):SP X zd D f s:=by
 cases f with
 |next=>obtain⟨σ',H',I,q⟩:=h;exact⟨σ',H',Inv.sx I,q⟩
 |brk=>obtain⟨σ',H',I,q⟩:=h;exact⟨σ',H',Inv.sx I,q⟩
 |cont=>obtain⟨σ',H',I,q⟩:=h;exact⟨σ',H',Inv.sx I,q⟩
 |ret u=>obtain⟨v,σ',H',I,r,q⟩:=h;exact⟨v,σ',H',Inv.sx I,r,q⟩
def Un.Ri{fs ex:List Addr}{H0 H':Hp}{h h':Heap}{a:Addr}{o:Obj}{u:HO}(U:Un fs ex H0 H' h h')(z:h.objs.size<=a)(q:H' a=some (.cS o u)):Un fs ex (upd H0 a (.cS o u)) H' h h':=by
 have nb:∀b o,h.get? b=some o->b≠a:=λb o g e=>absurd (A8 g) (by rw[e];exact CB.mpr z);refine⟨λb o g n=>U.keep b o g (by rwa[Be (nb b o g)]at n),λb o g n=>U.slot b o g (by rwa[Be (nb b o g)]at n),λb o g n=>U.free b o g (by rwa[Be (nb b o g)]at n),U.there,λb xs e=> ?_,λb ob v e=> ?_,λb ps e=> ?_⟩
 all_goals
  by_cases hb:b=a
  ·subst hb;rw[Ce]at e;cases e
   try exact q
  ·rw[Be hb]at e
   first|exact U.cN b _ e|exact U.cK b _ _ e|exact U.cC b _ e
def Un.MC{fs ex:List Addr}{H0 H1 H':Hp}{h h1 h':Heap}{a:Addr}{v:HO}(U0:Un fs ex H0 H1 h h1)(n:H1 a=none)(U:Un fs ex (upd H0 a v) H' h h')(z:h.objs.size<=a):Un fs ex H0 H' h h':=by
 have nb:∀b o,h.get? b=some o->b≠a:=λb o g e=>absurd (A8 g) (by rw[e];exact CB.mpr z);refine⟨λb o g q=>U.keep b o g (by rwa[Be (nb b o g)]),λb o g q=>U.slot b o g (by rwa[Be (nb b o g)]),λb o g q=>U.free b o g (by rwa[Be (nb b o g)]),U.there,λb xs e=> ?_,λb ob v e=> ?_,λb ps e=> ?_⟩
 ·by_cases hb:b=a
  ·subst hb;have:=U0.cN b xs e;rw[n]at this;cases this
  ·exact U.cN b xs (by rwa[Be hb])
 ·by_cases hb:b=a
  ·subst hb;have:=U0.cK b ob v e;rw[n]at this;cases this
  ·exact U.cK b ob v (by rwa[Be hb])
 ·by_cases hb:b=a
  ·subst hb;obtain⟨m,q⟩:=U0.cC b ps e;rw[n]at q;cases q
  ·exact U.cC b ps (by rwa[Be hb])
def Inv.MQ(I:Inv X zd σ H s)(z:X.s₀.heap.objs.size<=e.a)(q:H e.a=some e.ho):Inv (hand X e) zd σ H s:=by
 have nb:∀b o,X.s₀.heap.get? b=some o->b≠e.a:=λb o g y=>absurd (A8 g) (by rw[y];exact CB.mpr z);refine⟨⟨I.ok.mod,I.ok.kind,I.ok.glob,I.ok.blt,I.ok.above,I.ok.inj,I.ok.has,I.ok.qg,λz=>absurd z A6,I.ok.frames,I.ok.rZ,I.ok.yL,λb o g=> ?_,I.ok.fU,I.ok.dQ,I.ok.gB,I.ok.bV,λb hb=> ?_,λc P g=>let⟨ps,y⟩:=I.ok.tb c P g;⟨ps,(Be λu=>by subst u;obtain⟨_,k⟩:=I.base.cC _ _ y;rw[q]at k;cases k).trans y⟩⟩,I.os,I.bare,Un.Ri I.base z q,I.loc,I.cell,I.free,I.bD,I.pin,I.aN,I.len⟩
 ·obtain⟨g1,g2⟩:=I.ok.bs b o g;exact⟨g1,(Be (nb b o g1)).trans g2⟩
 ·obtain⟨_,u,hu,_⟩:=I.ok.bV.mem hb;exact(Be (nb b u hu)).trans (I.ok.kH b hb)
def Inv.sv{p0:AE}{σ0:Sg}{H0:Hp}{s0:Shared}(J:Inv X p0 σ0 H0 s0)(n:H0 e.a=none)(z:X.s₀.heap.objs.size<=e.a)(I:Inv (hand X e) zd σ H s):Inv X zd σ H s:=⟨J.ok,I.os,I.bare,Un.MC J.base n I.base z,I.loc,I.cell,I.free,I.bD,I.pin,I.aN,I.len⟩
end
noncomputable def qy(i:Nat):Fl->Fl
 | .nx Δ=> .nx (Δ.set i .no)
 | .bk Δ=> .bk (Δ.set i .no)
 | .ct Δ=> .ct (Δ.set i .no)
 | .rt w=> .rt w
 |_=> .no
def bG(K:Frag)(C2:Addr)(tb:List (Str×Bool)):Prop:=∀c b,tb.lookup c=some b->∀C,ClsAt K c C->exmOne K (.ref C) (.ref C2)=some b
def Ev.drop{H0:HB}{G0 G H:Hp}{σ:Sg}{Δ:SE}{O:OS}(E:Ev K H0 G0 G H σ Δ O)(i:Nat):Ev K H0 G0 G H (σ.set i none) (Δ.set i .no) O:=by
 refine⟨E.st,by rw[F4,F4];exact E.len,λj d e=> ?_,λj z d e zo=> ?_,E.out,E.dj,λj d e=> ?_,λj d e=> ?_⟩
 ·rcases He e with⟨rfl,q⟩|⟨n,q⟩
  ·cases q
  ·rw[C6 n];exact E.sh j d q
 ·rcases He e with⟨rfl,q⟩|⟨n,q⟩
  ·subst q;cases zo
  ·rw[C6 n];exact E.ow j z d q zo
 ·rcases He e with⟨rfl,q⟩|⟨n,q⟩
  ·cases q
  ·rw[C6 n];exact E.lk j d q
 ·rcases He e with⟨rfl,q⟩|⟨n,q⟩
  ·cases q
  ·rw[C6 n];exact E.lt j d q
section
variable{X:Cx}{EX:Bi}{i:Nat}{tb:List (Str×Bool)}{g h:FS}{c n:Str}{C2:Addr}{body ai:List Stmt}{b₀:Stmt}{np hp pos:Pos}
def aU.exc{G:Hp}{a C:Addr}{dx:Option Addr}{o:Obj}{x:Xn}(hn:G a=none)(e:ExcAt K G (.ref C) dx x):aU K (upd G a (.cS o (XO a C dx))) (.ref a) (.qb x.c x.ns x.vs):=by
 cases e with
 |bare hc=>exact .dS hc Ce
 |gX hc hd hl r=>exact .dR hc Ce (by rw[Be (En hd hn)];exact hd) hl (r.mono (kE hn _))
def Wy{H0:HB}{G0 G1:Hp}{D:Ends}{r:Fl}(q:Fin K EX H0 G0 G1 D (qy i r)):Fin K Ej H0 G0 G1 {nx:=λ σ H=>D.nx (σ.set i none) H,rt:=D.rt,bk:=λ σ H=>D.bk (σ.set i none) H,ct:=λ σ H=>D.ct (σ.set i none) H} r:=by
 cases r with
 |nx Δ=>exact λ σ G H O E sg=>q _ G H O (E.drop i) sg
 |bk Δ=>exact λ σ G H O E sg=>q _ G H O (E.drop i) sg
 |ct Δ=>exact λ σ G H O E sg=>q _ G H O (E.drop i) sg
 |rt w=>exact q
 |rv d Δ=>exact q.elim
 |ex x Δ=>exact q.elim
 |no=>exact q
end
structure xQ(K:Frag)(C:Addr)(f:Str):Prop where
 ga:findIn K (.ref C) "__getattribute__" =some (some (.builtin "BaseException.__getattribute__"))
 gt:findIn K (.ref C) "__getattr__" =some none
 be:mroIn K C (.type "BaseException")=some true
 hd:hasDictIn K C=true
 no:findIn K (.ref C) f=some none
section
variable{prog:Program}{w:World}{A:Around}{E:AA}{s:Shared}{K:Frag}{x C dx:Addr}{f:Str}
def Wx{expr:Bool}{Q:AA}{ox:Obj}{mA:AB}{v:Value}(X:K.In s.heap)(hx:s.heap.get? x=some ox)(hc:ox.cls=.ref C)(hdx:ox.dict=some dx)(hnc:notCls ox=true)(hn:s.heap.Ns1 dx mA)(g:xQ K C f)
  (hv:mA f=some v) (hh:handedIn v=true) (h:Q v {s with toks:=s.toks + 1}):wpAny (model prog w) A (getAttr (.ref x) f expr) Q E s:=by
 obtain⟨od,ho,hl⟩:=JV hn;have I:InstAt s.heap x ox C (some od):=⟨hx,hc,hnc,by rw[hdx];exact ho⟩;obtain⟨hp,gg,d,t,os⟩:=s;have L0:=I.type (M:=model prog w);have L1:=X9 (M:=model prog w) X g.ga;have L2:=X9 (M:=model prog w) X g.gt;have LF:=looks_find (M:=model prog w) X I (findObj_own g.hd g.no rfl (by rw[hl,hv]));have sub:Looks (model prog w) hp (isInstance (.ref x) (.type "BaseException")) true:=L0.andThen (looks_mroIn X g.be);have SL:=PySem.F.attr_ValueError.ga;have eI:(expr && onTheHeap (Value.builtin "BaseException.__getattribute__"))=false:=by cases expr <;> rfl
 unfold getAttr getAttrBy;refine A4 (wpAny_mkText (N9 (A4 (L0.at (A4 (L1.at ?_))))));show wpAny _ _ (getAttrByItsOwn _ _ _ _ _ _) _ _ _;unfold getAttrByItsOwn;refine A4 (L2.at (A4 (wpAny_attempt ?_)));refine N9 ?_;unfold callGetattribute;rw[eI,if_neg A6];unfold boundAndCalled;rw[SL.bind];refine A4 (D0 (U5 (X4 SL.plain PySem.F.entry_bexc_ga (@check_slot (model prog w) _ _ ⟨hp,gg,d,t + 1,os⟩ "BaseException.__getattribute__" "BaseException" "__getattribute__" (.ref x) [.str f t] [] _ nofun nofun sub (PySem.F.args_bexc_ga _ _) ?_))));refine A4 (D0 (A4 (D0 (A4 (L0.at (A4 (LF.at ?_)))))));refine D0 ?_;show wpAny _ _ (handedOut v) _ _ _;rw[handedOut_of hh];exact D0 h
structure hG(K:Frag)(C:Addr):Prop where
 ga:findIn K (.ref C) "__getattribute__" =some (some (.builtin "BaseException.__getattribute__"))
 gt:findIn K (.ref C) "__getattr__" =some none
 be:mroIn K C (.type "BaseException")=some true
 hd:hasDictIn K C=true
 cl:findIn K (.ref C) "__class__" =some (some (.builtin "object.__class__"))
 gs:specialIn K (.builtin "object.__class__") "__get__" =some (some (.builtin "getset_descriptor.__get__"))
 tk:takesIn K (.builtin "object.__class__")=some true
 ob:mroIn K C (.type "object")=some true
end
theorem IK{G:Hp}{f:Str}{d:D}:∀{ns:List Str} {us:List V} {vs:List D},aB K G us vs->(ns.zip vs).lookup f=some d->∃v,(ns.zip us).lookup f=some v/\aU K G v d
 | [],_,_,_,e=>by simp at e
 |n::ns,_,_,.nil,e=>by simp at e
 |n::ns,_,_,.cons h r,e=>by
  rw[Y6,K6]at e⊢;cases z:(f ==n) with
  |true=>rw[z]at e;cases e;exact⟨_,rfl,h⟩
  |false=>rw[z]at e;exact IK r e
def Hn(cs:List Str)(f:Str)(fo:FE):FE:=λ δ=>(fo δ).bind λw=>match w.d with
 | .qb c ns vs=>if cs.contains c=true then(match(ns.zip vs).lookup f with|some d=> .ok (.sh d)|none=> .no) else .no
 |_=> .no
def cY(K:Frag)(cs:List Str)(f:Str):Prop:=∀c∈cs,∀C,ClsAt K c C->xQ K C f
section
variable{X:Cx}{EX:Bi}{o:Expr}{fo:FE}{f:Str}{cs:List Str}{pos:Pos}
def GW(g:cY X.K cs f)(he:ED X EX o fo)(hb:attributeBase o f X.env (eval o X.env)=eval o X.env:=by rfl):ED X EX (.Attribute o f pos) (Hn cs f fo):=by
 intro zd s σ H Q I q;obtain⟨G,δ,g0,s0,q⟩:=q;refine HN hb (Bg (he zd s σ H (λv H1=>∃G1 w,Step G H G1 H1/\aU X.K G1 v w.d/\fo δ=.ok w) I ⟨G,δ,g0,s0, ?_⟩) λu s1 ⟨v,H1,I1,rv,G1,w,st,hv,ew⟩=> ?_)
 ·unfold Hn at q;cases e:fo δ with
  |ok w=>exact WP.intro λv G1 H1 st r=>⟨G1,w,st,r,rfl⟩
  |ex x=>rw[e]at q;exact q
  |no=>rw[e]at q;exact q
 ·have q2:Out X.K (EX σ) G H (match w.d with
   | .qb c ns vs=>if cs.contains c=true then(match(ns.zip vs).lookup f with|some d=> .ok (.sh d)|none=> .no) else .no
   |_=> .no) Q:=by
   unfold Hn at q;rw[ew]at q;exact q
  clear q;revert hv q2;cases w.d with
  |qb c ns vs=>
   intro hv q2;have q2:Out X.K (EX σ) G H (if cs.contains c=true then(match(ns.zip vs).lookup f with|some d=> .ok (.sh d)|none=> .no) else .no) Q:=q2
   split at q2
   ·rename_i hc;cases el:(ns.zip vs).lookup f with
    |none=>rw[el]at q2;exact q2.elim
    |some d=>
     rw[el]at q2;cases hv with
     |dS _ _=>cases el
     |dR yD h1 hd1 hl1 r1=>
      rename_i a C dd ob us;obtain rfl:u=Value.ref a:=rv;obtain⟨y,ey,hy⟩:=IK r1 el;obtain⟨_,⟨Ou,sl,eo,_⟩,_⟩:=I1.aN a _ (st.gh _ _ h1);obtain⟨mA,hn,hr⟩:=I1.aN dd _ (st.gh _ _ hd1);have zR:=hr f;rw[ey]at zR;cases em:mA f with
      |none=>rw[em]at zR;exact zR.elim
      |some z=>
       rw[em]at zR;have rz:RelV y z:=zR;exact Wx I1.bY eo rfl rfl rfl hn (g c (S6.mp hc) C yD) em (JU rz) ⟨y,H1,I1.tok _,rz,WP.use (WP.mono st q2) st.gh hy⟩
   ·exact q2.elim
  |_=>intro _ q2;exact False.elim q2
end
def SO(tb:List (Str×Bool))(fo:FE):FE:=λ δ=>(fo δ).bind λw=>match w.d with
 | .qb c _ _=>(match tb.lookup c with|some b=> .ok (.sh (.bl b))|none=> .no)
 |_=> .no
section
variable{X:Cx}{EX:Bi}{zd:AE}{σ:Sg}{G H:Hp}{s:Shared}
variable{a:Expr}{fo:FE}{tb:List (Str×Bool)}{pp pos:Pos}
end
theorem aE.units{c:Bool}{k:Nat}{A:Around}(r:aE c k A):A.units + 64 < cLine:=by have:=r.un;lia
section
variable{X:Cx}{c:Bool}{k:Nat}{zd:AE}{W:AA}{e:HX}
def wz(h:aE c k (Cx.A X)):aE c k (Cx.A (fY X zd W)):=h
def Ww(h:Cx.calm X=true):Cx.calm (Cx.jS X)=true:=h
def Fh{cm:Bool}{P:Program}{w:World}{N:List Str}{qual:Str}{scope:Scope}{f:Addr}{cd:Value}{A:Around}{outer:List Env}{s:Shared}{E:XK}:
  PassesOwn (model P w) (Cx.A (Fx cm P w K mg base N qual scope f cd A outer s H E)) (Cx.env (Fx cm P w K mg base N qual scope f cd A outer s H E)) (Cx.xe (Fx cm P w K mg base N qual scope f cd A outer s H E)):=
 λe s' h=>wpAny_leaving_again (SameStack.refl _) h
def bG.one{C2:Addr}{c:Str}{C:Addr}{b:Bool}(a:ClsAt K c C)(h:exmOne K (.ref C) (.ref C2)=some b){tb:List (Str×Bool)}(r:bG K C2 tb):bG K C2 ((c,b)::tb):=λc' b' e C' a'=>by
 rw[K6]at e;cases z:(c' ==c) with
 |true=>
  rw[z]at e;cases e;have:c'=c:=eq_of_beq z;subst this;unfold ClsAt at a a';rw[a]at a';cases a';exact h
 |false=>rw[z]at e;exact r c' b' e C' a'
def bG.nil{C2:Addr}:bG K C2 []:=λ_ _ e=>by cases e
def cY.nil{f:Str}:cY K [] f:=λ_ e=>by cases e
def cY.one{f c:Str}{C:Addr}(a:ClsAt K c C)(x:xQ K C f){cs:List Str}(r:cY K cs f):cY K (c::cs) f:=λc' e C' a'=>by
 rcases B8.mp e with rfl|e
 ·unfold ClsAt at a a';rw[a]at a';cases a';exact x
 ·exact r c' e C' a'
end
structure Hd where
 i:Option Nat
 tb:List (Str×Bool)
 h:FS
def mT(d:Hd)(x:Xn)(Δ:SE):Fl:=match d.i with
 |some i=>qy i (d.h (Δ.set i (.sh (.qb x.c x.ns x.vs))))
 |none=>(match d.h Δ with
  | .ex _ _=> .no
  |r=>r)
def fX:List Hd->Xn->SE->Fl
 | [],_,_=> .no
 |d::r,x,Δ=>match d.tb.lookup x.c with
  |some true=>mT d x Δ
  |some false=>fX r x Δ
  |none=> .no
def Hf(g:FS)(hs:List Hd):FS:=λ Δ=>match g Δ with
 | .ex x Δ1=>fX hs x Δ1
 |r=>r
inductive eW(X:Cx):List ExceptHandler->List Hd->Prop where
 |nil:eW X [] []
 |PV {c n:Str} {C2:Addr} {b₀:Stmt} {ai:List Stmt} {np hp:Pos} {i:Nat} {tb:List (Str×Bool)} {h:FS} {hs:List ExceptHandler} {ds:List Hd} (hc:X.mg c=some (.ref C2)) (ct:bG X.K C2 tb) (hh:∀e,BD (hand X e) Ej (b₀::ai) h) (r:eW X hs ds)
   (hi:X.N[i]? =some n:=by rfl) (hk:X.env.scope.names.lookup n=some .local:=by rfl) (hg:Gl X c:=by rfl) (cZ:AG c:=by decide):
   eW X (.ExceptHandler (some (.Name c np)) (some n) (b₀::ai) hp::hs) (⟨some i,tb,h⟩::ds)
 |bare {c:Str} {C2:Addr} {b₀:Stmt} {ai:List Stmt} {np hp:Pos} {tb:List (Str×Bool)} {h:FS} {hs:List ExceptHandler} {ds:List Hd} (hc:X.mg c=some (.ref C2)) (ct:bG X.K C2 tb) (hh:∀e,BD (hand X e) Ej (b₀::ai) h) (r:eW X hs ds)
   (hg:Gl X c:=by rfl) (cZ:AG c:=by decide):
   eW X (.ExceptHandler (some (.Name c np)) none (b₀::ai) hp::hs) (⟨none,tb,h⟩::ds)
def EXh(K:Frag)(EX:Bi)(D:Ends)(ds:List Hd):Bi:=λ σ=>⟨λx G H=>∃H0 G0 Δ O,Ev K H0 G0 G H σ Δ O/\Fin K EX H0 G0 G D (fX ds x Δ),
 λ_ _ _ _ _ s ⟨H0,G0,Δ,O,E,f⟩=>⟨H0,G0,Δ,O,E.grow s,Fin.mono s.gg f⟩⟩
def UG{EX:Bi}{H0:HB}{G0 G1:Hp}{D:Ends}{r:Fl}(q:Fin K EX H0 G0 G1 D (match r with| .ex _ _=> .no|r=>r)):Fin K Ej H0 G0 G1 {nx:=D.nx,rt:=D.rt,bk:=D.bk,ct:=D.ct} r:=by
 cases r with
 |nx Δ=>exact q
 |bk Δ=>exact q
 |ct Δ=>exact q
 |rt w=>exact q
 |rv d Δ=>exact q
 |ex x Δ=>exact q.elim
 |no=>exact q
section
variable{X:Cx}{EX:Bi}{g:FS}{body:List Stmt}{pos:Pos}
def XT(hN:X.N.Nodup){zd:AE}{D:Ends}{a C T2:Addr}{dx:Option Addr}{σ1 σ0:Sg}{H1 H2:Hp}{s1 s2:Shared}{h2:Heap}{x:Xn}{CH:HB}{G2 CJ:Hp}{Δ1:SE}{O1:OS}{e0:HX}{h9:Heap}(ha:e0.a=a)(hC:e0.C=C)(hx:e0.dx=dx)(zz:X.s₀.heap.objs.size<=e0.a)
  (J1:Inv X zd σ0 H1 s1) (J3:Inv X zd σ1 H2 {s2 with heap:=h9}) (J4:Inv X zd σ1 (upd H2 a e0.ho) {s2 with heap:=h2}) (pE:Step G2 H2 (upd G2 a e0.ho) (upd H2 a e0.ho))
  (n1:H2 a=none) (oM:aA G2 H2) (ea:ExcAt X.K G2 (.ref C) dx x) (LT:Looks (model X.prog X.w) h2 (typeOf (.ref a)) (.ref C)) (sO:ClsAt X.K x.c C)
  (E1:Ev X.K CH CJ G2 H2 σ1 Δ1 O1)
  (mM:∀{A:Around} {E:AA} {Q:Unit->Shared->Prop},(∀h3,Inv X zd σ1 (upd H2 a e0.ho) {s2 with heap:=h3}->Q .unit {s2 with heap:=h3})->wpAny (model X.prog X.w) A (setFlight (.ref a) none) Q E {s2 with heap:=h2}):
  ∀{hs:List ExceptHandler} {ds:List Hd},eW X hs ds->Fin X.K EX CH CJ G2 D (fX ds x Δ1)->wpAny (model X.prog X.w) X.A (handleBy (.ref a) X.env hs) (SP X zd D) X.xe {s2 with heap:=h2}:=by
 subst ha hC hx;intro hs ds ho
 induction ho with
 |nil=>intro q;exact False.elim q
 |PV hc ct hh r hi hk hg cZ ih=>
  rename_i c n C2 b₀ ai np hp i tb h hs ds;intro q;refine wpAny_handleBy_cons (codeAny_handlers_test ?_) (by intro z;cases z);refine rS (X:=hand X e0) (Inv.MQ J4 zz Ce) hg hc ?_ cZ;unfold fX at q;cases e2:tb.lookup x.c with
  |none=>simp only[e2]at q;exact q.elim
  |some b=>
   have em:=ct _ _ e2 _ sO;refine NR (s:={s2 with heap:=h2}) (exm_one J4.bY LT em) ?_;cases b with
   |false=>simp only[e2]at q;exact ih q
   |true=>
    simp only[e2,mT]at q;show codeAny _ _ _ _ _;refine codeAny_handlers_suite_as (mM λh3 J5=> ?_);refine wG (X:=hand X e0) (v:=.ref e0.a) (Inv.MQ J5 zz Ce) hN hi (.inl hk) rfl (λs6 I6=> ?_) (.inr hk);have E6:=(E1.grow pE).put (i:=i) (aU.exc (oM.free n1) ea);refine D6 (hh e0 zd s6 _ _ _ I6 ⟨CH,CJ,_,_,O1,E6,Wy (Fin.mono pE.gg q)⟩) (λf s7 h7=> ?_) λ_ _ z=>False.elim z;show wpAny _ X.A (do bindName X.env n .none;unbindBehindTheSuite X.env n hp) (λ_ s₃=>SP X zd D f s₃) _ s7;cases f with
    |next=>
     obtain⟨σ7,H7,I7,q7⟩:=h7;exact rF (Inv.sv J3 n1 zz I7) hN hi hk λs8 I8=>⟨_,H7,I8,q7⟩
    |brk=>
     obtain⟨σ7,H7,I7,q7⟩:=h7;exact rF (Inv.sv J3 n1 zz I7) hN hi hk λs8 I8=>⟨_,H7,I8,q7⟩
    |cont=>
     obtain⟨σ7,H7,I7,q7⟩:=h7;exact rF (Inv.sv J3 n1 zz I7) hN hi hk λs8 I8=>⟨_,H7,I8,q7⟩
    |ret u=>
     obtain⟨v,σ7,H7,I7,r7,q7⟩:=h7;exact rF (Inv.sv J3 n1 zz I7) hN hi hk λs8 I8=>⟨v,_,H7,I8,r7,q7⟩
 |bare hc ct hh r hg cZ ih=>
  rename_i c C2 b₀ ai np hp tb h hs ds;intro q;refine wpAny_handleBy_cons (codeAny_handlers_test ?_) (by intro z;cases z);refine rS (X:=hand X e0) (Inv.MQ J4 zz Ce) hg hc ?_ cZ;unfold fX at q;cases e2:tb.lookup x.c with
  |none=>simp only[e2]at q;exact q.elim
  |some b=>
   have em:=ct _ _ e2 _ sO;refine NR (s:={s2 with heap:=h2}) (exm_one J4.bY LT em) ?_;cases b with
   |false=>simp only[e2]at q;exact ih q
   |true=>
    simp only[e2,mT]at q;show codeAny _ _ _ _ _;refine codeAny_handlers_suite (mM λh3 J5=> ?_);have E6:=E1.grow pE;refine D6 (hh e0 zd {s2 with heap:=h3} _ _ _ (Inv.MQ J5 zz Ce) ⟨CH,CJ,_,_,O1,E6,UG (Fin.mono pE.gg q)⟩) (λf s7 h7=> ?_) λ_ _ z=>False.elim z;cases f with
    |next=>
     obtain⟨σ7,H7,I7,q7⟩:=h7;exact⟨_,H7,Inv.sv J3 n1 zz I7,q7⟩
    |brk=>
     obtain⟨σ7,H7,I7,q7⟩:=h7;exact⟨_,H7,Inv.sv J3 n1 zz I7,q7⟩
    |cont=>
     obtain⟨σ7,H7,I7,q7⟩:=h7;exact⟨_,H7,Inv.sv J3 n1 zz I7,q7⟩
    |ret u=>
     obtain⟨v,σ7,H7,I7,r7,q7⟩:=h7;exact⟨v,_,H7,Inv.sv J3 n1 zz I7,r7,q7⟩
def GV{Pn:ExceptHandler}{OW:List ExceptHandler}{ds:List Hd}(hN:X.N.Nodup)(pS:X.env.frame=some X.env.locals)(cM:X.stack=X.env::X.outer)(hb:∀zd W Od,Lk (fY X zd W) Od->BD (fY X zd W) Od body g)(ho:eW X (Pn::OW) ds):
  SD X EX (.Try body (Pn::OW) [] [] pos) (Hf g ds):=by
 intro zd s σ H D I q;obtain⟨H0,G0,G,Δ,O,E,q⟩:=q;refine wpAny_Try_except ?_;have lk:Lk (fY X zd λe s₁=>wpAny (model X.prog X.w) X.A (noteFrame e X.env) (λ_ s₂=>wpAny (model X.prog X.w) X.A (setFlight e none) (λ_ s₃=>wpAny (model X.prog X.w) X.A (handleBy e X.env (Pn::OW)) (SP X zd D) X.xe s₃) X.xe s₂) X.xe s₁) (EXh X.K EX D ds):=by
  intro au σ1 H1 s1 e s2 I1 cx;obtain⟨a,C,dx,T,H2,rfl,I2,tr,n1,n2,z1,z2,x,G2,oM,ea,CH,CJ,Δ1,O1,E1,f1⟩:=Inv.raised I1 cx;show wpAny _ X.A (noteFrame (.ref a) X.env) _ _ s2;have J1:=Inv.sx I1;have J2:=Inv.sx I2;refine JN (outer:=X.outer) (by rw[<-cM];exact J2.ok.frames) (by rw[<-cM];exact J2.stack) pS tr λh1 T2 z3 k1 t1=> ?_;refine MI t1 λh2 k2 t2=> ?_;have rT:H2 T2=none:=J2.aN.fresh z3;have J3:Inv X zd σ1 H2 {s2 with heap:=h2}:=by
   refine Inv.settle (ch:=[a,T] ++ [T2]) J1 J2 (λb hb=> ?_) ?_
   ·have:b=a\/b=T\/b=T2:=by simpa using hb
    rcases this with rfl|rfl|rfl
    ·exact⟨z1,n1⟩
    ·exact⟨z2,n2⟩
    ·exact⟨D4 z1 (D4 (R7 (A8 tr.ob.choose_spec.choose_spec.1)) z3),rT⟩
   ·rw[cM];exact k1.trans (bM.of_same k2)
  obtain⟨⟨oa,ua,ga,gc,gd,gf,g1,g2⟩,ne,tbk⟩:=id t2;have goa:h2.get? a=some ⟨.ref C,dx,.fields ua,oa.slots⟩:=by
   obtain⟨c1,d1,e1,s1⟩:=oa;simp only at gc gd gf;subst gc gd gf;exact ga
  let e0:HX:=⟨a,C,dx,ua,oa.slots,g2⟩
  have zz:X.s₀.heap.objs.size<=e0.a:=D4 J1.sz z1;have J4:Inv X zd σ1 (upd H2 a e0.ho) {s2 with heap:=h2}:=Inv.Mz J1 J3 z1 goa g2 n1;have pE:Step G2 H2 (upd G2 a e0.ho) (upd H2 a e0.ho):=Step.new oM n1 _;have LT:Looks (model X.prog X.w) h2 (typeOf (.ref a)) (.ref C):=gc▸(Looks.ld ga).andThen .now;obtain⟨sO⟩:Nonempty (ClsAt X.K x.c C):=by cases ea with|bare hc=>exact⟨hc⟩|gX hc _ _ _=>exact⟨hc⟩
  refine XT (e0:=e0) (T2:=T2) hN rfl rfl rfl zz J1 J3 J4 pE n1 oM ea LT sO E1 (λ{A E Q} hq=> ?_) ho f1;refine MI t2 λh3 k3 t3=>hq h3 ?_;refine Inv.settle (ch:=[T2]) (s':={s2 with heap:=h2}) J1 J4 (λb hb=> ?_) (bM.of_same k3);have:b=T2:=by simpa using hb
  subst this;exact⟨D4 z1 (D4 (R7 (A8 tr.ob.choose_spec.choose_spec.1)) z3),by rw[Be ne];exact rT⟩
 refine D6 (hb zd _ _ lk [] s σ H D (Inv.toB I) ⟨H0,G0,G,Δ,O,E, ?_⟩) (λf s1 hs=> ?_) λ_ _ z=>z
 ·unfold Hf at q;cases e1:g Δ with
  |ex x Δ1=>
   rw[e1]at q;exact λ σ1 G1 H1 O1 E1 sg=>⟨H0,G0,Δ1,O1,E1,Fin.mono sg q⟩
  |nx Δ1=>rw[e1]at q;exact q
  |bk Δ1=>rw[e1]at q;exact q
  |ct Δ1=>rw[e1]at q;exact q
  |rt w=>rw[e1]at q;exact q
  |rv d Δ1=>rw[e1]at q;exact q
  |no=>rw[e1]at q;exact q
 ·have Nk:=SP.sx hs;cases f with
  |next=>exact T9 Nk
  |brk=>exact Nk
  |cont=>exact Nk
  |ret u=>exact Nk
end
section
variable{prog:Program}{w:World}{A:Around}{E:AA}{h:Heap}{g:Array GenState}{d:Drawn}{t:Nat}{os:OsState}
variable{nm q:Str}{C N:Addr}{bs bm qi:List Value}{bq:Bool}{sn:List Str}{sub:List Value}{ab:Bool}{col:Option Bool}{dd:Option Addr}{k0 k1 k2 k3 k5:Option Value}{B newId ak:String}
def YZ(FB:ExcBaseFacts B newId ak qi)(T:OwnTail h qi bm){mN:AB}{Q:PySem.Fin->Shared->Prop}
  (hC:h.get? C=some (excClassObj nm q C N bs bm bq sn sub ab col dd k0 k1 k2 k3 k5 newId)) (hn:h.Ns N mN) (hi:mN "__init__" =none)
  (z:∀h' e,Heap.MadeExcOf h h' e (.ref C) []->h.objs.size<=e->Q (.done (.ret (.ref e))) ⟨h',g,d,t,os⟩):
  wpAny (model prog w) A (Builtin.«type.__call__» ⟨[.ref C],[]⟩) Q E ⟨h,g,d,t,os⟩:=by
 wp_walk using N2 hC,wpAny_madeBy_exc hC
 refine Y9 (U4 _ FB.quiet) (wpAny_check_new_subT FB T hC ?_);refine codeAny_exc_new_subT FB T hC ?_ (by show 0<=sizeLine;exact K8 _);show wpAny _ _ _ _ _ _;generalize e1:({cls:=.type "tuple",data:=.seq ([]:List Value).toArray}:Obj)=o1;generalize e2:({cls:=.ref C,data:=.fields #[.ref h.objs.size,.none,.none,.none,.bool false,.none]}:Obj)=o2;have up:∀b o,h.get? b=some o->((h.push o1).push o2).get? b=some o:=λb o e=>A5 _ (A5 _ e);have ge:((h.push o1).push o2).get? (h.objs.size + 1)=some o2:=by
  have:=C5 (h.push o1) (o:=o2) (by rw[<-e2];rfl)
  rwa[L9]at this
 have uz:=up _ _ hC;have zY:((h.push o1).push o2).Ns N mN:=hn.keeps up;have T1:=T.keeps up;have cl:o2.cls=.ref C:=by rw[<-e2]
 have sO:List.contains (Value.ref C::bm) (.ref C)=true:=S6.mpr (.head _);unfold isInstance
 repeat (first|(with_reducible refine N2 ge ?_;rw[cl])|(with_reducible refine X8 uz ?_;rw[sO])|wp_step)
 show wpAny _ _ (typeLookup (.ref C) _) _ _ _;refine wpAny_typeLookup_tail uz zY T1 FB.mroIs FB.init.lookup ?_;rw[hi];refine N9 (A4 (Q3 (FB.init.bind _) ?_));refine A4 (U5 (X4 FB.init.plain FB.initEntry (wpAny_check_init_subT FB T1 uz ge cl ?_)));subst e1 e2
 wp_walk
 refine z _ (h.objs.size + 1) ⟨λb o hb=> ?_,P9 (N5 _),h.objs.size + 2, ?_,P9 (), ?_⟩ (N5 _)
 ·rw[K1 _ _ (Ne.symm (C4 (S9 (A8 hb))))];exact A5 _ (up b o hb)
 ·rw[P5 _ (A5 _ ge) rfl,L9,L9];rfl
 ·rw[K1 _ _ (C4 (O9 (h.objs.size + 1)))];exact Heap.get?_push_at (by rw[L9,L9]) rfl
def XS(FB:ExcBaseFacts B newId ak qi)(T:OwnTail h qi bm){mN:AB}{Q:AA}
  (hC:h.get? C=some (excClassObj nm q C N bs bm bq sn sub ab col dd k0 k1 k2 k3 k5 newId)) (hn:h.Ns N mN) (hi:mN "__init__" =none)
  (z:∀h' e,Heap.MadeExcOf h h' e (.ref C) []->h.objs.size<=e->Q (.ref e) ⟨h',g,d,t,os⟩):
  wpAny (model prog w) A (call (.ref C) []) Q E ⟨h,g,d,t,os⟩:=by
 have f1:=tc_lookup;have f2:=tc_bind (.ref C);have Dq:Shared.TypeIs ⟨h,g,d,t,os⟩ (.ref C) "type" :=⟨_,hC,rfl⟩;refine U5 (Qt (?_:wpAny _ _ (callAny (.ref C) _) _ _ _))
 wp_walk using N2 hC
 refine⟨rfl, ?_⟩;exact ZA0 (U4 _ nofun) entry_typeCall (Z0 hC (YZ FB T hC hn hi z))
end
def rJ(K:Frag)(C:Addr):Prop:=∃(nm q:Str) (N:Addr) (bs bm:List Value) (sn:List Str) (sub:List Value) (ab:Bool) (col:Option Bool) (dd:Option Addr) (k0 k1 k2 k3 k5:Option Value) (mN:AB),
 K.lookup C=some (excClassObj nm q C N bs bm true sn sub ab col dd k0 k1 k2 k3 k5 "ValueError.__new__")/\(∀h:Heap,K.In h->OwnTail h gH bm)/\(∀h:Heap,K.In h->h.Ns N mN)/\mN "__init__" =none
def UE{C N L:Addr}{nm q:Str}{bs:List Value}{sn:List Str}{sub:List Value}{ab:Bool}{col:Option Bool}{dd:Option Addr}{k0 k1 k2 k3 k5:Option Value}{oc c0 oL:Value}{od uI tZ:Option Addr}{es jo:Array DictEntry}{ep uE:Nat}{sl tW tU:Array (Option Value)}{cd:ClassData}
  (lc:K.lookup C=some (excClassObj nm q C N bs (.ref L::gH) true sn sub ab col dd k0 k1 k2 k3 k5 "ValueError.__new__")) (ln:K.lookup N=some ⟨oc,od,.dict es ep,sl⟩) (kn:oN es=true) (hi:nsFind es "__init__" =none)
  (ll:K.lookup L=some ⟨c0,uI,.cls cd,tW⟩) (lm:K.lookup cd.ns=some ⟨oL,tZ,.dict jo uE,tU⟩) (km:oN jo=true) (hL:nsFind jo "__init__" =none):rJ K C:=
 ⟨nm,q,N,bs,_,sn,sub,ab,col,dd,k0,k1,k2,k3,k5,nsFind es,lc,λh X=> .own (X _ _ ll) (qz lm km X) hL .base,λh X=>qz ln kn X,hi⟩
structure NU(K:Frag)(mg:AB)(c:Str)(C:Addr):Prop where
 at_:ClsAt K c C
 glob:mg c=some (.ref C)
 kp:keepIn K (.ref C)=true
 made:rJ K C
def GU(c:Str):FS:=λ Δ=> .ex ⟨c,[],[]⟩ Δ
section
variable{X:Cx}{C:Addr}{c:Str}
def XR{EX:Bi}{np zf pos:Pos}(M:NU X.K X.mg c C)(hr:aE true 2 X.A)(l1:QD X EX)(hg:Gl X c:=by rfl)(cZ:AG c:=by decide):
  SD X EX (.Raise (some (.Call (.Name c np) [] [] zf)) none pos) (GU c):=by
 intro zd s σ H D I q;obtain⟨H0,G0,G,Δ,O,E,q⟩:=q;obtain⟨nm,qn,N,bs,bm,sn,sub,ab,col,dd,k0,k1,k2,k3,k5,mN,lc,tl,hn,hi⟩:=M.made;have hB:bm.contains (.type "BaseException")=true:=wV (tl s.heap I.bY);rw[arm_exec_Raise];have mk:wpAny (model X.prog X.w) X.A (eval (.Call (.Name c np) [] [] zf) X.env) (λv s1=>∃a t dx,v=.ref a/\s1.heap.get? C=some (excClassObj nm qn C N bs bm true sn sub ab col dd k0 k1 k2 k3 k5 "ValueError.__new__")/\
   s1.heap.get? a=some {cls:=.ref C,dict:=dx,data:=.fields #[.ref t,.none,.none,.none,.bool false,.none]}/\X.xe (.ref a) s1) X.xe s:=by
  refine N8 (rS I hg M.glob ?_ cZ);refine callWith_K0 I.bY M.kp ?_;have KX:=I.bY;obtain⟨hh,gg,dr,tk,os⟩:=s;refine XS Y7 (tl hh KX) (KX _ _ lc) (hn hh KX) hi λh' a me za=> ?_;obtain⟨kk,new,t,et,_,_⟩:=me;have I2:Inv X zd σ H ⟨h',gg,dr,tk,os⟩:=I.kept (h':=h') (t':=tk) kk;refine⟨a,t,none,rfl,I2.bY _ _ lc,et, ?_⟩;exact l1 zd σ H H ⟨hh,gg,dr,tk,os⟩ ⟨h',gg,dr,tk,os⟩ a C none _ _ I I2 et rfl rfl rfl rfl rfl (I.aN.fresh za) za ⟨⟨c,[],[]⟩,G,E.st.gh,.bare M.at_,q σ G H O E (aA.refl _)⟩
 refine A4 (O8 (JM hB (hr.hd rfl) (A4 (D6 mk (λv s3 h3=>A4 (O8 (D0 h3))) λ_ _ x=>x))))
end
end L3
namespace L3
open PySem L2
variable{K:Frag}{fd:FuncData}{mg:AB}{us:List Value}{base:Heap}{H:Hp}{X:Cx}{pos:Pos}
abbrev Ai{a b:Prop}(x:a)(y:b):a/\b:=⟨x,y⟩
def Ak:=Ai @Al.eq_1 (Ai @Av.eq_1 (Ai @Af.eq_1 (Ai @Aj.eq_1 (Ai @aC.eq_1 (Ai @eB.eq_1 (Ai @Qu.{0,0} (Ai @List.foldl_nil.{0,0} (Ai @Ao.eq_1 (Ai @Cv.eq_1 (Ai @Bv.eq_1 (Ai @Ea.eq_1 (Ai @Ay.eq_1 (Ai @Bn.eq_1 (Ai @Az.eq_1 (Ai @dF.eq_1 (Ai @EB (Ai @Sw (Ai @Sv (Ai @Su (Ai @Ss (Ai @Sr (Ai @UL (Ai @UK (Ai @UJ (Ai @Ah.eq_1 (Ai @Ab.eq_1 (Ai @eC.eq_1 (Ai @An.eq_1 (Ai @Bb.eq_1 (Ai @Cj.eq_1 (Ai @Cj.eq_2 (Ai @Cj.eq_3 (Ai @Cj.eq_4 (Ai @Cj.eq_5 (Ai @Cj.eq_6 (Ai @Cj.eq_7 (Ai @Eb.eq_1 (Ai @Eb.eq_2 (Ai @Ag.eq_1 (Ai @At.eq_1 (Ai @R.rM (Ai @R.rN (Ai @R.rO (Ai @Du.eq_1 (Ai @Du.eq_2 (Ai @Du.eq_3 (Ai @Du.eq_4 (Ai @Du.eq_5 (Ai @Hn.eq_1 (Ai @SO.eq_1 (Ai @Di.eq_1 (Ai @Di.eq_2 (Ai @kP.eq_1 (Ai @kP.eq_2 (Ai @Ac.eq_1 (Ai @Aa.eq_1 (Ai @qt.eq_1 (Ai @Ci.eq_1 (Ai @eIf.eq_1 (Ai @kR.eq_1 (Ai @eOr.eq_1 (Ai @SN.eq_1 (Ai @gY.eq_1 (Ai @Fa.eq_1 (Ai @Cg.eq_1 (Ai @uH.eq_1 (Ai @ZP (Ai @Zc (Ai @ZO (Ai @ZN (Ai @ZM (Ai @ZL (Ai @aaj (Ai @ZK (Ai @aai (Ai @aah (Ai @aag (Ai @aaf (Ai @ZJ (Ai @Zb (Ai @ZI (Ai @ZH (Ai @ZG (Ai @ZF (Ai @aae (Ai @ZE (Ai @aad (Ai @aac (Ai @aab (Ai @aaa (Ai @aaD (Ai @Z' (Ai @aaC (Ai @aaB (Ai @aaA (Ai @aaz (Ai @ya.eq_1 (Ai @MB.eq_1 (Ai @MA.eq_1 (Ai @fC.eq_1 (Ai @fC.eq_2 (Ai @kh.eq_1 (Ai @yb.eq_1 (Ai @tK.eq_1 (Ai @tK.eq_2 (Ai @tK.eq_3 (Ai @tK.eq_4 (Ai @Aw.eq_1 (Ai @Bo.eq_1 (Ai @Fk.eq_1 (Ai @Fk.eq_2 (Ai @Fk.eq_3 (Ai @Fk.eq_4 (Ai @R.aI (Ai @R.kq (Ai @R.kr (Ai @W.dU (Ai @W.WY (Ai @B1.{0,0} (Ai @O0.{0,0} (Ai @Q9.{0} (Ai @O5.{0} (Ai @D9.{0} (Ai @M6.{0} (Ai @List.replicate_zero.{0} (Ai @B5.{0} (Ai @K3.{0} (Ai @List.set_cons_zero.{0} (Ai @List.set_cons_succ.{0} (Ai @R4.{0} (Ai @R3.{0} (Ai @if_true.{1} (Ai @F3.{1} (Ai @Bf.eq_1 (Ai @Bf.eq_2 (Ai @Bf.eq_3 (Ai @Bf.eq_4 (Ai @Bf.eq_5 (Ai @C8 (Ai @Bool.not_true (Ai @Bool.not_false (Ai @Bool.true_and (Ai @Bool.false_and (Ai @O7 (Ai @F6 (Ai @K5 (Ai @gC.eq_1 (@gV.eq_1))))))))))))))))))))))))))))))))))))))))))))))))))))))))))))))))))))))))))))))))))))))))))))))))))))))))))))))))))))))))))))))))))))))))))))))))))))
end L3
namespace L3
open PySem PySem.Spec PyProof.Rows L2
variable{K:Frag}{fd:FuncData}{mg:AB}{us:List Value}{base:Heap}{H:Hp}{X:Cx}{pos:Pos}
abbrev HBd(c:Bool)(P:Program)(w:World)(K:Frag)(mg:AB)(base:Heap)(N:List Str)(qual:Str)(st:Stmt)(f:Addr)(k:Nat)(g:FS):Prop:=∀{zp:Value} {A:Around} {outer:List Env} {s:Shared} {H:Hp} {E:XK},(Fx c P w K mg base N qual (Cr st) f zp A outer s H E).calm=c->aE c k (Cx.A (Fx c P w K mg base N qual (Cr st) f zp A outer s H E))->(Cx.A (Fx c P w K mg base N qual (Cr st) f zp A outer s H E)).units + 64 < cLine->N.Nodup->Lk (Fx c P w K mg base N qual (Cr st) f zp A outer s H E) (λ_=>bQ K E)->
   BD (Fx c P w K mg base N qual (Cr st) f zp A outer s H E) (λ_=>bQ K E) (Gk st) g
def Cd{c:Bool}{P:Program}{w:World}{x qual:Str}{st:Stmt}{f:Addr}{N ps:List Str}{k:Nat}{g:FS}(F:bI K x qual st f fd)
  (zj:HBd c P w K mg base N qual st f k g) (S:bA N ps (Cr st):=by exact⟨rfl,rfl,rfl,by decide +kernel,rfl,by decide +kernel,by decide +kernel⟩):bO P w K mg base c (k + 1) f fd ps (Br K ps.length (Al N.length g)):=
 Rq F S λzp A outer s H E hr=>zj rfl hr (aE.units hr) S.nd vx
def qx{c:Bool}{P:Program}{w:World}{x qual cn:Str}{st:Stmt}{f C:Addr}{N ps:List Str}{k n:Nat}{g:FS}(F:bI K x qual st f fd)(hC:ClsAt K cn C)(hn:ps.length=n + 1)(hle:ps.length<=N.length)
  (zj:HBd c P w K mg base N qual st f k g) (S:bA N ps (Cr st):=by exact⟨rfl,rfl,rfl,by decide +kernel,rfl,by decide +kernel,by decide +kernel⟩):bO P w K mg base c (k + 1) f fd ps (pF K C n (eP N.length cn g)):=
 Rp F S hC hn hle λzp A outer s H E hr=>zj rfl hr (aE.units hr) S.nd vx
def FnAt(K:Frag)(x qual:Str)(st:Stmt)(f:Addr):Prop:=∃fd,bI K x qual st f fd
def FnAt.mk{x qual:Str}{st:Stmt}{f:Addr}{oc kV dc pm cd ct:Value}{od an:Option Addr}{sl:Array (Option Value)}
  (l:K.lookup f=some ⟨oc,od,.func (fnOf x qual (iV st) (Gk st) (Cr st) .none kV dc pm an cd ct),sl⟩) (c:codeIn K cd qual=true) (k:keepIn K (.ref f)=true):FnAt K x qual st f:=⟨_,vA l c k⟩
def aM(K:Frag)(x:Str)(st:Stmt):Prop:=∃f,PySem.W.nsIn K mainGlobals x=some (some (.ref f))/\FnAt K x x st f
theorem aM.mk{x:Str}{st:Stmt}{f:Addr}{oc kV dc pm cd ct:Value}{od an:Option Addr}{sl:Array (Option Value)}(a:PySem.W.nsIn K mainGlobals x=some (some (.ref f)))
  (l:K.lookup f=some ⟨oc,od,.func (fnOf x x (iV st) (Gk st) (Cr st) .none kV dc pm an cd ct),sl⟩) (c:codeIn K cd x=true) (k:keepIn K (.ref f)=true):aM K x st:=⟨f,a,FnAt.mk l c k⟩
def bF(K:Frag)(C:Addr)(x qual:Str)(st:Stmt):Prop:=∃f,findIn K (.ref C) x=some (some (.ref f))/\FnAt K x qual st f/\keepIn K (.ref f)=true/\isFn K (.ref f)=true
theorem bF.mk{C:Addr}{x qual:Str}{st:Stmt}{f:Addr}{oc kV dc pm cd ct:Value}{od an:Option Addr}{sl:Array (Option Value)}(a:findIn K (.ref C) x=some (some (.ref f)))
  (l:K.lookup f=some ⟨oc,od,.func (fnOf x qual (iV st) (Gk st) (Cr st) .none kV dc pm an cd ct),sl⟩) (c:codeIn K cd qual=true) (k:keepIn K (.ref f)=true) (i:isFn K (.ref f)=true):bF K C x qual st:=⟨f,a,FnAt.mk l c k,k,i⟩
noncomputable def Fc(i:Int):List Int->Int
 | []=>i
 |j::r=>Fc (if j < i then j else i) r
theorem vU:∀(r:List Int) (i:Int),Fc i r<=i/\∀j∈r,Fc i r<=j
 | [],i=>⟨Int.le_refl _,λj h=>by simp at h⟩
 |a::r,i=>by
  obtain⟨h1,h2⟩:=vU r (if a < i then a else i);have h3:(if a < i then a else i)<=i/\(if a < i then a else i)<=a:=by split <;> lia
  refine⟨V4 h1 h3.1,λj hj=> ?_⟩;rcases B8.mp hj with rfl|hj
  ·exact V4 h1 h3.2
  ·exact h2 j hj
theorem wy:∀(r:List Int) (i:Int),Fc i r∈i::r
 | [],i=>by simp[Fc]
 |a::r,i=>by
  have h:=wy r (if a < i then a else i);show Fc (if a < i then a else i) r∈i::a::r;rcases B8.mp h with e|h
  ·rw[e];split <;> simp
  ·exact D5 _ (D5 _ h)
def UD{i m:Int}{r:List Int}(h1:m∈i::r)(h2:∀j∈i::r,m<=j):m=Fc i r:=by
 refine Qs (h2 _ (wy r i)) ?_;rcases B8.mp h1 with e|h
 ·rw[e];exact(vU r i).1
 ·exact(vU r i).2 m h
def Wv{i:Int}{is:List Int}{n:Nat}(hn:n=is.length):(i::is).getD (argBest (λa b=>decide ((i::is).getD a 0 < (i::is).getD b 0)) n) 0=Fc i is:=by
 subst hn;obtain⟨b1,b2⟩:=argBest_lt (λj=>(i::is).getD j 0) is.length;refine UD ?_ λj hj=> ?_
 ·rw[E4,B6 (Nat.lt_succ_of_le b1)];exact R1 _
 ·obtain⟨k,hk,rfl⟩:=List.mem_iff_getElem.mp hj;have:=b2 k (Nat.le_of_lt_succ hk);rw[show(i::is)[k]=(i::is).getD k 0 by rw[E4,B6 hk];rfl];exact this
def mS:List D->R W
 | [.lst ds]=>(match jK ds with
  |some (i::is)=> .ok (.sh (.int (Fc i is)))
  |_=> .no)
 |_=> .no
section
variable{X:Cx}{EX:Bi}{pos:Pos}
def XQ(hc:X.calm=true):Ff X (.builtin "min") mS:=by
 intro zd s σ H vs us Q I rv q;obtain⟨EX,G,ds,g,r,o⟩:=q;cases r with
 |nil=>exact False.elim o
 |cons h t=>
  cases t with
  |cons _ _=>cases h <;> exact False.elim o
  |nil=>
   cases h with
   |lst h r=>
    rename_i l _ _;simp only[mS]at o
    split at o
    ·rename_i i is e;obtain⟨u,rfl,ru⟩:=rv.one;cases ru;obtain⟨its,fO,pl,hz⟩:=I.list (g.seq h);obtain⟨el,ev⟩:=qX r fO e;have nl:l≠s.heap.objs.size:=λz=>by
      obtain⟨o',ho,_⟩:=pl.isList;exact absurd (A8 ho) (by rw[<-z];exact F1 _)
     have ll:l < s.heap.objs.size:=by
      obtain⟨o',ho,_⟩:=pl.isList;exact A8 ho
     refine call_min_walk (U9 pl.isList ⟨s.heap.objs.size,_,_,_,_,_,λa b=>decide ((i::is).getD a 0 < (i::is).getD b 0),rfl,Walks.list (A:=X.A.in1) (I.ok.hd hc) s.heap.objs.size l nl its.toArray,⟨⟨_,C5 _ rfl,rfl,rfl⟩, ?_⟩,λb hb=> ?_, ?_,CmpOf.ints_lt (λj=>(i::is).getD j 0) (λj v hP=>ev j v (by simpa using hP)),λv h' tk hP hk=> ?_⟩)
     ·exact pl.isList.at λo z=>A5 _ z
     ·rw[L9];have cJ:b=s.heap.objs.size\/b=l:=by simpa using hb
      rcases cJ with rfl|rfl
      ·exact O9 _
      ·exact S9 ll
     ·simp[el]
     ·have jZ:=hP;rw[W4]at jZ;obtain⟨t,rfl⟩:=ev _ v jZ;rw[Wv (by simp[el])];refine⟨.int _,H,I.kept (t':=tk) λb o' z=>hk b o' (by
       have hb:b≠s.heap.objs.size:=C4 (A8 z);simpa using hb) (A5 _ z),⟨t,rfl⟩,Dl o g (.int _)⟩
    ·exact o.elim
   |_=>exact False.elim o
end
def nh(l:List Int):List Int:=l.mergeSort λa b=>decide (a<=b)
def IJ{l r:List Int}(hp:r.Perm l)(hs:r.Pairwise (· <= ·)):nh l=r:=by
 have h1:(nh l).Pairwise (λa b=>(decide (a<=b))=true):=List.pairwise_mergeSort (le:=λa b=>decide (a<=b)) (λa b c h1 h2=>E8 (V4 (D3 h1) (D3 h2))) (λa b=>by
  rcases Qh a b with h|h
  ·simp[h]
  ·simp[h]) l
 refine List.Perm.eq_of_pairwise (le:=λa b:Int=>a<=b) (λa b _ _ h1 h2=>Qs h1 h2) (h1.imp λh=>D3 h) hs ?_;exact(List.mergeSort_perm l _).trans hp.symm
def jw:List D->R W
 | [.lst ds]=>(match jK ds with
  |some is=>if is.length < 64 then .ok (.ow (.lst ((nh is).map λi=> .int i))) else .no
  |none=> .no)
 |_=> .no
theorem JF:∀{us:List Value} {is:List Int},IntsAre us is->Vals (is.map λi=>V.int i) us
 |_,_,.nil=> .nil
 |_,_,.cons n t r=> .cons ⟨t,rfl⟩ (JF r)
theorem II{G:Hp}:∀is:List Int,aB K G (is.map λi=>V.int i) (is.map λi=>D.int i)
 | []=> .nil
 |_::r=> .cons (.int _) (II r)
section
variable{X:Cx}{EX:Bi}{pos:Pos}
def xq(_hc:X.calm=true):Ff X (.builtin "sorted") jw:=by
 intro zd s σ H vs us Q I rv q;obtain⟨EX,G,ds,g,r,o⟩:=q;cases r with
 |nil=>exact False.elim o
 |cons h t=>
  cases t with
  |cons _ _=>cases h <;> exact False.elim o
  |nil=>
   cases h with
   |lst h r=>
    rename_i l _ _;simp only[jw]at o
    split at o
    ·rename_i is e
     split at o
     ·rename_i hl;obtain⟨u,rfl,ru⟩:=rv.one;cases ru;obtain⟨its,fO,pl,hz⟩:=I.list (g.seq h);have ia:=wB r fO e;have il:its.length=is.length:=ia.length;refine sorted_ints pl.isList ia () λout ns' a1 a2 a3=> ?_;obtain⟨c,mf⟩:=sortedAll_at s.heap its out;have en:nh is=ns':=IJ a2 a3;rw[en]at o;have rv2:=JF a1;have fr:=I.aN.fresh (N5 s.heap.objs.size);refine⟨.ref _,upd H _ (.lst _),I.laid (t':=s.toks) (λ_ _=>sortedAll_old) (N5 _) ⟨?_,out.toList,c,rv2,by simpa using mf⟩,rfl,rR o g (II ns') _ fr⟩;rw[A3,a2.length_eq,F0];lia
     ·exact o.elim
    ·exact o.elim
   |_=>exact False.elim o
end
section
variable{X:Cx}{EX:Bi}
end
end L3
namespace PySem
open PyProof.Rows (IsTup)
namespace F
end F
def Heap.tH(h:Heap)(a t:Addr)(i:Int):Prop:=∃o,h.get? a=some o/\o.cls=.type "reversed" /\o.data=.fields #[.ref t,rawInt i]
def Wu{h h':Heap}{a:Addr}{items:Array Value}(x:IsTup h a items)(e:∀o,h.get? a=some o->h'.get? a=some o):IsTup h' a items:=x.elim λo z=>⟨o,e o z.1,z.2⟩
open AutoSeq1 (wpAny_loadPart')
section
variable{prog:Program}{w:World}{A:Around}{E:AA}{s:Shared}
def Heap.tH.ty{a l:Addr}{i:Int}(x:s.heap.tH a l i):s.TypeIs (.ref a) "reversed" :=x.elim λo z=>⟨o,z.1,z.2.1⟩
end
end PySem
namespace L3
open PySem PySem.Spec PyProof.Rows L2
variable{K:Frag}{fd:FuncData}{mg:AB}{us:List Value}{base:Heap}{H:Hp}{X:Cx}{pos:Pos}
section
variable{X:Cx}{EX:Bi}{a:Expr}{f:FE}{p p' pos pos':Pos}
end
end L3
namespace HT
open PySem PyProof.Rows
section
variable{prog:Program}{w:World}{A:Around}{E:AA}{s:Shared}
end
end HT
namespace L3
open PySem PySem.Spec PyProof.Rows L2
variable{K:Frag}{fd:FuncData}{mg:AB}{us:List Value}{base:Heap}{H:Hp}{X:Cx}{pos:Pos}
section
variable{X:Cx}{EX:Bi}{e:Expr}{f:FE}{pos p2:Pos}
end
def Dx(i:Int):List Int->Int
 | []=>i
 |j::r=>Dx (if i < j then j else i) r
theorem qT:∀(r:List Int) (i:Int),i<=Dx i r/\∀j∈r,j<=Dx i r
 | [],i=>⟨Int.le_refl _,λj h=>by simp at h⟩
 |a::r,i=>by
  obtain⟨h1,h2⟩:=qT r (if i < a then a else i);have h3:i<=(if i < a then a else i)/\a<=(if i < a then a else i):=by split <;> lia
  refine⟨V4 h3.1 h1,λj hj=> ?_⟩;rcases B8.mp hj with rfl|hj
  ·exact V4 h3.2 h1
  ·exact h2 j hj
theorem rA:∀(r:List Int) (i:Int),Dx i r∈i::r
 | [],i=>by simp[Dx]
 |a::r,i=>by
  have h:=rA r (if i < a then a else i);show Dx (if i < a then a else i) r∈i::a::r;rcases B8.mp h with e|h
  ·rw[e];split <;> simp
  ·exact D5 _ (D5 _ h)
def UC{i m:Int}{r:List Int}(h1:m∈i::r)(h2:∀j∈i::r,j<=m):m=Dx i r:=by
 refine Qs ?_ (h2 _ (rA r i));rcases B8.mp h1 with e|h
 ·rw[e];exact(qT r i).1
 ·exact(qT r i).2 m h
def IH{i:Int}{is:List Int}{n:Nat}(hn:n=is.length):(i::is).getD (argBest (λa b=>decide ((i::is).getD a 0 > (i::is).getD b 0)) n) 0=Dx i is:=by
 subst hn;obtain⟨b1,b2⟩:=argBest_gt (λj=>(i::is).getD j 0) is.length;refine UC ?_ λj hj=> ?_
 ·rw[E4,B6 (Nat.lt_succ_of_le b1)];exact R1 _
 ·obtain⟨k,hk,rfl⟩:=List.mem_iff_getElem.mp hj;have:=b2 k (Nat.le_of_lt_succ hk);rw[show(i::is)[k]=(i::is).getD k 0 by rw[E4,B6 hk];rfl];exact this
def Es:List D->R W
 | [.lst ds]=>(match jK ds with
  |some (i::is)=> .ok (.sh (.int (Dx i is)))
  |_=> .no)
 | [.tup ds]=>(match jK ds with
  |some (i::is)=> .ok (.sh (.int (Dx i is)))
  |_=> .no)
 |_=> .no
section
variable{X:Cx}{EX:Bi}{pos:Pos}
def JE(hc:X.calm=true):Ff X (.builtin "max") Es:=by
 intro zd s σ H vs us Q I rv q;obtain⟨EX,G,ds,g,r,o⟩:=q;cases r with
 |nil=>exact False.elim o
 |cons h t=>
  cases t with
  |cons _ _=>cases h <;> exact False.elim o
  |nil=>
   cases h with
   |lst h r=>
    rename_i l _ _;simp only[Es]at o
    split at o
    ·rename_i i is e;obtain⟨u,rfl,ru⟩:=rv.one;cases ru;obtain⟨its,fO,pl,hz⟩:=I.list (g.seq h);obtain⟨el,ev⟩:=qX r fO e;have ll:l < s.heap.objs.size:=by
      obtain⟨o',ho,_⟩:=pl.isList;exact A8 ho
     refine call_max_walk (U9 pl.isList ⟨s.heap.objs.size,_,_,_,_,_,λa b=>decide ((i::is).getD a 0 > (i::is).getD b 0),rfl,Walks.list (A:=X.A.in1) (I.ok.hd hc) s.heap.objs.size l (C4 ll) its.toArray,⟨⟨_,C5 _ rfl,rfl,rfl⟩, ?_⟩,λb hb=> ?_, ?_,CmpOf.ints_gt (λj=>(i::is).getD j 0) (λj v hP=>ev j v (by simpa using hP)),λv h' tk hP hk=> ?_⟩)
     ·exact pl.isList.at λo z=>A5 _ z
     ·rw[L9];have cJ:b=s.heap.objs.size\/b=l:=by simpa using hb
      rcases cJ with rfl|rfl
      ·exact O9 _
      ·exact S9 ll
     ·simp[el]
     ·have jZ:=hP;rw[W4]at jZ;obtain⟨t,rfl⟩:=ev _ v jZ;rw[IH (by simp[el])];refine⟨.int _,H,I.kept (t':=tk) λb o' z=>hk b o' (by
       have hb:b≠s.heap.objs.size:=C4 (A8 z);simpa using hb) (A5 _ z),⟨t,rfl⟩,Dl o g (.int _)⟩
    ·exact o.elim
   |tup h r=>
    rename_i l _ _;simp only[Es]at o
    split at o
    ·rename_i i is e;obtain⟨u,rfl,ru⟩:=rv.one;cases ru;obtain⟨its,fO,pl,hz⟩:=I.tuple (aA.tupS g h);obtain⟨el,ev⟩:=qX r fO e;have ll:l < s.heap.objs.size:=by
      obtain⟨o',ho,_⟩:=pl;exact A8 ho
     refine call_max_walk (wpAny_pyIter_tuple pl ⟨s.heap.objs.size,_,_,_,_,_,λa b=>decide ((i::is).getD a 0 > (i::is).getD b 0),rfl,Walks.tuple (A:=X.A.in1) (I.ok.hd hc) s.heap.objs.size l (C4 ll) its.toArray,⟨⟨_,C5 _ rfl,rfl,rfl⟩, ?_⟩,λb hb=> ?_, ?_,CmpOf.ints_gt (λj=>(i::is).getD j 0) (λj v hP=>ev j v (by simpa using hP)),λv h' tk hP hk=> ?_⟩)
     ·exact Wu pl λo z=>A5 _ z
     ·rw[L9];have cJ:b=s.heap.objs.size\/b=l:=by simpa using hb
      rcases cJ with rfl|rfl
      ·exact O9 _
      ·exact S9 ll
     ·simp[el]
     ·have jZ:=hP;rw[W4]at jZ;obtain⟨t,rfl⟩:=ev _ v jZ;rw[IH (by simp[el])];refine⟨.int _,H,I.kept (t':=tk) λb o' z=>hk b o' (by
       have hb:b≠s.heap.objs.size:=C4 (A8 z);simpa using hb) (A5 _ z),⟨t,rfl⟩,Dl o g (.int _)⟩
    ·exact o.elim
   |_=>exact False.elim o
end
def Tn.flat:Tn->Option (List D)
 | .lst ts=>mq ts
 |_=>none
def Tn.pO(t:Tn)(n:Nat):Option (List D):=match t with
 | .lst ts=>(ts[n]?).bind Tn.flat
 | .tup ts=>(ts[n]?).bind Tn.flat
 |_=>none
def Tn.jI(t:Tn)(n:Nat)(ds:List D):Tn:=match t with
 | .lst ts=> .lst (ts.set n (Tn.of (.lst ds)))
 | .tup ts=> .tup (ts.set n (Tn.of (.lst ds)))
 |t=>t
def Tn.lO{t:Tn}{ds:List D}(e:t.flat=some ds):t=Tn.of (.lst ds):=by
 cases t with
 |lst ts=>
  have e:mq ts=some ds:=e;rw[wA e];rfl
 |_=>cases e
section
variable{K:Frag}{G H:Hp}
def aX.pO{vs:List V}{ts:List Tn}{S:AS}{n:Nat}{ds:List D}(r:aX K G H vs ts S)(e:(ts[n]?).bind Tn.flat=some ds):∃c cs,vs[n]? =some (.ref c)/\S c/\H c=some (.lst cs)/\aB K G cs ds/\
  ∀{H':Hp} {qf:List V} {mO:List D},(∀b o,S b->b≠c->H b=some o->H' b=some o)->H' c=some (.lst qf)->aB K G qf mO->aX K G H' vs (ts.set n (Tn.of (.lst mO))) S:=by
 obtain⟨t,e1,e2⟩:=U8.mp e;obtain⟨v,S1,e3,h,i,f⟩:=aX.focus r e1;rw[Tn.lO e2]at h;obtain⟨c,cs,rfl,m,hH,rl⟩:=h.dB;refine⟨c,cs,e3,i c m,hH,rl,λ{H' qf mO} g hc r'=>f (λb o hb nb q=>g b o hb (λz=>nb (by rw[z];exact m)) q) (Ow.list hc m r')⟩
theorem Ow.pO{v:V}{t:Tn}{S:AS}{n:Nat}{ds:List D}(o:Ow K G H v t S)(e:t.pO n=some ds):∃a vs c cs,v=.ref a/\(H a=some (.lst vs)\/H a=some (.tup vs))/\vs[n]? =some (.ref c)/\S c/\c≠a/\H c=some (.lst cs)/\aB K G cs ds/\
  ∀{H':Hp} {qf:List V} {mO:List D},(∀b o,S b->b≠c->H b=some o->H' b=some o)->H' c=some (.lst qf)->aB K G qf mO->Ow K G H' v (t.jI n mO) S:=by
 cases o with
 |lst h ha sub r=>
  obtain⟨c,cs,e1,m,hc,rl,f⟩:=r.pO e;exact⟨_,_,c,cs,rfl,.inl h,e1,(sub c m).1,(sub c m).2,hc,rl,λ{H' qf mO} g fS r'=> .lst (g _ _ ha (Ne.symm (sub c m).2) h) ha sub (f (λb o hb nb q=>g b o (sub b hb).1 nb q) fS r')⟩
 |tup h ha sub r=>
  obtain⟨c,cs,e1,m,hc,rl,f⟩:=r.pO e;exact⟨_,_,c,cs,rfl,.inr h,e1,(sub c m).1,(sub c m).2,hc,rl,λ{H' qf mO} g fS r'=> .tup (g _ _ ha (Ne.symm (sub c m).2) h) ha sub (f (λb o hb nb q=>g b o (sub b hb).1 nb q) fS r')⟩
 |_=>cases e
end
section
variable{X:Cx}{EX:Bi}{pos:Pos}
def mR(K:Frag):R2:=λx y H Q=>CP K x y H Q\/CO K x y H Q
def Rb:px X (mR X.K):=by
 intro value slice zd s σ H x y v u Q I rx ry h hs;rcases h with h|h
 ·exact HL value slice zd s σ H x y v u Q I rx ry h hs
 ·exact EU value slice zd s σ H x y v u Q I rx ry h hs
def GS{α:Type}{xs:List α}{n:Nat}{x:α}(h:xs[n]? =some x):dC xs (n:Int)=some x:=by
 have hn:n < xs.length:=(B4.mp h).1;unfold dC kF;rw[if_pos (),if_pos ()];exact h
def mR.at{Q:VK}{a:Addr}{vs:List V}{n:Nat}{v:V}(h:H a=some (.lst vs)\/H a=some (.tup vs))(e:vs[n]? =some v)(q:Q v H):mR K (.ref a) (.int (n:Int)) H Q:=by
 rcases h with h|h
 ·exact .inl ⟨a,vs,n,v,rfl,rfl,bU.of h,GS e,q⟩
 ·exact .inr ⟨a,vs,n,v,rfl,rfl,cU.of h,GS e,q⟩
end
section
variable{K:Frag}{G:Hp}{A:AS}{p:List D->Bool}
end
section
variable{X:Cx}{EX:Bi}{pos:Pos}
end
end L3
namespace PySem
open AutoSeq1 (wpAny_loadPart')
namespace F
end F
section
variable{prog:Program}{w:World}{A:Around}{E:AA}{s:Shared}
def Heap.tB(h:Heap)(I S:Addr)(f:Value)(i n ep:Nat):Prop:=∃o,h.get? I=some o/\o.cls=.type "set_iterator" /\o.data=.fields #[f,rawInt i,.ref S,rawInt n,rawInt ep]
def Heap.tB.ty{I S:Addr}{f:Value}{i n ep:Nat}(x:s.heap.tB I S f i n ep):s.TypeIs (.ref I) "set_iterator" :=x.elim λo z=>⟨o,z.1,z.2.1⟩
end
end PySem
namespace L3
open PySem PySem.Spec PyProof.Rows L2
variable{K:Frag}{fd:FuncData}{mg:AB}{us:List Value}{base:Heap}{H:Hp}{X:Cx}{pos:Pos}
def Gx{EX:Bi}{i:Nat}{x:Str}(hN:decide X.N.Nodup=true:=by rfl')(hi:X.N[i]? =some x:=by rfl)(hx:Loc X.env.scope x:=by trivial)
  (hf:X.fn x=true\/X.env.scope.names.lookup x=some .local:=by trivial):GC X EX (.Name x pos) (gC i):=do_1 (D3 hN) hi hx hf
structure oz(K:Frag)(B f:Addr):Prop where
 sp:specialIn K (.ref B) "__getattribute__" =some (some (.builtin "type.__getattribute__"))
 rd:readsIn K B (.type "type")=true
 at_:findCls K (.ref B) (.type "type") "__init__" =some (.val (.ref f))
 kp:keepIn K (.ref f)=true
def om(P:Program)(w:World)(K:Frag)(mg:AB)(base:Heap)(cc:Bool)(b c:Str)(k n:Nat)(F:List D->R (List Str×List D)):Prop:=
 ∃B C f fd ps,ClsAt K c C/\mg b=some (.ref B)/\oz K B f/\bO P w K mg base cc k f fd ps (pF K C n F)/\Binds K fd ps []
def gS(i:Nat)(c:Str)(js:List Nat)(F:List D->R (List Str×List D))(fe:FE):FS:=λ Δ=>match(aC js Δ)[i]? with
 |some (.lt (.obj c' [] []))=>if c'=c then(match fe (Bn (aC js Δ)) with
  | .ok w=>(match F [w.d] with
   | .ok p=> .nx ((aC js Δ).set i (.lt (.obj c p.1 (p.2.map .sh))))
   |_=> .no)
  | .ex x=> .ex x (aC js Δ)
  | .no=> .no) else .no
 |_=> .no
section
variable{X:Cx}{EX:Bi}{e:Expr}{es:List Expr}{x:Str}{pp zh pos:Pos}{cc:Bool}{k k' n:Nat}{ps:List Str}
def Ws{sp:Sp}{t:TA}{B f:Addr}{pl:Sem Bool}(b:oz X.K B f)(hr:aE cc k X.A)(lk:Lk X EX)(ok:bO X.prog X.w X.K X.mg X.base cc k f fd ps sp)(hb:Binds X.K fd ps [])(hm:X.mg x=some (.ref B))(hg:Gl X x)(cZ:AG x)(ha:PA X (e::es) t)
  (cM:starEach (e::es) X.env=(false,eval e X.env)::starEach es X.env) (bH:(backTo pos (starEach es X.env)).any (·.1)=false)
  (ht:eval (.Call (.Attribute (.Name x pp) "__init__" zh) (e::es) [] pos) X.env=(do
   let ov<-eval (.Name x pp) X.env
   standAt zh.atName
   let(f,first)<-holding [ov] (getMethod ov "__init__" pl)
   callWith pos f first (backTo pos (starEach (e::es) X.env)) (backToKw pos (keywordEach [] X.env)))):
  PE X (.Call (.Attribute (.Name x pp) "__init__" zh) (e::es) [] pos) (λ σ H Q=>t σ H λvs H1=>sp vs H1 Q (pz X.K (EX σ))):=by
 intro zd s σ H Q I q;refine Z4 (pl:=pl) (rS I hg hm ?_ cZ) ht;refine method_cls I.bY b.sp (cls_value I.bY b.rd b.at_ rfl ?_);refine Y2 (first:=[]) (h₀:=X.base) I.ok.mod.lZ b.kp (Bg (ha pos zd _ σ H _ (I.tok _) q) λus s1 ⟨vs,H1,I1,r,q⟩=>⟨I1.bY, ?_⟩) cM bH;exact rf ok hr hb lk I1 r q
def IG{i:Nat}{c y:Str}(js:List Nat){fe:FE}{F:List D->R (List Str×List D)}{p3 fu:Pos}{pl:Sem Bool}(hr:aE cc k' X.A)(lk:Lk X EX)(h:om X.prog X.w X.K X.mg X.base cc x c k 1 F)(he:ED X EX e fe)(hk:k<=k':=by decide)
  (hN:X.N[i]? =some y:=by rfl) (hv:fV X.env.scope y:=by trivial) (hd:AG y:=by decide) (bT:(y ==("__classdict__" :Str))=false:=by decide)
  (hg:Gl X x:=by rfl) (cZ:AG x:=by decide) (ma:starEach [.Name y p3,e] X.env=(false,eval (.Name y p3) X.env)::starEach [e] X.env:=by rfl) (dZ:starEach [e] X.env=(false,eval e X.env)::starEach [] X.env:=by rfl)
  (bH:(backTo pos (starEach [e] X.env)).any (·.1)=false:=by rfl) (iq:swapsWith (.Call (.Attribute (.Name x pp) "__init__" zh) [.Name y p3,e] [] pos) none fu.line X.env=pure false:=by rfl)
  (ht:eval (.Call (.Attribute (.Name x pp) "__init__" zh) [.Name y p3,e] [] pos) X.env=(do
   let ov<-eval (.Name x pp) X.env
   standAt zh.atName
   let(f,first)<-holding [ov] (getMethod ov "__init__" pl)
   callWith pos f first (backTo pos (starEach [.Name y p3,e] X.env)) (backToKw pos (keywordEach [] X.env))):=by rfl):
  SD X EX (.Expr (.Call (.Attribute (.Name x pp) "__init__" zh) [.Name y p3,e] [] pos) fu) (gS i c js F fe):=by
 obtain⟨B,C,f,fd,ps,hC,hm,b,ok,hb⟩:=h;refine PS.imp (nL (Ws b (hr.mono hk) lk ok hb hm hg cZ (lV (iJ hN hv hd bT) (lV he mn dZ) ma) ma bH ht) iq) λD σ H ⟨H0,G0,G,Δ,O,E,q⟩=> ?_;obtain⟨G1,O1,sg,E1⟩:=E.aC js;unfold gS at q;generalize aC js Δ=Δ1 at q E1
 split at q
 ·rename_i c' e1
  split at q
  ·rename_i sN;subst sN;obtain⟨v0,s1,t0⟩:=E1.ow i _ _ e1 rfl;refine⟨v0,s1,G1,Bn Δ1,E1.st.gh,E1.iL, ?_⟩;cases e2:fe (Bn Δ1) with
   |ex y=>simp only[e2]at q;exact q σ G1 H O1 E1 sg
   |no=>simp only[e2]at q;exact q.elim
   |ok w=>
    simp only[e2]at q;refine WP.intro λv G2 H2 st r=> ?_;have E2:=E1.grow st;obtain⟨v1,iI,t⟩:=E2.ow i _ _ e1 rfl;rw[s1]at iI;cases iI;have s2:=E2.lt i _ e1
    split at q
    ·rename_i p ef;generalize et:(Tn.obj c' [] [])=tt at t;cases t with
     | @obj a C2 dx c2 ns2 us ts2 S S1 Pz h hl ha sub rl=>
      injection et with PM PL PK
      subst PM PL PK;have:=hC.same Pz;subst this;have:us= []:=by cases us with|nil=>rfl|cons _ _=>simp at hl
      subst this;have ga:=(E2.out i a ha).1;refine⟨a,dx,[v],λb=>if b=a then none else H2 b,G2,[w.d],rfl,rfl,if_pos rfl,λb o z=> ?_,h,λb o z=> ?_,.cons r .nil, ?_⟩
      ·simp only at z
       split at z
       ·cases z
       ·exact z
      ·simp only;rw[if_neg (En z ga)];exact E2.st.gh b o z
      rw[ef];intro G' H' Ou NK ms g' hx zk rr;have nb:∀b,¬O1 i b->b≠a:=λb nb w=>nb (by rw[w];exact ha);refine q σ G' H' _ (E2.gZ (S:=λb=>b=a) (z:=.lt _) rfl (λ_ z=>by cases z) (λ_ _=>s2) ⟨λb o n z=>ms.hh b o (by rw[if_neg (nb b n)];exact z),ms.gh,ms.gg,λb n z1 z2=>ms.nw b z1 (by rw[if_neg (nb b n)];exact z2)⟩ s1 (λb hb=> ?_) ?_) (sg.trans (st.gg.trans ms.gg))
      ·subst hb;exact⟨.inl ha,g',by rw[hx];simp⟩
      ·exact .obj (S1:=λ_=>False) hC hx zk rfl (λ_ z=>z.elim) (aX.of rr)
     |_=>cases et
    ·exact q.elim
  ·exact q.elim
 ·exact q.elim
end
def dH(K:Frag)(B:Addr)(qual:Str)(st:Stmt):Prop:=∃f,oz K B f/\FnAt K "__init__" qual st f
theorem dH.mk{B:Addr}{qual:Str}{st:Stmt}{f:Addr}{oc kV dc pm cd ct:Value}{od an:Option Addr}{sl:Array (Option Value)}(s:specialIn K (.ref B) "__getattribute__" =some (some (.builtin "type.__getattribute__")))(r:readsIn K B (.type "type")=true)
  (a:findCls K (.ref B) (.type "type") "__init__" =some (.val (.ref f)))
  (l:K.lookup f=some ⟨oc,od,.func (fnOf "__init__" qual (iV st) (Gk st) (Cr st) .none kV dc pm an cd ct),sl⟩) (c:codeIn K cd qual=true) (k:keepIn K (.ref f)=true):dH K B qual st:=⟨f,⟨s,r,a,k⟩,FnAt.mk l c k⟩
end L3
namespace PySem
namespace F
end F
section
variable{prog:Program}{w:World}{A:Around}{E:AA}{s:Shared}
end
end PySem
namespace L3
open PySem PySem.Spec PyProof.Rows L2
variable{K:Frag}{fd:FuncData}{mg:AB}{us:List Value}{base:Heap}{H:Hp}{X:Cx}{pos:Pos}
def bO.never{P:Program}{w:World}{c:Bool}{k n:Nat}{f:Addr}{ps:List Str}(hn:n=ps.length):bO P w K mg base c k f fd ps (Br K n λ_=> .no):=
 ⟨λ_ _ _ _ h=>h.1.trans hn,λ_ _ _ _ _ _ _ _ _ _ _ _ _ h=>by obtain⟨_,_,_,_,_,o⟩:=h;exact False.elim o⟩
section
variable{X:Cx}{EX:Bi}{a:Expr}{f:FE}{p p' pos pos':Pos}
end
structure tF(K:Frag)(C:Addr):Prop where
 pg:plainGet K C "__class__" =true
 hd:hasDictIn K C=true
 cl:findIn K (.ref C) "__class__" =some (some (.builtin "object.__class__"))
 gs:specialIn K (.builtin "object.__class__") "__get__" =some (some (.builtin "getset_descriptor.__get__"))
 tk:takesIn K (.builtin "object.__class__")=some true
 ob:mroIn K C (.type "object")=some true
section
variable{X:Cx}{EX:Bi}{zd:AE}{σ:Sg}{G H:Hp}{s:Shared}
variable{a:Expr}{fo:FE}{tb:List (Str×Bool)}{pp pos:Pos}
end
section
variable{P:Program}{w:World}{K:Frag}{mg:AB}{base:Heap}{cc:Bool}{k n:Nat}{ps:List Str}{st:Stmt}{Fn:AF}
def Hk{m q c:Str}{C:Addr}(xa:ClsAt K c C)(cl:iN K C)(W:bF K C m q st)(ok:∀{f:Addr} {fd:FuncData},bI K m q st f fd->bO P w K mg base cc k f fd ps (Br K (n + 1) Fn)/\Binds K fd ps []):iA P w K mg base cc k n m c Fn:=by
 obtain⟨f,a,⟨fd,F⟩,kp,i⟩:=W;exact⟨⟨C,f,fd,ps,xa,cl,⟨a,i,kp⟩,(ok F).1,(ok F).2⟩⟩
def Dc{x:Str}{h:Heap}(X:K.In h)(G:h.Ns mainGlobals mg)(W:aM K x st)(ok:∀{f:Addr} {fd:FuncData},bI K x x st f fd->bO P w K mg base cc k f fd ps (Br K ps.length Fn)/\Binds K fd ps []):uQ P w K mg base cc x k ps Fn:=by
 obtain⟨f,a,fd,F⟩:=W;exact lA F (mg_of X G a) (ok F).2 (ok F).1
end
section
variable{X:Cx}{zd:AE}{σ:Sg}{H:Hp}{s:Shared}{a:Addr}{kvs:List (Ap×V)}{k:Ap}{u:Value}{A:Around}{E:AA}
def Wr{x:V}{r:Value}{Q:AA}(I:Inv X zd σ H s)(e:H a=some (.dK kvs))(ry:RelV (kV k) u)(rx:RelV x r)(l:kvs.length < sizeLine)
  (h1:∀v w' s',Dk kvs k=some v->Inv X zd σ H s'->RelV v w'->Q w' s') (h2:Dk kvs k=none->∀s',Inv X zd σ (upd H a (.dK (Co kvs k x))) s'->Q r s'):
  wpAny (model X.prog X.w) A (call (.builtin "dict.setdefault") [.ref a,u,r]) Q E s:=by
 obtain⟨z,hd,vs,rel,dd⟩:=DI I.aN e;have hl:(Co kvs k x).length<=sizeLine:=by have:=xC kvs k x;lia
 have hr:=rel.val k;refine Qi X6 dd.typeIs PySem.F.entry_dict_setdefault (PySem.F.args_dict_setdefault_3 _ _ _) (PySem.kt_meets_setdefault (eG X.prog X.w) a (la ry) hd r) ⟨vs,dd,by rw[<-rel.length];exact z,λw' hw=> ?_,λhn h' sW hs=> ?_⟩
 ·cases hv:Dk kvs k with
  |none=>
   have hn:valueAt vs k=none:=bJ.none_of (by rw[<-hv];exact hr);rw[hn]at hw;cases hw
  |some v=>
   obtain⟨w2,OT,rv⟩:=bJ.some_of (v:=v) (o:=valueAt vs k) (by rw[<-hv];exact hr);rw[OT]at hw;cases hw;exact h1 v w' _ hv (I.tok _) rv
 ·have he:∃q,h'.get? a=some q:=let⟨q,_,_,hq,_⟩:=sW;⟨q,hq⟩;refine h2 ?_ _ (vY I (by rw[e];exact True.intro) hs he (EN hl hd (rel.put k rx) sW));cases hv:Dk kvs k with
  |none=>rfl
  |some v=>
   obtain⟨w2,OT,rv⟩:=bJ.some_of (v:=v) (o:=valueAt vs k) (by rw[<-hv];exact hr);rw[OT]at hn;cases hn
end
def Rz(td ty tx:TE):TE:=λ σ H Q=>td σ H λx H1=>∃a,x=.ref a/\QI H1 a/\ty σ H1 λy H2=>tx σ H2 λz H3=>∃kvs k,H3 a=some (.dK kvs)/\y=kV k/\kvs.length < sizeLine/\
 (∀v,Dk kvs k=some v->Q v H3)/\(Dk kvs k=none->Q z (upd H3 a (.dK (Co kvs k z))))
section
variable{X:Cx}{EX:Bi}{o e f:Expr}{zh zf pos:Pos}{td ty tx:TE}
def UB(ho:PE X o td)(he:PE X e ty)(hf:PE X f tx)(m:M2 X o "setdefault" zh e f zf):PE X (.Call (.Attribute o "setdefault" zh) [e,f] [] zf) (Rz td ty tx):=by
 intro zd s σ H Q I h;refine wpAny_Call_method m.base m.BH m.line ZA2 X6 PySem.F.type_dict_setdefault (Bg (ho zd s σ H _ I h) λu s1 ⟨x,H1,I1,rx,a,ex,d,q1⟩=> ?_);subst ex;obtain rfl:u=Value.ref a:=rx;obtain⟨t1,t2,_⟩:=EK I1 d;refine⟨t1,t2, ?_⟩;rw[m.trees];refine R8 rfl (X2 (M8 (Bg (he zd s1 σ H1 _ I1 q1) λiv s2 ⟨y,H2,I2,ry,q2⟩=>
  M8 (Bg (hf zd s2 σ H2 _ I2 q2) λfv s3 ⟨z,H3,I3,rz,kvs,k,ea,ey,l,q3,q4⟩=>Q0 ?_))))
 subst ey;exact Wr I3 ea ry rz l (λv w' s4 hv I4 rv=>⟨v,_,I4,rv,q3 v hv⟩) λhn s4 I4=>⟨z,_,I4,rz,q4 hn⟩
end
def mv(zm:List (Ap×Tn))(k:Ap):List (Ap×Tn):=match Dj zm k with
 |some _=>zm
 |none=>zm ++ [(k,.lst [])]
section
variable{X:Cx}{EX:Bi}{pos:Pos}
theorem IF{k:Ap}:∀{kvs:List (Ap×V)} {zm:List (Ap×Tn)},kvs.map (·.1)=zm.map (·.1)->Dj zm k=none->Dk kvs k=none
 | [],_,_,_=>rfl
 |_::_,[],e,_=>by simp at e
 |(x,v)::kvs,(y,t)::zm,e,h=>by
  simp only[B1,U1]at e;obtain⟨e1,e2⟩:=e;subst e1
  by_cases q:x=k
  ·exfalso;unfold Dj at h;rw[V2 (by simpa using q)]at h;cases h
  ·rw[jV q];refine IF e2 ?_;unfold Dj at h⊢
   rwa[V3 (by simpa using q)]at h
end
section
variable{P:Program}{w:World}{K:Frag}{mg:AB}{base:Heap}{cc:Bool}{j k n:Nat}{ps:List Str}{st:Stmt}{Fn:AF}{C:Addr}{m c q f:Str}
def XB(K:Frag)(C:Addr)(q f:Str)(st:Stmt):Prop:=keepIn K (.ref C)=true/\dW K C/\findIn K (.ref C) f=some none/\∃(fI:Addr) (fd:FuncData) (o:Obj),Qz K C fI/\K.lookup fI=some o/\o.cls=.type "function" /\bI K "__init__" q st fI fd
def XB.mk{fI N L:Addr}{nm qn:Str}{bs sub:List Value}{sn:List Str}{ab:Bool}{col:Option Bool}{dd od uI tZ odI an:Option Addr}{k0 k1 k2 k3 k5:Option Value}{oc c0 oL kV dc pm cd ct:Value}{es jo:Array DictEntry}{ep uE:Nat}{sl tW tU slI:Array (Option Value)}{BK:ClassData}
  (lc:K.lookup C=some (excClassObj nm qn C N bs (.ref L::gH) true sn sub ab col dd k0 k1 k2 k3 k5 "ValueError.__new__")) (ln:K.lookup N=some ⟨oc,od,.dict es ep,sl⟩) (_:findIn K (.ref C) "__init__" =some (some (.ref fI))) (kn:oN es=true) (hi:nsFind es "__init__" =some (.ref fI))
  (ll:K.lookup L=some ⟨c0,uI,.cls BK,tW⟩) (lm:K.lookup BK.ns=some ⟨oL,tZ,.dict jo uE,tU⟩) (km:oN jo=true) (hL:nsFind jo "__init__" =none) (sa:findIn K (.ref C) "__setattr__" =some (some (.builtin "object.__setattr__"))) (nf:findIn K (.ref C) f=some none) (kp:keepIn K (.ref C)=true)
  (l:K.lookup fI=some ⟨.type "function",odI,.func (fnOf "__init__" q (iV st) (Gk st) (Cr st) .none kV dc pm an cd ct),slI⟩) (cI:codeIn K cd q=true) (kI:keepIn K (.ref fI)=true):XB K C q f st:=
 ⟨kp,UH lc sa,nf,fI,_,_,Sq lc ln kn hi ll lm km hL,l,rfl,vA l cI kI⟩
def vf(xa:ClsAt K c C)(gx:mg c=some (.ref C))(b:XB K C q f st)(ok:∀{fI:Addr} {fd:FuncData},bI K "__init__" q st fI fd->dW K C->findIn K (.ref C) f=some none->bO P w K mg base false 1 fI fd ps (jx C f)/\Binds K fd ps []):XC P w K mg base c f C:=by
 obtain⟨kp,xc,nf,fI,fd,o,mk,l,e,F⟩:=b;exact⟨xa,gx,kp,xc,fI,fd,ps,o,mk,l,e,(ok F xc nf).1,(ok F xc nf).2⟩
def XB0{N L:Addr}{nm qn:Str}{bs sub:List Value}{sn:List Str}{ab:Bool}{col:Option Bool}{dd od uI tZ:Option Addr}{k0 k1 k2 k3 k5:Option Value}{oc c0 oL:Value}{es jo:Array DictEntry}{ep uE:Nat}{sl tW tU:Array (Option Value)}{BK:ClassData}
  (lc:K.lookup C=some (excClassObj nm qn C N bs (.ref L::gH) true sn sub ab col dd k0 k1 k2 k3 k5 "ValueError.__new__")) (ln:K.lookup N=some ⟨oc,od,.dict es ep,sl⟩) (kn:oN es=true) (hi:nsFind es "__init__" =none)
  (ll:K.lookup L=some ⟨c0,uI,.cls BK,tW⟩) (lm:K.lookup BK.ns=some ⟨oL,tZ,.dict jo uE,tU⟩) (km:oN jo=true) (hL:nsFind jo "__init__" =none) (kp:keepIn K (.ref C)=true):keepIn K (.ref C)=true/\rJ K C:=⟨kp,UE lc ln kn hi ll lm km hL⟩
def XB9(K:Frag)(C:Addr):Prop:=keepIn K (.ref C)=true/\rJ K C
def So(xa:ClsAt K c C)(gx:mg c=some (.ref C))(b:XB9 K C):NU K mg c C:=⟨xa,gx,b.1,b.2⟩
def tF.mm(pg:plainGet K C Str.empty=true)(hd:hasDictIn K C=true)(cl:findIn K (.ref C) "__class__" =some (some (.builtin "object.__class__")))(gs:specialIn K (.builtin "object.__class__") "__get__" =some (some (.builtin "getset_descriptor.__get__")))(tk:takesIn K (.builtin "object.__class__")=some true)(ob:mroIn K C (.type "object")=some true):tF K C:=⟨pg,hd,cl,gs,tk,ob⟩
def aZ.mk(h:findIn K (.ref C) f=some none):aZ K C f:=h
def oU{tb:List (Str×(AF))}(d:iA P w K mg base cc j n m c Fn)(r:bE P w K mg base cc k n m tb)(hj:j<=k:=by decide):bE P w K mg base cc k n m ((c,Fn)::tb):=.one d hj r
def sA:bE P w K mg base cc k n m []:=.nil
def DD{Fi:List D->R (List Str×List D)}(xa:ClsAt K c C)(gx:mg c=some (.ref C))(ms:makesIn K C=true)(kc:keepIn K (.ref C)=true)(W:bF K C "__init__" q st)(ok:∀{f:Addr} {fd:FuncData},bI K "__init__" q st f fd->bO P w K mg base cc k f fd ps (pF K C n Fi)/\Binds K fd ps []):oj P w K mg base cc c k n Fi:=by
 obtain⟨f,a,⟨fd,F⟩,kp,i⟩:=W;exact⟨C,f,fd,ps,xa,gx,⟨ms,a,i,kc⟩,(ok F).1,(ok F).2⟩
end
def Hs:HO->Bool
 | .ins _ _ _=>true
 | .dK _=>true
 |_=>false
mutual
def Tn.bL:Tn->Bool
 | .sh _=>true
 | .lst _=>false
 | .tup _=>false
 | .aD zm=>Tn.cE zm
 | .obj _ _ ts=>Tn.cL ts
def Tn.cL:List Tn->Bool
 | []=>true
 |t::ts=>t.bL && Tn.cL ts
def Tn.cE:List (Ap×Tn)->Bool
 | []=>true
 |(_,t)::ts=>t.bL && Tn.cE ts
end
theorem Tn.eD:∀zm:List (Ap×Tn),Tn.cL (zm.map (·.2))=Tn.cE zm
 | []=>by simp only[O0,Tn.cL,Tn.cE]
 |(k,t)::zm=>by simp only[B1,Tn.cL,Tn.cE,Tn.eD zm]
mutual
theorem Ow.lend{G H:Hp}:∀{v:V} {t:Tn} {S:AS},Ow K G H v t S->t.bL=true->∃S':AS,(∀b,S' b->S b/\∃o,H b=some o/\Hs o=true)/\Ow K G H v t S'
 |_,_,_,.sh h,_=>⟨λ_=>False,λ_ z=>z.elim,.sh h⟩
 |_,_,_,.lst h ha sub r,e=>by simp only[Tn.bL]at e;cases e
 |_,_,_,.tup h ha sub r,e=>by simp only[Tn.bL]at e;cases e
 |_,_,_,.aD (a:=a) h hk ha sub r,e=>by
  simp only[Tn.bL]at e;obtain⟨S1,f,r'⟩:=aX.lend r (by rw[Tn.eD];exact e);refine⟨λb=>b=a\/S1 b,λb hb=> ?_,.aD h hk (.inl rfl) (λb hb=>⟨.inr hb,(sub b (f b hb).1).2⟩) r'⟩;rcases hb with rfl|hb
  ·exact⟨ha,_,h,rfl⟩
  ·exact⟨(sub b (f b hb).1).1,(f b hb).2⟩
 |_,_,_,.obj (a:=a) hc h hl ha sub r,e=>by
  simp only[Tn.bL]at e;obtain⟨S1,f,r'⟩:=aX.lend r e;refine⟨λb=>b=a\/S1 b,λb hb=> ?_,.obj hc h hl (.inl rfl) (λb hb=>⟨.inr hb,(sub b (f b hb).1).2⟩) r'⟩;rcases hb with rfl|hb
  ·exact⟨ha,_,h,rfl⟩
  ·exact⟨(sub b (f b hb).1).1,(f b hb).2⟩
theorem aX.lend{G H:Hp}:∀{vs:List V} {ts:List Tn} {S:AS},aX K G H vs ts S->Tn.cL ts=true->∃S':AS,(∀b,S' b->S b/\∃o,H b=some o/\Hs o=true)/\aX K G H vs ts S'
 |_,_,_,.nil,_=>⟨λ_=>False,λ_ z=>z.elim,.nil⟩
 |_,_,_,.cons h r dj s1 s2,e=>by
  simp only[Tn.cL,C9]at e;obtain⟨A,fA,hA⟩:=Ow.lend h e.1;obtain⟨B,fB,hB⟩:=aX.lend r e.2;exact⟨λb=>A b\/B b,λb hb=>hb.elim (λz=>⟨s1 b (fA b z).1,(fA b z).2⟩) λz=>⟨s2 b (fB b z).1,(fB b z).2⟩,.cons hA hB (λb x y=>dj b (fA b x).1 (fB b y).1) (λ_ z=> .inl z) λ_ z=> .inr z⟩
end
mutual
def Go:D->Bool
 | .aJ=>true
 | .bl _=>true
 | .int _=>true
 | .str _=>true
 | .lst ds=>eS ds
 | .tup ds=>eS ds
 |_=>false
def eS:List D->Bool
 | []=>true
 |d::ds=>Go d && eS ds
end
mutual
def Hb:Tn->Bool
 | .sh d=>Go d
 | .lst ts=>pB ts
 | .tup ts=>pB ts
 | .aD zm=>nH zm
 | .obj _ _ ts=>pB ts
def pB:List Tn->Bool
 | []=>true
 |t::ts=>Hb t && pB ts
def nH:List (Ap×Tn)->Bool
 | []=>true
 |(_,t)::ts=>Hb t && nH ts
end
theorem Kj:∀zm:List (Ap×Tn),pB (zm.map (·.2))=nH zm
 | []=>by simp only[O0,pB,nH]
 |(k,t)::zm=>by simp only[B1,pB,nH,Kj zm]
def vq:W->Bool
 | .sh d=>Go d
 | .ow d=>Hb (Tn.of d)
 | .tr t=>Hb t
open Classical in
def aP(G:Hp)(S:AS):Hp:=λb=>if S b then none else G b
section
variable{K:Frag}{G H:Hp}{S:AS}
def cQ:aA (aP G S) G:=λb o e=>by
 unfold aP at e
 split at e
 ·cases e
 ·exact e
def rq{b:Addr}(h:¬S b):aP G S b=G b:=by unfold aP;rw[if_neg h]
def vT{b:Addr}(h:S b):aP G S b=none:=by unfold aP;rw[if_pos h]
def wU(hs:∀b o,S b->G b=some o->Hs o=true){b:Addr}{o:HO}(e:G b=some o)(n:Hs o=false):aP G S b=some o:=by
 rw[rq λz=>by have:=hs b o z e;rw[n]at this;cases this];exact e
def GR(hs:∀b o,S b->G b=some o->Hs o=true){a:Addr}{u:HO}(h:Rd G a u)(n:Hs u=false):Rd (aP G S) a u:=by
 rcases h with h|⟨o,h⟩
 ·exact .inl (wU hs h n)
 ·exact .inr ⟨o,wU hs h rfl⟩
mutual
theorem aU.aP(hs:∀b o,S b->G b=some o->Hs o=true):∀{v:V} {d:D},aU K G v d->Go d=true->aU K (L3.aP G S) v d
 |_,_,.aJ,_=> .aJ
 |_,_,.bl b,_=> .bl b
 |_,_,.int i,_=> .int i
 |_,_,.str x,_=> .str x
 |_,_,.lst h r,e=>by
  simp only[Go]at e;exact .lst (h.elim (λz=> .inl (GR hs z rfl)) .inr) (aB.aP hs r e)
 |_,_,.tup h r,e=>by
  simp only[Go]at e;exact .tup (h.elim (λz=> .inl (GR hs z rfl)) .inr) (aB.aP hs r e)
 |_,_,.dS _ _,e=>by simp only[Go]at e;cases e
 |_,_,.dR _ _ _ _ _,e=>by simp only[Go]at e;cases e
 |_,_,.aD _ _ _,e=>by simp only[Go]at e;cases e
 |_,_,.obj _ _ _ _,e=>by simp only[Go]at e;cases e
theorem aB.aP(hs:∀b o,S b->G b=some o->Hs o=true):∀{vs:List V} {ds:List D},aB K G vs ds->eS ds=true->aB K (L3.aP G S) vs ds
 |_,_,.nil,_=> .nil
 |_,_,.cons h r,e=>by
  simp only[eS,C9]at e;exact .cons (aU.aP hs h e.1) (aB.aP hs r e.2)
end
mutual
theorem Ow.aP(hs:∀b o,S b->G b=some o->Hs o=true):∀{v:V} {t:Tn} {S':AS},Ow K G H v t S'->Hb t=true->Ow K (L3.aP G S) H v t S'
 |_,_,_,.sh h,e=>by simp only[Hb]at e;exact .sh (h.aP hs e)
 |_,_,_,.lst h ha sub r,e=>by simp only[Hb]at e;exact .lst h ha sub (aX.aP hs r e)
 |_,_,_,.tup h ha sub r,e=>by simp only[Hb]at e;exact .tup h ha sub (aX.aP hs r e)
 |_,_,_,.aD h hk ha sub r,e=>by simp only[Hb]at e;exact .aD h hk ha sub (aX.aP hs r (by rw[Kj];exact e))
 |_,_,_,.obj hc h hl ha sub r,e=>by simp only[Hb]at e;exact .obj hc h hl ha sub (aX.aP hs r e)
theorem aX.aP(hs:∀b o,S b->G b=some o->Hs o=true):∀{vs:List V} {ts:List Tn} {S':AS},aX K G H vs ts S'->pB ts=true->aX K (L3.aP G S) H vs ts S'
 |_,_,_,.nil,_=> .nil
 |_,_,_,.cons h r dj s1 s2,e=>by
  simp only[pB,C9]at e;exact .cons (Ow.aP hs h e.1) (aX.aP hs r e.2) dj s1 s2
end
theorem ExcAt.aP(hs:∀b o,S b->G b=some o->Hs o=true){cls:Value}{dx:Option Addr}{x:Xn}(h:ExcAt K G cls dx x)(e:eS x.vs=true):ExcAt K (L3.aP G S) cls dx x:=by
 cases h with
 |bare hc=>exact .bare hc
 |gX hc hd hl r=>exact .gX hc (wU hs hd rfl) hl (r.aP hs e)
end
def gJ(js:List Nat):Nat->SE->DE
 |_,[]=> []
 |n,s::Δ=>(if js.contains n=true then s.any else s.mB)::gJ js (n + 1) Δ
def Hi(js:List Nat)(Δ:SE):DE:=gJ js 0 Δ
theorem JD(js:List Nat):∀(Δ:SE) (n i:Nat),(gJ js n Δ)[i]? =(Δ[i]?).map λs=>if js.contains (n + i)=true then s.any else s.mB
 | [],n,i=>by simp only[gJ,List.getElem?_nil,Option.map_none]
 |s::Δ,n,0=>by simp only[gJ,R4,L7,Nat.add_zero]
 |s::Δ,n,i + 1=>by
  simp only[gJ,R3];rw[JD js Δ (n + 1) i,show n + 1 + i=n + (i + 1) by lia]
theorem JC(js:List Nat):∀(Δ:SE) (n:Nat),(gJ js n Δ).length=Δ.length
 | [],_=>rfl
 |s::Δ,n=>by simp only[gJ,B5,JC js Δ]
def nR(js:List Nat)(Δ:SE):Bool:=js.all λj=>match Δ[j]? with
 |some s=>(match s.own with
  |some t=>t.bL
  |none=>true)
 |none=>true
section
variable{K:Frag}{H0:HB}{G0 G H:Hp}{σ:Sg}{Δ:SE}{O:OS}
def Sl.rP{s:Sl}{d:D}(e:s.any=some d):s=.sh d\/∃t,s.own=some t/\t.d=d:=by
 cases s with
 |no=>cases e
 |sh d'=>cases e;exact .inl rfl
 |ow d'=>cases e;exact .inr ⟨_,rfl,Tn.kN _⟩
 |tr t=>cases e;exact .inr ⟨_,rfl,rfl⟩
 |lk d'=>cases e;exact .inr ⟨_,rfl,Tn.kN _⟩
 |lt t=>cases e;exact .inr ⟨_,rfl,rfl⟩
theorem Ev.lend(E:Ev K H0 G0 G H σ Δ O)(js:List Nat)(hl:nR js Δ=true):∃S:AS,(∀b,S b->∃i,O i b)/\(∀b,S b->∃o,H b=some o/\Hs o=true)/\aR K (Dr G H S) σ (Hi js Δ):=by
 let S:AS:=λb=>∃(i:Nat) (s:Sl) (t:Tn) (v:V) (S':AS),Δ[i]? =some s/\s.own=some t/\σ[i]? =some (some v)/\(∀b,S' b->O i b/\∃o,H b=some o/\Hs o=true)/\S' b
 have hS:∀b,S b->∃i,O i b:=λb ⟨i,s,t,v,S',_,_,_,f,hb⟩=>⟨i,(f b hb).1⟩;have sg:aA G (Dr G H S):=λb o q=>by
  unfold Dr
  split
  ·rename_i hb;obtain⟨i,hi⟩:=hS b hb;rw[(E.out i b hi).1]at q;cases q
  ·exact q
 refine⟨S,hS,λb ⟨i,s,t,v,S',_,_,_,f,hb⟩=>(f b hb).2,by unfold Hi;rw[JC];exact E.len,λi d q=> ?_⟩;unfold Hi at q;rw[JD,O7]at q;obtain⟨s,es,q⟩:=N3.mp q
 split at q
 ·rename_i hj;rcases Sl.rP q with rfl|⟨t,to,rfl⟩
  ·obtain⟨v,e1,r⟩:=E.sh i d es;exact⟨v,e1,r.mono sg⟩
  ·obtain⟨v,e1,w⟩:=E.ow i s t es to;have lt:t.bL=true:=by
    have:=F8.mp hl i (S6.mp hj);rw[es]at this;simp only[to]at this;exact this
   obtain⟨S',f,w'⟩:=w.lend lt;refine⟨v,e1,w'.has sg λb o hb hq=> ?_⟩;unfold Dr;rw[if_pos ⟨i,s,t,v,S',es,to,e1,f,hb⟩];exact hq
 ·cases s with
  |sh d'=>cases q;obtain⟨v,e1,r⟩:=E.sh i _ es;exact⟨v,e1,r.mono sg⟩
  |_=>cases q
def IE(E:Ev K H0 G0 G H σ Δ O){S:AS}(hS:∀b,S b->∃i,O i b):aP (Dr G H S) S=G:=by
 funext b
 by_cases hb:S b
 ·rw[vT hb];obtain⟨i,hi⟩:=hS b hb;exact(E.out i b hi).1.symm
 ·rw[rq hb];unfold Dr;rw[if_neg hb]
def EA(E:Ev K H0 G0 G H σ Δ O){S:AS}:aA (Dr G H S) H:=λb o q=>by
 unfold Dr at q
 split at q
 ·exact q
 ·exact E.st.gh b o q
def DZ{S:AS}(hk:∀b,S b->∃o,H b=some o/\Hs o=true):∀b,S b->∃o,Dr G H S b=some o/\Hs o=true:=λb hb=>by
 obtain⟨o,e,l⟩:=hk b hb;exact⟨o,by unfold Dr;rw[if_pos hb];exact e,l⟩
end
theorem Step.aP{G H G2 H2:Hp}{S:AS}(st:Step G H G2 H2):Step (L3.aP G S) H (L3.aP G2 S) H2:=
 ⟨st.hh,λb o q=>st.gh b o (cQ b o q),λb o q=>by
  by_cases hb:S b
  ·rw[vT hb]at q;cases q
  ·rw[rq hb]at q⊢;exact st.gg b o q,λb n z=>by
  by_cases hb:S b
  ·exact vT hb
  ·rw[rq hb]at n⊢;exact st.nw b n z⟩
def Step.kg{G H G2 H2:Hp}{S:AS}(st:Step G H G2 H2)(hk:∀b,S b->∃o,G b=some o/\Hs o=true):∀b,S b->∃o,G2 b=some o/\Hs o=true:=λb hb=>by
 obtain⟨o,e,l⟩:=hk b hb;exact⟨o,st.gg b o e,l⟩
def lZ{G:Hp}{S:AS}(hk:∀b,S b->∃o,G b=some o/\Hs o=true):∀b o,S b->G b=some o->Hs o=true:=λb o hb q=>by
 obtain⟨o',e,l⟩:=hk b hb;rw[e]at q;cases q;exact l
def Ry(EX:jt):jt:=⟨λx G H=>eS x.vs=true/\∃S:AS,(∀b,S b->∃o,G b=some o/\Hs o=true)/\EX.p x (aP G S) H,
 λ_ _ _ _ _ st ⟨pl,S,k,q⟩=>⟨pl,S,st.kg k,EX.mono _ _ _ _ _ st.aP q⟩⟩
def vp(EX:Bi):Bi:=λ σ=>Ry (EX σ)
def Lk.lend{EX:Bi}(lk:Lk X EX):Lk X (vp EX):=λzd σ H s e s' I c=>by
 obtain⟨a,C,dx,T,H',h1,h2,h3,h4,h5,h6,h7,h8,h9,PC,x,G,sg,ea,pl,S,k,q⟩:=c;exact lk zd σ H s e s' I ⟨a,C,dx,T,H',h1,h2,h3,h4,h5,h6,h7,h8,h9,PC,x,aP G S,cQ.trans sg,ea.aP (lZ k) pl,q⟩
section
variable{K:Frag}{EX:Bi}{H0:HB}{G0 G H:Hp}{σ:Sg}{Δ:SE}{O:OS}{f:FE}{Q:VK}{js:List Nat}{w:W}{x:Xn}
def UA(E:Ev K H0 G0 G H σ Δ O)(hl:nR js Δ=true)(e:f (Hi js Δ)=.ok w)(pw:vq w=true)(q:WP K G H w Q):tD K EX f σ H Q:=by
 obtain⟨S,hS,hk,hs⟩:=E.lend js hl;have k1:=DZ (G:=G) hk;refine⟨Dr G H S,Hi js Δ,EA E,hs, ?_⟩;rw[e];have cX:∀{G2 H2:Hp},Step (Dr G H S) H G2 H2->Step G H (aP G2 S) H2:=λst=>by
  have:=st.aP (S:=S);rw[IE E hS]at this;exact this
 cases w with
 |sh d=>exact λv G2 H2 st r=>q v (aP G2 S) H2 (cX st) (r.aP (lZ (st.kg k1)) pw)
 |ow d=>exact λv S' G2 H2 st fr t=>q v S' (aP G2 S) H2 (cX st) (λa ha=>⟨(fr a ha).1,cQ.free (fr a ha).2.1,(fr a ha).2.2⟩) (t.aP (lZ (st.kg k1)) pw)
 |tr t=>exact λv S' G2 H2 st fr t=>q v S' (aP G2 S) H2 (cX st) (λa ha=>⟨(fr a ha).1,cQ.free (fr a ha).2.1,(fr a ha).2.2⟩) (t.aP (lZ (st.kg k1)) pw)
def Uz(E:Ev K H0 G0 G H σ Δ O)(hl:nR js Δ=true)(e:f (Hi js Δ)=.ex x)(pl:eS x.vs=true)(q:(EX σ).p x G H):tD K (vp EX) f σ H Q:=by
 obtain⟨S,hS,hk,hs⟩:=E.lend js hl;refine⟨Dr G H S,Hi js Δ,EA E,hs, ?_⟩;rw[e];exact⟨pl,S,DZ hk,by rw[IE E hS];exact q⟩
end
inductive FM where
 |ok (d:D) (Δ:SE)|ex (x:Xn) (Δ:SE)|no
def abk(K:Frag)(EX:Bi)(H0:HB)(G0 G1:Hp)(σ:Sg)(r:FM)(Q:VK):Prop:=match r with
 | .ok d Δ=>∀v G H O,Ev K H0 G0 G H σ Δ O->aA G1 G->aU K G v d->Q v H
 | .ex x Δ=>∀G H O,Ev K H0 G0 G H σ Δ O->aA G1 G->(EX σ).p x G H
 | .no=>False
def tM(K:Frag)(EX:Bi)(g:SE->FM):TE:=λ σ H Q=>∃H0 G0 G Δ O,Ev K H0 G0 G H σ Δ O/\abk K EX H0 G0 G σ (g Δ) Q
abbrev EM(X:Cx)(EX:Bi)(e:Expr)(g:SE->FM):Prop:=PE X e (tM X.K EX g)
def ng(js:List Nat)(f:FE):SE->FM:=λ Δ=>if nR js Δ=true then(match f (Hi js Δ) with
 | .ok w=>if vq w=true then .ok w.d Δ else .no
 | .ex x=>if eS x.vs=true then .ex x Δ else .no
 | .no=> .no) else .no
section
variable{X:Cx}{EX:Bi}{a b e:Expr}{f:FE}{p:FT}{g g2:SE->FM}{pos:Pos}
def Uy(js:List Nat)(he:ED X (vp EX) e f):EM X EX e (ng js f):=PE.imp he λ σ H Q ⟨H0,G0,G,Δ,O,E,q⟩=>by
 unfold ng at q
 split at q
 ·rename_i hl;cases e1:f (Hi js Δ) with
  |ok w=>
   simp only[e1]at q
   split at q
   ·rename_i pw;exact UA E hl e1 pw (WP.intro λv G' H' st r=>q v G' H' O (E.grow st) st.gg r)
   ·exact q.elim
  |ex x=>
   simp only[e1]at q
   split at q
   ·rename_i pl;exact Uz E hl e1 pl (q G H O E (aA.refl _))
   ·exact q.elim
  |no=>simp only[e1]at q;exact q.elim
 ·exact q.elim
end
noncomputable def mZ(i:Nat)(g:SE->FM):FS:=λ Δ=>match g Δ with
 | .ok d Δ1=> .nx (Δ1.set i (.sh d))
 | .ex x Δ1=> .ex x Δ1
 | .no=> .no
section
variable{X:Cx}{EX:Bi}{e:Expr}{g:SE->FM}{g1 g2:FS}{pos:Pos}
def Ux{i:Nat}{x:Str}{pos':Pos}(he:EM X EX e g)(hN:X.N.Nodup)(hi:X.N[i]? =some x:=by rfl)(hx:Loc X.env.scope x:=by trivial)(hs:swapsWith e (some (.Name x pos')) pos.line X.env=pure false:=by rfl)
  (hf:X.fn x=true\/X.env.scope.names.lookup x=some .local:=by trivial):SD X EX (.Assign [.Name x pos'] e pos) (mZ i g):=
 PS.imp (vD hN hi hx he hs hf) λD σ H ⟨H0,G0,G,Δ,O,E,q⟩=>by
  refine⟨H0,G0,G,Δ,O,E, ?_⟩;unfold mZ at q;cases e1:g Δ with
  |ok d Δ1=>simp only[e1]at q;exact λv G1 H1 O1 E1 s1 r1=>q _ G1 H1 O1 (E1.put r1) s1
  |ex x Δ1=>simp only[e1]at q;exact λG1 H1 O1 E1 s1=>q σ G1 H1 O1 E1 s1
  |no=>simp only[e1]at q;exact q.elim
end
def Uw{Δ:SE}{i:Nat}{s:Sl}{t t':Tn}{lk:Bool}(e:Δ[i]? =some s)(q:s.tree=some (t,lk)):Bn (Δ.set i (Sl.mk lk t'))=Bn Δ:=by
 unfold Bn;rw[List.map_set];apply Q2;intro j
 by_cases h:i=j
 ·subst h;have cR:i < Δ.length:=(B4.mp e).1;rw[G6 (by rw[A3];exact cR),B3,e];cases lk <;> cases s <;> first|rfl|cases q
 ·rw[C6 h]
def ql(i:Nat)(f1 f2:FE):FS:=λ Δ=>match(Δ[i]?).bind Sl.tree with
 |some (.aD zm,lk)=>(match f1 (Az Δ) with
   | .ok z1=>(match Ec z1.d with
    |some k1=>if zm.length < 16777216 then(match Dj (mv zm k1) k1 with
     |some (.lst ts)=>if ts.length < 16777216 then(match f2 (Bn Δ) with
      | .ok z2=> .nx (Δ.set i (Sl.mk lk (.aD (Ed (mv zm k1) k1 (.lst (ts ++ [.sh z2.d]))))))
      |_=> .no) else .no
     |_=> .no) else .no
    |none=> .no)
   |_=> .no)
 |_=> .no
section
variable{X:Cx}{EX:Bi}{pos:Pos}
def GQ{H0:HB}{G0 G H:Hp}{σ:Sg}{Δ:SE}{O:OS}{D:Ends}{i:Nat}{s:Sl}{zm:List (Ap×Tn)}{lk:Bool}{k:Ap}{ts:List Tn}{f2:FE}{z2:W}(E:Ev K H0 G0 G H σ Δ O)(e1:Δ[i]? =some s)(mi:s.tree=some (.aD zm,lk))(ev:Dj zm k=some (.lst ts))(hz:ts.length < 16777216)(ef:f2 (Bn Δ)=.ok z2)
  (q:∀σ' G' H' O',Ev K H0 G0 G' H' σ' (Δ.set i (Sl.mk lk (.aD (Ed zm k (.lst (ts ++ [.sh z2.d])))))) O'->aA G G'->D.nx σ' H'):
  ∃c a kvs,σ[i]? =some (some (.ref a))/\H a=some (.dK kvs)/\Dk kvs k=some (.ref c)/\yT K "list" (.ref c) H/\tD K EX f2 σ H λy H2=>vZ (.ref c) [y] H2 λ_ H3=>D.nx σ H3:=by
 obtain⟨v0,s1,t⟩:=E.ow i _ _ e1 (Sl.cF mi);obtain⟨a,kvs,S1,rfl,m,hH,hk,sub,rl⟩:=t.oE;obtain⟨vc,Sc,ec,tc,ic,fc⟩:=aX.eY k hk rl ev;cases tc with
 |lst hc mc abr rc=>
  rename_i c vs S2;have hca:c≠a:=(sub c (ic c mc)).2;refine⟨c,a,kvs,s1,hH,ec,.inl ⟨rfl,_,bU.of hc⟩,G,Bn Δ,E.st.gh,E.iL, ?_⟩;rw[ef];refine WP.intro λy G2 H2 bC r2=> ?_;have E2:=E.grow bC;have zk:vs.length < sizeLine:=by rw[rc.length,F0];exact hz
  refine⟨c,vs,y,rfl,rfl,bC.hh _ _ hc,zk, ?_⟩;refine q σ G2 _ _ (E2.kj e1 mi s1 (sub c (ic c mc)).1 ?_) bC.gg;obtain⟨vc',Sc',NJ,tc',ic',fc'⟩:=aX.eY k hk (aX.mono bC.gg rl (λ_ _ _ z=>z) λ_ z=>z) ev;rw[ec]at NJ;cases NJ;cases tc' with
  |lst fS Nd tf OD=>
   rename_i vs' S2';rw[hc]at fS;cases fS;refine Ow.aD (S1:=S1) (by rw[Be (Ne.symm hca)];exact bC.hh _ _ hH) (by rw[JG];exact hk) m sub ?_;refine fc' (λb o hb nb z=> ?_) ?_
   ·rw[Be (show b≠c from λw=>nb (by rw[w];exact Nd))];exact bC.hh _ _ z
   ·refine Ow.lst (S1:=S2') Ce Nd tf (aX.append (S2:=λ_=>False) (OD.mono (aA.refl _) (λb o hb z=> ?_) λ_ z=>z) (.cons (S1:=λ_=>False) (S2:=λ_=>False) (.sh r2) .nil (λ_ z=>z.elim) (λ_ z=>z) λ_ z=>z) (λ_ _ z=>z) (λ_ z=>z) λ_ z=>z.elim);rw[Be (tf b hb).2];exact bC.hh _ _ z
def Sn{i:Nat}{x:Str}{e1 e2:Expr}{f1 f2:FE}{p1 lp a1 c1 zh zf:Pos}(h1:ED X EX e1 f1)(h2:ED X EX e2 f2)(hN:X.N[i]? =some x:=by rfl)(hv:fV X.env.scope x:=by trivial)(hd:AG x:=by decide)
  (bT:(x ==("__classdict__" :Str))=false:=by decide) (hm:M2 X (.Name x p1) "setdefault" a1 e1 (.List [] lp) c1:=by exact⟨rfl,rfl,rfl,rfl⟩)
  (kG:swapsWith (.Call (.Attribute (.Call (.Attribute (.Name x p1) "setdefault" a1) [e1,.List [] lp] [] c1) "append" zh) [e2] [] zf) none pos.line X.env=pure false:=by rfl)
  (ae:attributeBase (.Call (.Attribute (.Name x p1) "setdefault" a1) [e1,.List [] lp] [] c1) "append" X.env (eval (.Call (.Attribute (.Name x p1) "setdefault" a1) [e1,.List [] lp] [] c1) X.env)=eval (.Call (.Attribute (.Name x p1) "setdefault" a1) [e1,.List [] lp] [] c1) X.env:=by rfl)
  (bb:((backTo zf (starEach [e2] X.env)).all (λx=> !x.1) && (backToKw zf (keywordEach [] X.env)).all (λx=>x.1.isSome)
   && decide ([e2].length + ([]:List Keyword).length + (if([]:List Keyword).isEmpty then 0 else 1) < 30))=true:=by rfl)
  (af:(zh.endLine ==zf.line)=true:=by rfl) (hs:starEach [e2] X.env=(false,eval e2 X.env)::starEach [] X.env:=by rfl) (aa:(backTo zf (starEach [] X.env)).any (·.1)=false:=by rfl):
  SD X EX (.Expr (.Call (.Attribute (.Call (.Attribute (.Name x p1) "setdefault" a1) [e1,.List [] lp] [] c1) "append" zh) [e2] [] zf) pos) (ql i f1 f2):=
 PS.imp (nL (qC R0 T6 T7 oh (UB (iJ hN hv hd bT) h1 (vB mn) hm) (lV h2 mn hs) ae bb af hs aa) kG) λD σ H ⟨H0,G0,G,Δ,O,E,q⟩=>by
  unfold ql at q
  split at q
  ·rename_i zm lk e0;obtain⟨s,e1,mi⟩:=U8.mp e0;obtain⟨v0,s1,t⟩:=E.ow i _ _ e1 (Sl.cF mi);obtain⟨a,kvs,S1,rfl,m,hH,hk,sub,rl⟩:=t.oE;refine⟨.ref a,s1,a,rfl,.inl ⟨kvs,.inl hH⟩,Dh G H O,Az Δ,E.aH,E.dF, ?_⟩;cases e3:f1 (Az Δ) with
   |ex x=>simp only[e3]at q;exact q.elim
   |no=>simp only[e3]at q;exact q.elim
   |ok z1=>
    simp only[e3]at q;refine WP.intro λv1 G1 H1 cG r1=> ?_
    split at q
    ·rename_i k1 ek1
     split at q
     ·rename_i hl
      split at q
      ·rename_i ts ev
       split at q
       ·rename_i hz;cases e4:f2 (Bn Δ) with
        |ex x=>simp only[e4]at q;exact q.elim
        |no=>simp only[e4]at q;exact q.elim
        |ok z2=>
         simp only[e4]at q
         ·have hv1:=nz r1 ek1;subst hv1;refine⟨K8 _,λp hp=> ?_⟩;have E3:=E.keep cG.hh;have E5:=E3.keep (kE hp (.lst []));have hle:kvs.length=zm.length:=by
           have:=L8 List.length hk
           rwa[A3,A3]at this
          have hH5:upd H1 p (.lst []) a=some (.dK kvs):=kE hp _ _ _ (cG.hh _ _ hH);refine⟨kvs,k1,hH5,rfl,by rw[hle,F0];exact hl,λv hv=> ?_,λhn=> ?_⟩
          ·have hA:mv zm k1=zm:=by
            unfold mv;cases hA:Dj zm k1 with
            |some t=>rfl
            |none=>rw[IF hk hA]at hv;cases hv
           rw[hA]at ev q;obtain⟨c,a',iz,iI,uv,ec,ty,td⟩:=GQ (D:=D) (EX:=EX) E5 e1 mi ev hz e4 q;rw[s1]at iI;cases iI;rw[hH5]at uv;cases uv;rw[hv]at ec;cases ec;exact⟨ty,td⟩
          ·have hA:Dj zm k1=none:=by
            cases hA:Dj zm k1 with
            |none=>rfl
            |some t=>
             obtain⟨v',_,ev',_⟩:=aX.eY k1 hk rl hA;rw[hn]at ev';cases ev'
           have hK:mv zm k1=zm ++ [(k1,.lst [])]:=by unfold mv;rw[hA]
           rw[hK]at ev q;have npO:∀j b,O j b->b≠p:=λj b hb z=>by
            have h0:=(E.out j b hb).2.2;cases e:H b with
            |none=>exact h0 e
            |some o=>rw[z]at e;rw[cG.hh _ _ e]at hp;cases hp
           have sP:a≠p:=npO i a m;have gu:(kvs.any λkv=>decide (kv.1=k1))=false:=by
            rw[nX,hn];rfl
           have fq:Co kvs k1 (.ref p)=kvs ++ [(k1,.ref p)]:=by
            rw[Hv];unfold Ga;rw[gu];rfl
           rw[fq];have Gp:G p=none:=E3.st.gh.free hp;have old:∀b o,H1 b=some o->upd H1 p (.lst []) b=some o:=λb o z=>kE hp _ b o z;have Nm:upd H1 p (.lst []) p=some (.lst []):=Ce;have ms:jJ (O i) G H1 G (upd (upd H1 p (.lst [])) a (.dK (kvs ++ [(k1,.ref p)]))):=⟨λb o nb z=>by rw[Be (λw=>nb (by rw[w];exact m))];exact old b o z,λb o z=>by
            have:b≠a:=λw=>by rw[w,(E.out i a m).1]at z;cases z
            rw[Be this];exact old b o (E3.st.gh b o z),aA.refl _,λb _ z _=>z⟩
           have E6:Ev X.K H0 G0 G (upd (upd H1 p (.lst [])) a (.dK (kvs ++ [(k1,.ref p)]))) σ (Δ.set i (Sl.mk lk (.aD (zm ++ [(k1,.lst [])])))) (Hj O i λb=>O i b\/b=p):=by
            refine E3.gZ (S:=λb=>O i b\/b=p) (Sl.oA lk _) (Sl.tm lk _) (E3.tj e1 mi _) ms s1 (λb hb=> ?_) ?_
            ·rcases hb with hb|hb
             ·refine⟨.inl hb,(E3.out i b hb).1, ?_⟩
              by_cases w:b=a
              ·rw[w,Ce];simp
              ·rw[Be w];cases e:H1 b with
               |none=>exact absurd e (E3.out i b hb).2.2
               |some o=>rw[old b o e];simp
             ·subst hb;exact⟨.inr hp,Gp,by rw[Be (Ne.symm sP),Nm];simp⟩
            ·refine Ow.aD (S1:=λb=>S1 b\/b=p) Ce (by rw[E7,E7,hk];rfl) (.inl m) (λb hb=> ?_) ?_
             ·rcases hb with hb|hb
              ·exact⟨.inl (sub b hb).1,(sub b hb).2⟩
              ·subst hb;exact⟨.inr rfl,Ne.symm sP⟩
             ·rw[E7,E7];refine aX.append (S2:=λb=>b=p) (rl.mono (aA.refl _) (λb o hb z=> ?_) λ_ z=>z) (.cons (S1:=λb=>b=p) (S2:=λ_=>False) (.lst (S1:=λ_=>False) (by rw[Be (Ne.symm sP)];exact Nm) rfl (λ_ z=>z.elim) .nil) .nil (λ_ _ z=>z) (λ_ z=>z) λ_ z=>z.elim) (λb z1 z2=>npO i b (sub b z1).1 z2) (λb z=> .inl z) λb z=> .inr z;rw[Be (sub b hb).2];exact old _ _ (cG.hh _ _ z)
           have cR:i < Δ.length:=(B4.mp e1).1;obtain⟨c,a',iz,iI,uv,ec,ty,td⟩:=GQ (D:=D) (EX:=EX) (lk:=lk) E6 (s:=Sl.mk lk (.aD (zm ++ [(k1,.lst [])]))) (by rw[G6 cR]) (by cases lk <;> rfl) ev hz (by rw[Uw e1 mi];exact e4) (λ σ' G' H' O' E' sg=>q σ' G' H' O' (by rw[List.set_set]at E';exact E') sg);rw[s1]at iI;cases iI;rw[Ce]at uv;cases uv;rw[<-fq,WS,if_pos rfl]at ec;cases ec;exact⟨ty,td⟩
       ·exact q.elim
      ·exact q.elim
     ·exact q.elim
    ·exact q.elim
  ·exact q.elim
end
end L3
namespace PySem.W
open PySem PySem.Calls PyProof.Rows PySem.Spec
section
variable{prog:Program}{w:World}{A:Around}{E:AA}{s:Shared}{T:String}{r d:Addr}{n:Nat}{P:Nat->Value->Prop}{OK:Heap->Prop}
def iD{Q:List Value->Shared->Prop}(K:KdlSrc prog w T r d n P OK)(hh:A.handled=none)(aN:OK s.heap)(hn:n<=sizeLine)
  (hQ:∀h' tk zn,(∀b o,s.heap.get? b=some o->h'.get? b=some o)->s.heap.objs.size<=h'.objs.size->ItemsOf P zn n->Q zn.toList {s with heap:=h',toks:=tk}):wpAny (model prog w) A (collect (.ref r)) Q E s:=by
 have cR:=K.there _ aN;unfold collect;refine A4 (wpAny_runValue (Qr PySem.F.entry_proto_collect ?_));rw[X5 PySem.F.plain_proto_collect _];show wpAny _ A.in1 (newList [] >>=λl=>again (.builtin "list.__iadd__" ⟨[l,.ref r],[]⟩)) _ _ s;refine A4 (S7 ?_);refine D0 ⟨plainId_quiet ZA4 _,Qr PySem.F.entry_list_iadd ?_⟩;rw[X5 ZA4 _];have hS₁:(s.heap.push {cls:=.type "list",data:=.seq ([]:List Value).toArray}).get? s.heap.objs.size=some {cls:=.type "list",data:=.seq #[] 0}:=C5 _ rfl;show wpAny _ A.in1 (Builtin.List.listExtendWith (.ref s.heap.objs.size) (.ref r) (.ref s.heap.objs.size)) _ _ _;have fin:∀{rr:Result} {s':Shared},(∃h' tk ba c',rr=.ok (.ret (.ref s.heap.objs.size))/\s'={s with heap:=h',toks:=tk}/\(∀b o,b≠s.heap.objs.size->(s.heap.push {cls:=.type "list",data:=.seq ([]:List Value).toArray}).get? b=some o->h'.get? b=some o)/\h'.get? s.heap.objs.size=some {cls:=.type "list",dict:=none,data:=.seq ba c',slots:= #[]}/\ItemsOf P ba n)->
   rr=.ok (.ret (.ref s.heap.objs.size))/\wpAny (model prog w) A (load s.heap.objs.size >>=λo=>match o.data with| .seq xs _=>pure xs.toList|_=>unsupported "internal:collect") Q E s':=by
  rintro rr s' ⟨h',tk,ba,c',rfl,rfl,hk,NC,du⟩
  refine⟨rfl,A4 (wpAny_load NC ?_)⟩;exact D0 (hQ h' tk ba (λb o e=>hk b o (C4 (A8 e)) (A5 _ e)) (R7 (A8 NC)) du)
 refine D6 (kdl_extend (R:=λrr s'=>∃h' tk ba c',rr=.ok (.ret (.ref s.heap.objs.size))/\s'={s with heap:=h',toks:=tk}/\(∀b o,b≠s.heap.objs.size->(s.heap.push {cls:=.type "list",data:=.seq ([]:List Value).toArray}).get? b=some o->h'.get? b=some o)/\h'.get? s.heap.objs.size=some {cls:=.type "list",dict:=none,data:=.seq ba c',slots:= #[]}/\ItemsOf P ba n)
  (s:={s with heap:=s.heap.push {cls:=.type "list",data:=.seq ([]:List Value).toArray}}) K hh (K.keep _ _ aN λb _ o e=>A5 _ e) s.heap.objs.size (Y0 cR.1) (Y0 cR.2) (.ref s.heap.objs.size) 0 hS₁ (λh' tk ba c' hk NC du=>⟨h',tk,ba,c',rfl,rfl,hk,NC,du⟩) hn) (λf s' hf=> ?_) λe s' hf=> ?_
 ·cases f with
  |done f=>
   obtain⟨e,q⟩:=fin hf;cases e;exact q
  |again c'=>
   refine⟨hf.1,R9 hf.2 λrr pG h=> ?_⟩;obtain⟨e,q⟩:=fin h;cases e;exact q
 ·obtain⟨e,_⟩:=fin hf;cases e
end
section
variable{prog:Program}{w:World}{A:Around}{E:AA}{s:Shared}{a kS:Addr}{vs:List Value}{kz:List Int}{e1:Nat}{P:PySem.Fin->Shared->Prop}
end
end PySem.W
namespace L3
open PySem PySem.Spec PyProof.Rows L2
variable{K:Frag}{fd:FuncData}{mg:AB}{us:List Value}{base:Heap}{H:Hp}{X:Cx}{pos:Pos}
def eR(F:AF):List D->R (List (Int×D))
 | []=> .ok []
 |d::ds=>(F [d]).bind λw=>match w.d with
  | .int n=>(eR F ds).bind λr=> .ok ((n,d)::r)
  |_=> .no
noncomputable def ju(p:Int×D):List (Int×D)->List (Int×D)
 | []=> [p]
 |q::r=>if p.1<=q.1 then p::q::r else q::ju p r
def Ha:List (Int×D)->List (Int×D)
 | []=> []
 |p::r=>ju p (Ha r)
def kU(F:AF)(ds:List D):R W:=match eR F ds with
 | .ok ps=>if ps.length < 64/\(ps.map (·.1)).Nodup then .ok (.ow (.lst ((Ha ps).map (·.2)))) else .no
 |_=> .no
section
variable{X:Cx}{zd:AE}{σ:Sg}{H:Hp}{s:Shared}
end
theorem wR(p:Int×D):∀l:List (Int×D),(ju p l).Perm (p::l)
 | []=> .refl _
 |q::r=>by
  unfold ju
  split
  ·exact .refl _
  ·exact(List.Perm.cons q (wR p r)).trans (List.Perm.swap p q r)
theorem xp:∀l:List (Int×D),(Ha l).Perm l
 | []=> .refl _
 |p::r=>(wR p (Ha r)).trans (.cons p (xp r))
theorem KU(p:Int×D):∀{l:List (Int×D)},l.Pairwise (λa b=>a.1<=b.1)->(ju p l).Pairwise (λa b=>a.1<=b.1)
 | [],_=>by unfold ju;simp
 |q::r,h=>by
  rw[P3]at h;unfold ju
  split
  ·rename_i hl;refine P3.mpr ⟨λz hz=> ?_,P3.mpr h⟩;rcases B8.mp hz with rfl|hz
   ·exact hl
   ·exact V4 hl (h.1 z hz)
  ·rename_i hl;refine P3.mpr ⟨λz hz=> ?_,KU p h.2⟩;rcases B8.mp ((wR p r).mem_iff.mp hz) with rfl|hz
   ·lia
   ·exact h.1 z hz
theorem xI:∀l:List (Int×D),(Ha l).Pairwise (λa b=>a.1<=b.1)
 | []=> .nil
 |p::r=>KU p (xI r)
theorem Ki{α β:Type}{R:α->β->Prop}{a:α}:∀{A:List α} {B:List β},Paired R A B->a∈A->∃l1 l2 m1 m2 b,A=l1 ++ a::l2/\B=m1 ++ b::m2/\R a b/\Paired R (l1 ++ l2) (m1 ++ m2)
 |_,_,.cons (a:=x) (b:=y) (l₁:=A) (l₂:=B) r t,h=>by
  by_cases e:a=x
  ·subst e;exact⟨[],A,[],B,y,rfl,rfl,r,t⟩
  ·rcases B8.mp h with z|h
   ·exact absurd z e
   ·obtain⟨l1,l2,m1,m2,b,rfl,rfl,rb,pr⟩:=Ki t h;exact⟨x::l1,l2,y::m1,m2,b,rfl,rfl,rb,.cons r pr⟩
theorem xB{α β:Type}{R:Int×α->Int×β->Prop}(hR:∀p q,R p q->p.1=q.1):∀{A:List (Int×α)} {A0:List (Int×α)} {B0 B:List (Int×β)},Paired R A0 B0->A.Perm A0->B.Perm B0->(B0.map (·.1)).Nodup->A.Pairwise (λp q=>p.1<=q.1)->B.Pairwise (λp q=>p.1<=q.1)->Paired R A B
 | [],A0,B0,B,r,pa,pb,_,_,_=>by
  have:A0= []:=pa.symm.eq_nil;subst this;cases r;have:B= []:=pb.eq_nil;subst this;exact .nil
 |a::A,A0,B0,B,r,pa,pb,nd,sa,sb=>by
  obtain⟨l1,l2,m1,m2,b,rfl,rfl,rb,pr⟩:=Ki r (pa.mem_iff.mp (.head _));have pa':A.Perm (l1 ++ l2):=(List.perm_cons a).mp (pa.trans W8);have bB:b∈B:=pb.mem_iff.mpr (by simp);rw[P3]at sa;cases B with
  |nil=>cases bB
  |cons c B=>
   rw[P3]at sb;have ja:∀z∈m1 ++ m2,a.1<=z.1:=λz hz=>by
    have:∀{A:List (Int×α)} {B:List (Int×β)},Paired R A B->∀z∈B,∃y∈A,y.1=z.1:=λ{A B} p=>by
     induction p with
     |nil=>intro z hz;cases hz
     |cons rr _ ih=>
      intro z hz;rcases B8.mp hz with rfl|hz
      ·exact⟨_,.head _,hR _ _ rr⟩
      ·obtain⟨y,hy,e⟩:=ih z hz;exact⟨y,.tail _ hy,e⟩
    obtain⟨y,hy,e⟩:=this pr z hz;rw[<-e];exact sa.1 y (pa'.mem_iff.mpr hy)
   have eb:a.1=b.1:=hR _ _ rb;have cb:c=b:=by
    have hc:c∈m1 ++ b::m2:=pb.mem_iff.mp (.head _);have fS:c=b\/c∈m1 ++ m2:=by
     rcases F9.mp hc with h|h
     ·exact .inr (M9 _ h)
     ·rcases B8.mp h with h|h
      ·exact .inl h
      ·exact .inr (B2 _ h)
    rcases fS with h|h
    ·exact h
    ·exfalso;have h1:=ja c h;have h2:c.1<=b.1:=by
      rcases B8.mp bB with z|z
      ·rw[z];exact Int.le_refl _
      ·exact sb.1 b z
     have h3:c.1=b.1:=by lia
     have uf:((b::(m1 ++ m2)).map (·.1)).Nodup:=(List.Perm.map _ (W8 (a:=b) (l₁:=m1) (l₂:=m2))).nodup_iff.mp nd;rw[B1,J8]at uf;exact uf.1 (by rw[<-h3];exact T5 h)
   subst cb;have pb':B.Perm (m1 ++ m2):=(List.perm_cons c).mp (pb.trans W8);have uf:((m1 ++ m2).map (·.1)).Nodup:=by
    have uf:((c::(m1 ++ m2)).map (·.1)).Nodup:=(List.Perm.map _ (W8 (a:=c) (l₁:=m1) (l₂:=m2))).nodup_iff.mp nd;rw[B1,J8]at uf;exact uf.2
   exact .cons rb (xB hR pr pa' pb' uf sa.2 sb.2)
theorem JB{F:AF}:∀{ds:List D} {ps:List (Int×D)},eR F ds=.ok ps->Paired (λd (p:Int×D)=>p.2=d/\∃w,F [d]=.ok w/\w.d=.int p.1) ds ps
 | [],_,e=>by cases e;exact .nil
 |d::ds,ps,e=>by
  unfold eR at e;cases ef:F [d] with
  |ok w=>
   rw[ef]at e;simp only[R.aI]at e;cases ew:w.d with
   |int n=>
    rw[ew]at e;simp only at e;cases er:eR F ds with
    |ok r=>rw[er]at e;cases e;exact .cons ⟨rfl,w,ef,ew⟩ (JB er)
    |ex x=>rw[er]at e;cases e
    |no=>rw[er]at e;cases e
   |_=>rw[ew]at e;cases e
  |ex x=>rw[ef]at e;cases e
  |no=>rw[ef]at e;cases e
def Wq{v:V}{k:Ap}{u:Value}(r:RelV v u)(q:RelV (kV k) u):v=kV k:=by
 cases k with
 |inl i=>
  obtain⟨t,rfl⟩:=q;cases v with
  |int j=>obtain⟨t',e⟩:=r;cases e;rfl
  |str x=>obtain⟨t',e⟩:=r;cases e
  |iM x=>obtain⟨t',e⟩:=r;cases e
  |mM x=>obtain⟨t',e⟩:=r;cases e
  |_=>cases r
 |inr x=>
  obtain⟨t,rfl⟩:=q;cases v with
  |str y=>obtain⟨t',e⟩:=r;cases e;rfl
  |int j=>obtain⟨t',e⟩:=r;cases e
  |iM x=>obtain⟨t',e⟩:=r;cases e
  |mM x=>obtain⟨t',e⟩:=r;cases e
  |_=>cases r
abbrev RelK(p:Int×Value)(q:Int×D):Prop:=p.1=q.1/\∃k0,q.2=kD k0/\RelV (kV k0) p.2
theorem CK{F:AF}:∀{ks:List Ap} {vs:List Value} {ps:List (Int×D)},Vals (ks.map kV) vs->Paired (λd (p:Int×D)=>p.2=d/\∃w,F [d]=.ok w/\w.d=.int p.1) (ks.map kD) ps->Paired RelK ((ps.map (·.1)).zip vs) ps
 | [],_,_,r,q=>by cases r;cases q;exact .nil
 |k::ks,_,_,r,q=>by
  rw[B1]at r q;cases r with
  |cons h t=>
   cases q with
   |cons h2 t2=>exact .cons ⟨rfl,k,h2.1,h⟩ (CK t t2)
theorem CQ{G:Hp}:∀{ps:List (Int×Value)} {qs:List (Int×D)} {us:List V},Paired RelK ps qs->Vals us (ps.map Prod.snd)->aB K G us (qs.map (·.2))
 | [],_,_,r,h=>by cases r;cases h;exact .nil
 |p::ps,_,_,r,h=>by
  rw[B1]at h;cases r with
  |cons r t=>
   cases h with
   |cons hv ht=>
    obtain⟨_,k0,e,rk⟩:=r;rw[B1,e];exact .cons (by rw[Wq hv rk];exact vt k0) (CQ t ht)
theorem Paired.getL{α β:Type}{R:α->β->Prop}:∀{A:List α} {B:List β} {i:Nat} {a:α} {b:β},Paired R A B->A[i]? =some a->B[i]? =some b->R a b
 |_,_,_,_,_,.nil,e,_=>by simp at e
 |_,_,0,_,_,.cons r _,e,e'=>by
  simp at e e';subst e e';exact r
 |_,_,i + 1,_,_,.cons _ t,e,e'=>Paired.getL (i:=i) t (by simpa using e) (by simpa using e')
section
variable{X:Cx}{EX:Bi}{pos:Pos}
end
end L3
namespace L3
open PySem PySem.W PyProof.Rows
variable{K:Frag}{fd:FuncData}{mg:AB}{us:List Value}{base:Heap}{H:Hp}{X:Cx}{pos:Pos}
section
variable{N:Nat}{key:Nat->Int}{cmp:Nat->Nat->(Bool->Shared->Prop)->Shared->Prop}{s:Shared}
structure aT(N:Nat)(p:Array Nat):Prop where
 size:p.size=N
 perm:p.toList.Perm (List.range N)
noncomputable abbrev kp(key:Nat->Int)(p:Array Nat)(i:Nat):Int:=key (p.getD i 0)
def aT.lt{p:Array Nat}(g:aT N p){i:Nat}(h:i < N):p.getD i 0 < N:=by
 have h':i < p.size:=by rw[g.size];exact h
 have e:p.getD i 0=p[i]:=by simp[Array.getD,h']
 rw[e];exact K7.mp (g.perm.mem_iff.mp (by simp))
def aT.inj{p:Array Nat}(g:aT N p){i j:Nat}(hi:i < N)(hj:j < N)(e:p.getD i 0=p.getD j 0):i=j:=by
 have h1:i < p.size:=by rw[g.size];exact hi
 have h2:j < p.size:=by rw[g.size];exact hj
 have e1:p.getD i 0=p[i]:=by simp[Array.getD,h1]
 have e2:p.getD j 0=p[j]:=by simp[Array.getD,h2]
 rw[e1,e2]at e;have nd:p.toList.Nodup:=g.perm.nodup_iff.mpr List.nodup_range;have pw:=P6.mp nd;rcases T3 i j with h|h|h
 ·exact absurd (by rw[T4,T4];exact e) (pw i j _ _ h)
 ·exact h
 ·exact absurd (by rw[T4,T4];exact e.symm) (pw j i _ _ h)
def qS{p q:Array Nat}{i j:Nat}(h:p[i]? =q[j]?):p.getD i 0=q.getD j 0:=by
 rw[Y1,Y1,h]
def aT.rev{p:Array Nat}(g:aT N p)(i j:Nat):aT N (kas_rev p i j):=⟨(mirror_size _ _ _ _).trans g.size,(Y8.mp (mirror_perm p i j _)).trans g.perm⟩
def aT.bub{p:Array Nat}(g:aT N p)(i j:Nat):aT N (bubble p i j):=⟨(bubble_size _ _ _).trans g.size,(Y8.mp (bubble_perm p i j)).trans g.perm⟩
def eL(key:Nat->Int)(p:Array Nat)(n:Nat):Prop:=∀i j,i < j->j < n->kp key p i < kp key p j
def sY(key:Nat->Int)(p:Array Nat)(n:Nat):Prop:=∀i j,i < j->j < n->kp key p j < kp key p i
def DC(N:Nat)(key:Nat->Int)(cmp:Nat->Nat->(Bool->Shared->Prop)->Shared->Prop)(s:Shared):Prop:=(∀i j,i < N->j < N->key i=key j->i=j)/\∀i j C,i < N->j < N->i≠j->C (decide (key i < key j)) s->cmp i j C s
variable(T:DC N key cmp s)
include T
theorem nG{p:Array Nat}(g:aT N p){i j:Nat}(hi:i < N)(hj:j < N)(hn:i≠j){C:Bool->Shared->Prop}(h1:kp key p i < kp key p j->C true s)(h2:kp key p j < kp key p i->C false s):cmp (p.getD i 0) (p.getD j 0) C s:=by
 refine T.2 _ _ _ (g.lt hi) (g.lt hj) (λe=>hn (g.inj hi hj e)) ?_
 by_cases h:key (p.getD i 0) < key (p.getD j 0)
 ·rw[E8 h];exact h1 h
 ·rw[K2 h];have:key (p.getD i 0)≠key (p.getD j 0):=λe=>hn (g.inj hi hj (T.1 _ _ (g.lt hi) (g.lt hj) e));exact h2 (show key _ < key _ by lia)
theorem eL.up{p:Array Nat}{n:Nat}(h:eL key p n)(h1:1<=n)(hn:kp key p (n - 1) < kp key p n):eL key p (n + 1):=λi j mJ hj=>by
 by_cases e:j=n
 ·subst e
  by_cases e2:i=j - 1
  ·subst e2;exact hn
  ·exact V5 (h i (j - 1) () ()) hn
 ·exact h i j mJ ()
theorem sY.up{p:Array Nat}{n:Nat}(h:sY key p n)(h1:1<=n)(hn:kp key p n < kp key p (n - 1)):sY key p (n + 1):=λi j mJ hj=>by
 by_cases e:j=n
 ·subst e
  by_cases e2:i=j - 1
  ·subst e2;exact hn
  ·exact V5 hn (h i (j - 1) () ())
 ·exact h i j mJ ()
theorem vo{p:Array Nat}(g:aT N p):∀(f n:Nat) {Q:Nat->Shared->Prop},1<=n->n + f<=N->eL key p n->(∀m,n<=m->m<=n + f->eL key p m->(m < n + f->kp key p m < kp key p (m - 1))->Q m s)->(kas_asc p f n).kasWp cmp Q s
 |0,n,Q,_,_,ha,hq=>hq n (A9 _) (A9 _) ha λh=>absurd h (F1 _)
 |f + 1,n,Q,h1,hN,ha,hq=>by
  show cmp (p.getD n 0) (p.getD (n - 1) 0) _ s;refine nG T g () () () (λh=> ?_) λh=> ?_
  ·simp only[if_true];exact hq n (A9 _) () ha λ_=>h
  ·simp only[C8,F3];exact vo g f (n + 1) () () (eL.up T ha h1 h) λm a1 a2 a3 a4=>hq m () () a3 λhm=>a4 ()
theorem GP{p:Array Nat}(g:aT N p):∀(f n:Nat) {Q:Array Nat×Nat×Nat->Shared->Prop},1<=n->n + f<=N->sY key p n->(∀m,n<=m->m<=n + f->sY key p m->Q (p,m,0) s)->(kas_desc f p n 0).kasWp cmp Q s
 |0,n,Q,_,_,ha,hq=>hq n (A9 _) (A9 _) ha
 |f + 1,n,Q,h1,hN,ha,hq=>by
  show cmp (p.getD n 0) (p.getD (n - 1) 0) _ s;refine nG T g () () () (λh=> ?_) λh=> ?_
  ·simp only[if_true,F1,gt_iff_lt,F3];exact GP g f (n + 1) () () (sY.up T ha h1 h) λm a1 a2 a3=>hq m () () a3
  ·simp only[C8,F3];show cmp (p.getD (n - 1) 0) (p.getD n 0) _ s;refine nG T g () () () (λh'=> ?_) λh'=> ?_
   ·simp only[if_true];exact hq n (A9 _) () ha
   ·exact absurd (V5 h h') (Z5 _)
theorem Uv{p:Array Nat}(g:aT N p){n:Nat}(hn:n<=N)(h:sY key p n):eL key (kas_rev p 0 n) n:=λi j mJ hj=>by
 have at':∀k,k < n->kp key (kas_rev p 0 n) k=kp key p (n - 1 - k):=λk hk=>by
  have:=getElem?_mirror_all (xs:=p) (i:=0) (j:=n) (by rw[g.size];exact hn) k;rw[if_pos ⟨K8 _,hk⟩,O7]at this;exact L8 key (qS this)
 rw[at' i (),at' j hj];exact h (n - 1 - j) (n - 1 - i) () ()
theorem Uu{p:Array Nat}(g:aT N p){n:Nat}{Q:Nat×Array Nat->Shared->Prop}(h1:1<=n)(hn:n + 1<=N)(hd:sY key p (n + 1))(hq:∀m q,1<=m->m<=N->aT N q->eL key q m->Q (m,q) s):(kas_descPart n N p).kasWp cmp Q s:=by
 unfold kas_descPart;rw[U2];refine GP T g (N - (n + 1)) (n + 1) () () hd λm a1 a2 a3=> ?_;simp only[gt_iff_lt,F1,F3];unfold kas_tail3;rw[U2];refine vo T (g.rev 0 m) (N - m) m () () (Uv T g () a3) λm' b1 b2 b3 _=> ?_;exact hq m' _ () () (g.rev 0 m) b3
theorem Wo{p:Array Nat}(g:aT N p){Q:Nat×Array Nat->Shared->Prop}(h1:1<=N)(hq:∀m q,1<=m->m<=N->aT N q->eL key q m->Q (m,q) s):(kas_count N p).kasWp cmp Q s:=by
 unfold kas_count;rw[U2];refine vo T g (N - 1) 1 (A9 _) () (λi j mJ hj=>by lia) λn a1 a2 a3 a4=> ?_
 by_cases e:n=N
 ·subst e;simp only[P0,if_true];exact hq n p a1 (A9 _) g a3
 ·have e':(n ==N)=false:=by simpa using e
  simp only[e',C8,F3]
  by_cases h2:n > 1
  ·rw[if_pos h2];show cmp (p.getD 0 0) (p.getD (n - 1) 0) _ s;refine nG T g () () () (λh=> ?_) λh=> ?_
   ·simp only[if_true];exact hq n p a1 () g a3
   ·exact absurd (V5 h (a3 0 (n - 1) () ())) (Z5 _)
  ·rw[if_neg h2];have:n=1:=by lia
   subst this;have PC:=a4 ();exact Uu T g (A9 _) () (λi j mJ hj=>by
    have:i=0/\j=1:=by lia
    obtain⟨rfl,rfl⟩:=this;exact PC) hq
theorem wx{p:Array Nat}(g:aT N p){k:Nat}(hk:k < N):∀(f l r:Nat) {Q:Nat->Shared->Prop},r - l<=f->l<=r->r<=k->(∀i,i < l->kp key p i < kp key p k)->(∀i,r<=i->i < k->kp key p k < kp key p i)->(∀m,m<=k->(∀i,i < m->kp key p i < kp key p k)->(∀i,m<=i->i < k->kp key p k < kp key p i)->eL key p k->Q m s)->eL key p k->(kas_place p k f l r).kasWp cmp Q s
 |0,l,r,Q,hf,hlr,hrk,h1,h2,hq,ha=>hq l () h1 (λi hi hk=>h2 i () hk) ha
 |f + 1,l,r,Q,hf,hlr,hrk,h1,h2,hq,ha=>by
  unfold kas_place
  by_cases e:l≥r
  ·rw[if_pos e];exact hq l () h1 (λi hi hk=>h2 i () hk) ha
  ·rw[if_neg e];show cmp (p.getD k 0) (p.getD ((l + r) / 2) 0) _ s;refine nG T g hk () () (λh=> ?_) λh=> ?_
   ·simp only[if_true];refine wx g hk f l ((l + r) / 2) () () () h1 (λi hi Nw=> ?_) hq ha
    by_cases e2:i=(l + r) / 2
    ·subst e2;exact h
    ·exact V5 h (ha _ i () Nw)
   ·simp only[C8,F3];refine wx g hk f ((l + r) / 2 + 1) r () () hrk (λi hi=> ?_) h2 hq ha
    by_cases e2:i=(l + r) / 2
    ·subst e2;exact h
    ·exact V5 (ha i _ () ()) h
theorem Ut{p:Array Nat}(g:aT N p){k l:Nat}(hk:k < N)(hl:l<=k)(h1:∀i,i < l->kp key p i < kp key p k)(h2:∀i,l<=i->i < k->kp key p k < kp key p i)(ha:eL key p k):eL key (bubble p k (k - l)) (k + 1):=λi j mJ hj=>by
 have b:=getElem?_bubble (xs:=p) (src:=k) (by rw[g.size];exact hk) (k - l) ();have e:k - (k - l)=l:=by lia
 have at0:kp key (bubble p k (k - l)) l=kp key p k:=L8 key (qS (by rw[b l,e,if_pos rfl]));have NL:∀x,x < l->kp key (bubble p k (k - l)) x=kp key p x:=λx hx=>L8 key (qS (by rw[b x,e,if_neg (),if_neg ()]));have at2:∀x,l < x->x<=k->kp key (bubble p k (k - l)) x=kp key p (x - 1):=λx hx hxk=>L8 key (qS (by rw[b x,e,if_neg (),if_pos ⟨hx,hxk⟩]));rcases T3 i l with h|h|h
 ·rw[NL i h];rcases T3 j l with h'|h'|h'
  ·rw[NL j h'];exact ha i j mJ ()
  ·rw[h',at0];exact h1 i h
  ·rw[at2 j h' ()];exact ha i (j - 1) () ()
 ·rw[h,at0,at2 j () ()];exact h2 (j - 1) () ()
 ·rw[at2 i h (),at2 j () ()];exact ha (i - 1) (j - 1) () ()
theorem DY:∀(f:Nat) (p:Array Nat) (k:Nat) {Q:Array Nat->Shared->Prop},aT N p->f + k=N->eL key p k->(∀q,aT N q->eL key q N->Q q s)->(kas_bin f p k).kasWp cmp Q s
 |0,p,k,Q,g,hk,ha,hq=>hq p g (by rw[O7]at hk;rw[<-hk];exact ha)
 |f + 1,p,k,Q,g,hk,ha,hq=>by
  unfold kas_bin;rw[U2];refine wx T g () k 0 k () () (A9 _) (λi hi=>by lia) (λi h1 h2=>by lia) (λm a1 a2 a3 a4=> ?_) ha;exact DY f _ (k + 1) (g.bub k (k - m)) () (Ut T g () a1 a2 a3 a4) hq
theorem Us(h1:1<=N){Q:Array Nat->Shared->Prop}(hq:∀q,aT N q->eL key q N->Q q s):(kas_sort N).kasWp cmp Q s:=by
 unfold kas_sort;rw[U2];have g0:aT N (List.toArray (List.range N)):=⟨by simp,by simp⟩;refine Wo T g0 h1 λm q a1 a2 a3 a4=> ?_
 by_cases h:m < N
 ·rw[if_pos h];have e:max m 1=m:=by lia
  rw[e];exact DY T (N - m) q m a3 () a4 hq
 ·rw[if_neg h];have:m=N:=by lia
  subst this;exact hq q a3 a4
end
end L3
namespace L3
open PySem PySem.Spec PySem.W PyProof.Rows L2
variable{K:Frag}{fd:FuncData}{mg:AB}{us:List Value}{base:Heap}{H:Hp}{X:Cx}{pos:Pos}
noncomputable abbrev Dd:Str:= "numbers_by_bucket.<locals>.<lambda>"
def jF(H:Hp)(P c:Addr):Prop:=∃o us t,H c=some (.cS o (.own P))/\o.data=.fields us/\us[1]? =some (.str "numbers_by_bucket.<locals>.<lambda>" t)
def jF.mono{H H':Hp}{P c:Addr}(s:aA H H')(h:jF H P c):jF H' P c:=let⟨o,us,t,e,r⟩:=h;⟨o,us,t,s _ _ e,r⟩
def YY{pos pos':Pos}{c cv:Value}(l:List Value)(h:TriplesOk l)(e:codeAmong pos' (l ++ [rawInt pos.line,rawInt pos.col,c])=some cv):codeAmong pos' l=some cv\/cv=c:=by
 fun_induction TriplesOk l with
 |case1=>
  simp only[O5,codeAmong,rawInt]at e
  split at e
  ·cases e;exact .inr rfl
  ·cases e
 |case2 a t b u x Cz ih=>
  simp only[Q9,codeAmong]at e⊢
  split at e
  ·rename_i hc;rw[if_pos hc];exact .inl e
  ·rename_i hc;rw[if_neg hc];exact ih h e
 |case3 l h1 h2=>exact h.elim
section
variable{X:Cx}{zd:AE}{σ:Sg}{H:Hp}{s:Shared}{A:Around}{E:AA}
def Inv.pinned{h':Heap}{tk:Nat}{o:Obj}(I:Inv X zd σ H {s with heap:=h',toks:=tk})(hd:∀v,o.data≠ .cell v)(pS:o.isFreed=false):Inv X ((h'.objs.size,o)::zd) σ H {s with heap:=h'.push o,toks:=tk}:=by
 have I2:Inv X zd σ H {s with heap:=h'.push o,toks:=tk}:=I.kept (t':=tk) λb u e=>A5 _ e;refine I2.bX λp hp=> ?_;rcases B8.mp hp with rfl|hp
 ·refine⟨C5 _ pS,I.aN.fresh (A9 _),λz=> ?_,I.qq (A9 _),hd⟩;have:=I.lt;rw[<-z]at this;exact absurd this (F1 _)
 ·exact I2.pin p (B2 _ hp)
def Wn{params:Arguments}{body:Expr}{scope:Scope}{c P:Addr}{gF:List (Str×Addr)}{Q:AA}(I:Inv X zd σ H s)(ht:tabIn X.K "numbers_by_bucket" =some (c,P))(bT:codeHdIn X.K c P=true)(aj:X.env.code=.ref c)
  (hq:X.env.qual ++ "<lambda>" =Dd) (gv:defaultsOf params X.env=([],[])) (md:closureFor scope X.env=pure gF)
  (h:∀f c' pm eA H' s',aA H H'->jF H' P c'->Inv X ((f,kla_obj "<lambda>" Dd params body scope gF pm c' eA)::zd) σ H' s'->Q (.ref f) s'):wpAny (model X.prog X.w) A (eval (.Lambda params body scope pos) X.env) Q E s:=by
 refine kla_eval gv ?_;rw[hq];obtain⟨ps,hH⟩:=I.tab c P ht;obtain⟨vs,hP,tr,reg⟩:=I.aN P _ hH;have C:CodeHd s.heap c P:=codeHd_of_K I.bY bT;have hg:s.heap.Ns mainGlobals X.mg:=I.ok.mod.glob.keeps λb o e=>(I.bs b o e).1;have hgP:mainGlobals≠P:=λq=>by
  obtain⟨o,es,ep,e,hd,_⟩:=hg;rw[q,hP]at e;cases e;cases hd
 have hb:s.heap.BuiltinsAt X.mg P:=by
  obtain⟨bm,ob,b1,b2,b3,b4,b5,b6⟩:=I.ok.mod.bm;have BN:=(I.bs _ _ b3).1;refine⟨bm,ob,b1,b2,λq=> ?_,λq=> ?_,BN,b4,b5,b6⟩
  ·obtain⟨o,es,ep,e,hd,_⟩:=hg;rw[q,e]at BN;cases BN;rw[hd]at b6;cases b6
  ·rw[q,hP]at BN;cases BN;cases b4
 cases hf:codeAmong pos vs.toList with
 |some cv=>
  obtain⟨c',o,us,t,rfl,r⟩:=reg pos cv hf;refine kla_makeFunctionHit md I.ok.glob hg aj C hP tr hf hb λeA h' tk hk hsz=> ?_;exact h h'.objs.size c' _ eA H _ (aA.refl _) ⟨o,us,t,r⟩ (Inv.pinned (I.kept (t':=tk) hk) (λv z=>by cases z) rfl)
 |none=>
  refine kla_makeFunction md I.ok.glob hg aj C hP tr hf hgP hb λc' eA h' tk hx oY cR jb htb=> ?_;obtain⟨c2,oc,us,t,e2,zU,hd,hv⟩:=jb;cases e2;have hn:H c'=none:=I.aN.fresh oY;have up:aA H (upd H c' (.cS oc (.own P))):=kE hn _;have iw:cH X.prog X.w (upd H c' (.cS oc (.own P))) h':=λb u e=>by
   by_cases z:b=c'
   ·subst z;rw[Ce]at e;cases e;exact⟨zU,oc,zU⟩
   ·rw[Be z]at e
    by_cases z2:b=P
    ·subst z2;rw[hH]at e;cases e;refine⟨_,htb, ?_,λpos' cv q=> ?_⟩
     ·have:=TriplesOk_snoc pos.line pos.col (.ref c') vs.toList tr;simpa using this
     ·rcases YY (pos:=pos) (c:=.ref c') vs.toList tr (by simpa using q) with q|rfl
      ·obtain⟨c3,o3,us3,t3,e3,e4,r⟩:=reg pos' cv q;exact⟨c3,o3,us3,t3,e3,up _ _ e4,r⟩
      ·exact⟨c',oc,us,t,rfl,Ce,hd,hv⟩
    ·refine(I.aN b u e).cO (λx v Ni r=>hx x v (λz3=> ?_) r) (λx r=>up _ _ r) (λx xs r=>up _ _ r) λx o r=>up _ _ r;rcases Ni with rfl|Ni
     ·exact z2 z3
     ·rw[z3,hH]at Ni;cases Ni
  have nP:∀b,H b=none->b≠P:=λb n z=>by rw[z,hH]at n;cases n
  have I1:Inv X zd σ (upd H c' (.cS oc (.own P))) {s with heap:=h',toks:=tk}:=I.un (t':=tk) ⟨λb o q n _ _=>hx b o (nP b n) q,λb o q n _ _=>⟨o.slots,hx b o (nP b n) q⟩,
   λb o q n _=>by rw[Be (C4 (C1 (A8 q) oY))];exact n,λb o q _=>by
    by_cases z:b=P
    ·subst z;exact⟨_,htb⟩
    ·exact⟨o,hx b o z q⟩,λb xs e=>up _ _ e,λb o u e=>up _ _ e,λb ps e=>⟨#[],by rw[up _ _ e];simp⟩⟩ iw
  exact h h'.objs.size c' _ eA _ _ up ⟨oc,us,t,Ce,hd,hv⟩ (Inv.pinned I1 (λv z=>by cases z) rfl)
structure rK(X:Cx)(scope:Scope)(cl:List (Str×Addr)):Prop where
 gF:closureFor scope X.env=pure cl
 cell:∀y∈scope.names,y.2≠ .cell
 sub:∀y c,cl.lookup y=some c->X.env.cells.lookup y=some c
 has:∀y,scope.names.lookup y=some .free->∃c,cl.lookup y=some c
 old:∀(i:Nat) (y:Str),X.N[i]? =some y->fV scope y->(X.env.scope.names.lookup y=some .cell\/X.env.scope.names.lookup y=some .free)/\scope.names.lookup y=some .free
def Ur{scope:Scope}{x:Str}(ok:X.Ok)(hb:Gu scope.names X.env.scope.names X.N (X.N ++ [x])=true):rK X scope (Dw X.env.cells scope.names []):=by
 unfold Gu at hb;rw[C9]at hb;obtain⟨h1,h2⟩:=hb;have h1:=F8.mp h1;have h2:=F8.mp h2;have fr:∀p∈scope.names,p.2=.free->∃c,X.env.cells.lookup p.1=some c:=λp hp hf=>by
  have z:=h1 p hp;simp only[hf,C9,S0,bne_iff_ne,M5]at z;exact ok.has p.1 (by
   rcases z.2 with z|z
   ·exact absurd rfl z
   ·exact z)
 refine⟨LQ fr,λp hp hc=> ?_,λy c e=> ?_,λy e=>Q5.mp (wC (L5 e)),λi y e hv=> ?_⟩
 ·have z:=h1 p hp;rw[hc]at z;simp at z
 ·rcases wD (L5 e) with z|⟨z1,z2⟩
  ·exact absurd z (by simp)
  ·obtain⟨c',e'⟩:=fr (y,.free) z1 rfl;have z2:c=(X.env.cells.lookup y).getD 0:=z2;have e':X.env.cells.lookup y=some c':=e';rw[e']at z2⊢;cases z2;rfl
 ·have hi:i < X.N.length:=(B4.mp e).1;have z:=h2 i (K7.mpr hi);rw[B7 hi,e]at z;dsimp only at z;cases q:scope.names.lookup y with
  |none=>unfold fV at hv;rw[q]at hv;simp at hv
  |some k=>
   unfold fV at hv;rw[q]at z hv;cases k with
   |free=>
    simp only[C9,S0,M5]at z;exact⟨z.2,rfl⟩
   |cell=>simp at z
   |«local»=>simp at z
   |globalExplicit=>simp at hv
   |globalImplicit=>simp at hv
def kT(X:Cx)(A:Around)(scope:Scope)(f c:Addr)(cl:List (Str×Addr))(x:Str)(s:Shared)(H:Hp)(zd:AE):Cx where
 prog:=X.prog
 w:=X.w
 K:=X.K
 mg:=X.mg
 base:=X.base
 A:=A.deeper (envX Dd scope s.heap.objs.size f (.ref c) cl)
 N:=X.N ++ [x]
 s₀:=s
 H₀:=H
 env:=envX Dd scope s.heap.objs.size f (.ref c) cl
 outer:=X.stack
 stack:=envX Dd scope s.heap.objs.size f (.ref c) cl::X.stack
 ex:=[]
 fn:=λ_=>false
 calm:=true
 pn:=X.pn ++ zd
 xe:=λ_ _=>False
def Wm{f c P:Addr}{cl:List (Str×Addr)}{pm eA:Value}{params:Arguments}{body:Expr}{scope:Scope}{x:Str}{u:Value}{v:V}{d:D}{G:Hp}{δ:DE}{w:W}{fb:FE}{Q:VK}(I:Inv X zd σ H s)(hp:(f,kla_obj "<lambda>" Dd params body scope cl pm c eA)∈X.pn ++ zd)(hc:jF H P c)(n:rK X scope cl)
  (hk:scope.kind=.function) (AQ:scope.isCoroutine=false) (oY:scope.isGenerator=false) (bt:scope.names.lookup x=some .local) (aq:bindArgs (kla_fn "<lambda>" Dd params body scope cl pm (.ref c) eA) ⟨[u],[]⟩=pure [(x,u)]) (hA:A.frames=X.A.frames) (hr:aE true 1 A)
  (g:aA G H) (h0:aR X.K G σ δ) (rv:RelV v u) (hv:aU X.K G v d) (zj:ED (kT X A scope f c cl x s H zd) Ej body fb) (e:fb (δ ++ [some d])=.ok w) (q:WP X.K G H w Q):wpAny (model X.prog X.w) A (call (.ref f) [u]) (EP X zd σ Q) (λ_ _=>False) s:=by
 have pf:=I.pin _ hp;obtain⟨o,us,t,eo,ed,et⟩:=hc;have hcr:s.heap.CodeRec (.ref c) Dd:=⟨c,o,us,t,rfl,(I.aN c _ eo).1,ed,et⟩;have lim:s.heap.NoLimit:=I.ok.mod.nolimit.keeps λb o e=>(I.bs b o e).1;have dp:A.depth < recursionLimit:=by have:=hr.dp;lia
 refine U5 (R9 (R:=λr s'=>match r with| .ok (.ret z)=>EP X zd σ Q z s'|_=>False) (kla_callFunE dp pf.1 rfl AQ oY rfl hcr ?_) λr s' hq=> ?_)
 ·rw[aq];refine D0 (X3 n.cell (λy hy=> ?_) (λh₁ zV hsb=>⟨lim.fresh _ hsb, ?_⟩) hk)
  ·rw[J9.mp hy];exact bt
  show codeAny _ _ (.expr body (envX Dd scope s.heap.objs.size f (.ref c) cl)) _ _;have up:∀b o,s.heap.get? b=some o->h₁.get? b=some o:=λb o e=>hsb.extBut b o (C4 (A8 e)) (A5 _ e);have zA:(kT X A scope f c cl x s H zd).Ok:=⟨I.ok.mod,hk,rfl,rfl,A9 _,λy z c h1 h2=>I.ok.inj y z c (n.sub y c h1) (n.sub z c h2),λy hy=>by
    have hy:scope.names.lookup y=some .cell\/scope.names.lookup y=some .free:=hy;rcases hy with hy|hy
    ·exact absurd rfl (n.cell _ (L5 hy))
    ·exact n.has y hy,λ_ _ z=>absurd z A6,λ_=>hr.hd rfl,X1 (hA.trans I.ok.frames),.inr ⟨rfl,rfl⟩,λb z=>absurd (show b∈([]:List Addr) from z) (by simp),I.bs,D4 I.ok.fU I.sz,
    λb _ _ z=>absurd (show b∈([]:List Addr) from z) (by simp),λb z=>absurd (show b∈([]:List Addr) from z) (by simp),I.stack,I.cP,I.tab⟩
  have lenσ:σ.length=X.N.length:=I.len;have I4:Inv (kT X A scope f c cl x s H zd) [] (σ ++ [some v]) H {s with heap:=h₁,toks:=s.toks + [(x,u)].length}:=by
   refine⟨zA,rfl,I.bare,Un.kept up,⟨_,zV,λi y v' e1 e2 e3=> ?_⟩,λy c e=> ?_,I.aN.fresh (A9 _),λy c e=>I.bD y c (n.sub y c e),λp hp=> ?_,I.aN.kept up, ?_⟩
   ·have e1:(X.N ++ [x])[i]? =some y:=e1
    by_cases hi:i < X.N.length
    ·rw[B7 hi]at e1;rw[B7 (by rw[lenσ];exact hi)]at e2;obtain⟨n2,n4⟩:=n.old i y e1 e3;obtain⟨c1,n3⟩:=n.has y n4;obtain⟨mm,jX,hl⟩:=I.loc;obtain⟨u',r,l⟩:=hl i y v' e1 e2 (.inr n2);refine⟨u',r,.inr ⟨.inr n4,c1,n3, ?_⟩⟩;have zF:=n.sub y c1 n3;rcases l with⟨k1,k2⟩|⟨k1,c',k2,k3⟩
     ·exfalso;have jU:X.env.scope.names.lookup y=some .local:=k1;rcases n2 with n2|n2
      ·rw[n2]at jU;cases jU
      ·rw[n2]at jU;cases jU
     ·rw[zF]at k2;cases k2;exact k3.keeps up
    ·have Pg:i=X.N.length:=by
      have:=(B4.mp e1).1;rw[A7,M7]at this;lia
     subst Pg;rw[D2 (A9 _),NT]at e1;rw[<-lenσ,D2 (A9 _),NT]at e2;cases e1;cases e2;exact⟨u,rv,.inl ⟨bt,by simp⟩⟩
   ·obtain⟨v,hv⟩:=I.cell y c (n.sub y c e);exact⟨v,hv.keeps up⟩
   ·have pQ:p∈X.pn ++ zd:=by
     have mI:p∈(X.pn ++ zd) ++ []:=hp
     rwa[D9]at mI
    obtain⟨z1,z2,z3,z4,z5⟩:=I.pin p pQ;refine⟨up _ _ z1,z2,C4 (A8 z1),λz=> ?_,z5⟩;rcases B8.mp (I.bP p.1 z) with z|z
    ·exact z3 z
    ·exact z4 z
   ·show(σ ++ [some v]).length=(X.N ++ [x]).length;rw[A7,A7,lenσ];rfl
  have hS:aR X.K G (σ ++ [some v]) (δ ++ [some d]):=by
   refine⟨by rw[A7,A7,h0.len];rfl,λi d' e=> ?_⟩
   by_cases hh:i < δ.length
   ·rw[B7 hh]at e;obtain⟨v,e1,r⟩:=h0.get i d' e;exact⟨v,by rw[B7 (by rw[h0.len];exact hh)];exact e1,r⟩
   ·have Pg:i=δ.length:=by
     have:=(B4.mp e).1;rw[A7,M7]at this;lia
    subst Pg;rw[D2 (A9 _),NT]at e;cases e;exact⟨v,by rw[<-h0.len,D2 (A9 _),NT];rfl,hv⟩
  exact kla_codeExpr (D6 (zj [] _ (σ ++ [some v]) H Q I4 ⟨G,δ ++ [some d],g,hS,by rw[e];exact q⟩) (λz s' ⟨v',H',J,fO,q'⟩=>I.after ⟨v',H',J.os,J.bare,J.base,J.aN,fO,q'⟩) λ_ _ z=>False.elim z)
 ·cases r with
  |error e=>exact hq
  |ok fl=>
   cases fl with
   |ret z=>exact hq
   |next=>exact hq
   |brk=>exact hq
   |cont=>exact hq
end
end L3
namespace L3
open PySem PySem.W PySem.Spec PyProof.Rows
variable{K:Frag}{fd:FuncData}{mg:AB}{us:List Value}{base:Heap}{H:Hp}{X:Cx}{pos:Pos}
def lq(h:Heap)(u:Value)(p:Int×Int):Prop:=∃a o xs n t t',u=.ref a/\h.get? a=some o/\o.cls=.type "tuple" /\o.data=.seq xs n/\xs.toList= [.int p.1 t,.int p.2 t']
def Ei(p:Int×Int):Int:=p.1 * 4611686018427387904 + p.2
def oo(p:Int×Int):Prop:=0<=p.2/\p.2 < 4611686018427387904
theorem Kh{h:Heap}:∀{ks:List Value} {ps:List (Int×Int)},Paired (lq h) ks ps->∃fs,KatTups h ks fs/\IntsAre fs (ps.map (·.1))
 |_,_,.nil=>⟨[],.nil,.nil⟩
 |_,_,.cons r t=>by
  obtain⟨fs,q,i⟩:=Kh t;obtain⟨a,o,xs,n,t1,t2,rfl,ho,hc,hd,hx⟩:=r;exact⟨_,.cons ho hc hd (f:=.int _ t1) (by rw[<-S5,hx];rfl) q,.cons _ _ i⟩
theorem wu{h:Heap}:∀{ks:List Value} {ps:List (Int×Int)} {i:Nat},Paired (lq h) ks ps->i < ks.length->lq h (ks.getD i Value.none) (ps.getD i (0,0))
 |_,_,_,.nil,hi=>absurd hi (Qq _)
 |_,_,0,.cons r t,hi=>by simpa using r
 |_,_,i + 1,.cons r t,hi=>by simpa using wu (i:=i) t (by simpa using hi)
section
variable{prog:Program}{w:World}{A:Around}{E:AA}{s:Shared}{vs ks:List Value}{ps:List (Int×Int)}
def ZC(t:Paired (lq s.heap) ks ps)(hb:∀p∈ps,oo p)(nd:(ps.map Ei).Nodup):DC ks.length (λi=>(ps.map Ei).getD i 0) (kas_ask prog w A (tuples' true) ks) s:=by
 have hl:ps.length=ks.length:=(S4 t).symm;have gk:∀i,i < ks.length->(ps.map Ei).getD i 0=Ei (ps.getD i (0,0)):=λi hi=>by
  have:i < ps.length:=by lia
  simp[this]
 have inj:∀i j,i < ks.length->j < ks.length->(ps.map Ei).getD i 0=(ps.map Ei).getD j 0->i=j:=λi j hi hj e=>by
  have h1:i < (ps.map Ei).length:=by rw[A3];lia
  have h2:j < (ps.map Ei).length:=by rw[A3];lia
  have e1:(ps.map Ei).getD i 0=(ps.map Ei)[i]:=by rw[E4,B6 h1];rfl
  have e2:(ps.map Ei).getD j 0=(ps.map Ei)[j]:=by rw[E4,B6 h2];rfl
  rw[e1,e2]at e;have pw:=P6.mp nd;rcases T3 i j with h|h|h
  ·exact absurd e (pw i j h1 h2 h)
  ·exact h
  ·exact absurd e.symm (pw j i h2 h1 h)
 refine⟨inj,λi j C hi hj hn hC=> ?_⟩;have zW:Ei (ps.getD i (0,0))≠Ei (ps.getD j (0,0)):=λz=>hn (inj i j hi hj (by rw[gk i hi,gk j hj];exact z));have mem:∀k,k < ks.length->oo (ps.getD k (0,0)):=λk hk=>by
  have h1:k < ps.length:=by lia
  have:ps.getD k (0,0)=ps[k]:=by rw[E4,B6 h1];rfl
  rw[this];exact hb _ (R1 h1)
 obtain⟨b1,b2⟩:=mem i hi;obtain⟨d1,d2⟩:=mem j hj;obtain⟨a,o,xs,n,tk,tk2,e1,e2,_,e3,e4⟩:=wu t hi;obtain⟨a',o',xs',n',tk',jk,f1,f2,_,f3,f4⟩:=wu t hj;have ee:decide (Ei (ps.getD i (0,0)) < Ei (ps.getD j (0,0)))=decide ((ps.map Ei).getD i 0 < (ps.map Ei).getD j 0):=by rw[gk i hi,gk j hj]
 have hC:C (decide (Ei (ps.getD i (0,0)) < Ei (ps.getD j (0,0)))) s:=by rw[ee];exact hC
 unfold Ei at hC zW;unfold kas_ask;rw[e1,f1];refine kat_lt e2 e3 f2 f3 ?_;rw[e4,f4];generalize ps.getD i (0,0)=p at *
 generalize ps.getD j (0,0)=q at *
 show wpAny _ _ (eqBool _ _) _ _ _;refine Z8 ?_
 by_cases Nl:p.1=q.1
 ·have ne:(p.1 ==q.1)=true:=by rw[M5];exact Nl
  have ne2:(p.2 ==q.2)=false:=by
   rw[N4];intro z;rw[Nl,z]at zW;exact zW rfl
  rw[ne];simp only[if_true];show wpAny _ _ (eqBool _ _) _ _ _;refine Z8 ?_;rw[ne2];simp only[C8,F3];refine kat_one _ _ (wpAny_lt_int ?_);have ed:decide (p.1 * 4611686018427387904 + p.2 < q.1 * 4611686018427387904 + q.2)=decide (p.2 < q.2):=by
   rw[Nl];exact Qy.mpr ()
  rw[ed]at hC
  first
   |exact hC
   |exact⟨_,rfl,hC⟩
 ·have ne:(p.1 ==q.1)=false:=by rw[N4];exact Nl
  rw[ne];simp only[C8,F3];have ed:decide (p.1 * 4611686018427387904 + p.2 < q.1 * 4611686018427387904 + q.2)=decide (p.1 < q.1):=Qy.mpr ();rw[ed]at hC;exact oneLt_int hC
def GO{a kS:Addr}{e e1:Nat}{st:SortSt}{out:List Value}{P:PySem.Fin->Shared->Prop}(hk:s.heap.get? kS=some (seqObj "list" ks.toArray e))(ha:s.heap.get? a=some (seqObj "list" #[] e1))(sL:kS≠a)(gw:(arrOf st).map (·.2)=List.toArray out)(hz:out.length < 64)(hkz:ks.length < 64)(hf:failedOf st=none)
  (h:P (.done (.ret .none)) {s with heap:=(s.heap.update kS (Obj.mapSeq λ_=>(#[]:Array Value))).update a (Obj.mapSeq λ_=>List.toArray out)}):wpAny (model prog w) A (ksk_tail a false e1 (.ref kS) st) P E s:=by
 have s1:=Q8 s.heap kS (Obj.mapSeq λ_=>(#[]:Array Value));have na:(s.heap.update kS (Obj.mapSeq λ_=>(#[]:Array Value))).get? a=some (seqObj "list" #[] e1):=(s1.2 a sL.symm).trans ha;unfold ksk_tail
 try dsimp only
 rw[gw];refine A4 (Z6 hk rfl ?_ (by rw[C7,F0];lia) (K8 _));refine A4 (wpAny_letGo ?_);refine A4 (seqEpoch_at na rfl ?_);refine A4 (Z6 na rfl ?_ (K8 _) (by simp only[C8,F3];rw[C7,F0];lia));rw[hf];simp only[bne_self_eq_false,C8,F3];exact D0 h
def XN{a kS:Addr}{e e1:Nat}{P:PySem.Fin->Shared->Prop}(hk:s.heap.get? kS=some (seqObj "list" ks.toArray e))(ha:s.heap.get? a=some (seqObj "list" #[] e1))(sL:kS≠a)(hl:ks.length=vs.length)(pY:vs.length < 64)(t:Paired (lq s.heap) ks ps)(hb:∀p∈ps,oo p)(nd:(ps.map Ei).Nodup)
  (h:∀p:Array Nat,aT vs.length p->eL (λi=>(ps.map Ei).getD i 0) p vs.length->P (.done (.ret .none)) {s with heap:=(s.heap.update kS (Obj.mapSeq λ_=>(#[]:Array Value))).update a (Obj.mapSeq λ_=>List.toArray (p.toList.map λi=>vs.getD i Value.none))}):
  wpAny (model prog w) A (ksk_end a false vs.toArray e1 (.ref kS) ks.toArray) P E s:=by
 have hsz:vs.toArray.size=vs.length:=by simp
 unfold ksk_end;simp only[C8,F3]
 try dsimp only
 by_cases h2:vs.toArray.size < 2
 ·rw[if_pos h2,if_pos h2];refine A4 (D0 ?_);rw[StateT.run_pure];refine A4 (D0 ?_)
  try dsimp only
  have g0:aT vs.length (List.toArray (List.range vs.length)):=⟨by simp,by simp⟩;have q:=h _ g0 (λi j mJ hj=>by rw[hsz]at h2;lia);refine GO hk ha sL (kat_snds hl ?_) (by rw[A3];simpa using pY) () rfl q;exact(kas_range (ks.toArray.zip vs.toArray)).symm.trans (by rw[show(ks.toArray.zip vs.toArray).size=vs.length by simp[hl]])
 ·rw[if_neg h2,if_neg h2];obtain⟨fs,tt,ia⟩:=Kh t;have bH:ps.length=ks.length:=(S4 t).symm;have hf:0 < fs.length:=by
   have:fs.length=(ps.map (·.1)).length:=ia.length;rw[A3]at this;rw[hsz]at h2;lia
  refine A4 (kat_kind (T:=.type "int") tt hf (λv hv=> ?_) (by rfl) ?_)
  ·have:∀{fs:List Value} {kz:List Int},IntsAre fs kz->v∈fs->∃n t,v=.int n t:=λ{fs kz} ia=>by
    induction ia with
    |nil=>intro h;cases h
    |cons n t r ih=>
     intro h;rcases B8.mp h with rfl|h
     ·exact⟨n,t,rfl⟩
     ·exact ih h
   obtain⟨n,t,rfl⟩:=this ia hv;exact .now
  ·refine A4 (D6 (kat_run (Q:=λcX s'=>s'=s/\∃p:Array Nat,arrOf cX=p.map (kas_item (ks.toArray.zip vs.toArray))/\failedOf cX=none/\aT vs.length p/\eL (λi=>(ps.map Ei).getD i 0) p vs.length) (G:=λp s'=>s'=s/\aT vs.length p/\eL (λi=>(ps.map Ei).getD i 0) p vs.length)
    hl () pY (λp' cX s' a1 a2 a3 a4=>⟨a4.1,p',a2,a3,a4.2⟩) (Us (by rw[<-hl];exact ZC t hb nd) () λq g as=>⟨rfl,g,as⟩)) ?_ λ_ _ e=>e)
   rintro ⟨⟨⟩,cX⟩ s' ⟨rfl,p,har,AL,g,as⟩
   try dsimp only
   exact GO hk ha sL (kat_snds hl har) (by rw[A3,M4,g.size];exact pY) () AL (h p g as)
def XM{f:Value}{a kS:Addr}{e1:Nat}{P:PySem.Fin->Shared->Prop}(J:Nat->Array Value->Shared->Prop)(j0:J 0 #[] s)(pY:vs.length < 64)
  (turn:∀(i:Nat) (v:Value) (kA:Array Value) (s':Shared),vs[i]? =some v->J i kA s'->
   wpAny (model prog w) A (call f [v]) (λu pG=>∃e,pG.heap.get? kS=some (seqObj "list" kA e)/\kA.size=i/\J (i + 1) (kA.push u) {pG with heap:=pG.heap.update kS (Obj.mapSeq (·.push u))}) (λ_ _=>False) s')
  (at_:∀i kA s',J i kA s'->∃e,s'.heap.get? kS=some (seqObj "list" kA e))
  (h:∀kA s',J vs.length kA s'->wpAny (model prog w) A (ksk_end a false vs.toArray e1 (.ref kS) kA) P E s'):
  wpAny (model prog w) A (ksk_rest a f false vs.toArray e1 (.ref kS)) P E s:=by
 unfold ksk_rest;refine A4 (wpAny_rule ?_)
 first
  |rw[List.forIn_toArray]
  |(rw[<-Array.forIn_toList];simp only[List.toList_toArray])
  |rw[<-Array.forIn_toList]
 refine A4 (ksk_fold (λi s'=>∃kA,J i kA s') vs 0 s ⟨#[],j0⟩ ?step ?done)
 case step=>
  rintro j x s' hx ⟨kA,hJ⟩
  simp only[O7]at hJ⊢;have hj:j < vs.length:=(B4.mp hx).1;refine A4 (wpAny_attempt (D6 (turn j x kA s' hx hJ) (λv pG he=> ?_) λ_ _ hF=>hF.elim));obtain⟨e2,mf,hz,hJ2⟩:=he
  try dsimp only
  refine A4 (Z6 mf rfl ?_ (by rw[F0];lia) (D4 (O6 (Array.size_push ..)) (by rw[F0];lia)));exact D0 ⟨rfl,kA.push v,hJ2⟩
 case done=>
  rintro s' ⟨kA,hJ⟩
  rw[O7]at hJ;obtain⟨e,mf⟩:=at_ _ _ _ hJ
  try dsimp only
  refine A4 (listItems_at mf rfl ?_);exact h kA s' hJ
end
end L3
namespace L3
open PySem PySem.Spec PySem.W PyProof.Rows L2
variable{K:Frag}{fd:FuncData}{mg:AB}{us:List Value}{base:Heap}{H:Hp}{X:Cx}{pos:Pos}
def Ez(fb:FE)(δ:DE):List D->R W
 | [d]=>(fb (δ ++ [some d])).bind λw=>match w.d with
  | .tup [.int a,.int b]=>if 0<=b/\b < 4611686018427387904 then .ok (.sh (.int (a * 4611686018427387904 + b))) else .no
  |_=> .no
 |_=> .no
def gR(fb:FE)(f:FE):FE:=λ δ=>(f δ).bind λw=>match w.d with
 | .aD aW=>kU (Ez fb δ) (aW.map λp=>kD p.1)
 |_=> .no
def Wl{fb:FE}{δ:DE}{d:D}{w:W}{k:Int}(e:Ez fb δ [d]=.ok w)(ew:w.d=.int k):∃w' a b,fb (δ ++ [some d])=.ok w'/\w'.d=.tup [.int a,.int b]/\oo (a,b)/\k=Ei (a,b):=by
 unfold Ez at e;dsimp only at e;cases q:fb (δ ++ [some d]) with
 |ok w'=>
  rw[q]at e;simp only[R.aI]at e
  split at e
  ·rename_i a b e'
   split at e
   ·rename_i h;cases e;cases ew;exact⟨w',a,b,rfl,e',h,rfl⟩
   ·cases e
  ·cases e
 |ex x=>rw[q]at e;cases e
 |no=>rw[q]at e;cases e
def TupAt(K:Frag)(H:Hp)(u:Value)(p:Int×Int):Prop:=∃t,u=.ref t/\cU K H t [.int p.1,.int p.2]
theorem TupAt.mono{K:Frag}{H H':Hp}(s:aA H H'):∀{us:List Value} {ps:List (Int×Int)},Paired (TupAt K H) us ps->Paired (TupAt K H') us ps
 |_,_,.nil=> .nil
 |_,_,.cons ⟨t,e,h⟩ r=> .cons ⟨t,e,aA.tupS s h⟩ (TupAt.mono s r)
theorem Paired.snoc{α β:Type}{R:α->β->Prop}{a:α}{b:β}:∀{A:List α} {B:List β},Paired R A B->R a b->Paired R (A ++ [a]) (B ++ [b])
 |_,_,.nil,r=> .cons r .nil
 |_,_,.cons q t,r=> .cons q (Paired.snoc t r)
section
variable{X:Cx}{zd:AE}{σ:Sg}{H:Hp}{s:Shared}
theorem TupAt.pair(I:Inv X zd σ H s):∀{us:List Value} {ps:List (Int×Int)},Paired (TupAt X.K H) us ps->Paired (lq s.heap) us ps
 |_,_,.nil=> .nil
 |_,_,.cons ⟨t,e,h⟩ r=>by
  refine .cons ?_ (TupAt.pair I r);obtain⟨its,v,⟨o,g,c,n,d⟩,_⟩:=I.tuple h;cases v with
  |cons r1 v=>
   cases v with
   |cons r2 v=>
    cases v;obtain⟨t1,rfl⟩:=r1;obtain⟨t2,rfl⟩:=r2;exact⟨t,o,_,n,t1,t2,e,g,c,d,rfl⟩
def Inv.Mw{a:Addr}{h':Heap}{its:List Value}{us:List V}{c tk:Nat}(I:Inv X zd σ H s)(sb:Heap.SameBut a s.heap h')(ho:h'.get? a=some (seqObj "list" its.toArray c))(hu:Vals us its)(hz:us.length<=sizeLine)(AR:H a=none)(Ny:X.s₀.heap.objs.size<=a)(yE:a≠X.env.locals)
  (Nz:∀x c,X.env.cells.lookup x=some c->c≠a) (sP:∀p∈X.pn ++ zd,p.1≠a):Inv X zd σ (upd H a (.lst us)) {s with heap:=h',toks:=tk}:=by
 have up:∀b u,H b=some u->upd H a (.lst us) b=some u:=λb u e=>by rw[Be (En e AR)];exact e
 have k:∀b o,b≠a->s.heap.get? b=some o->h'.get? b=some o:=λb o hb e=>(sb.2 b hb).trans e;have oP:∀{b:Addr},b∉ [a]->b≠a:=λh z=>h (by simp[z]);refine I.step (g':=s.gens) (d':=s.drawn) (ch:=[a]) (λb hb=> ?_) (λb o _ _ hc e _=>k b o (oP hc) e) (λb o _ _ hc e _=>⟨o.slots,k b o (oP hc) e⟩) (λb o hc _ n=>by rw[Be (oP hc)];exact n)
  (λb o hc e=>⟨o,k b o (oP hc) e⟩) (λb xs e=>up _ _ e) (λb o u e=>up _ _ e) (λb ps e=>⟨#[],by rw[up _ _ e];simp⟩) (λm hm=> ?_) (λb u e=> ?_) I.bare
 ·rw[J9.mp hb];exact⟨.inr Ny,yE,Nz,sP⟩
 ·obtain⟨o,es,ep,ho,r⟩:=hm;exact⟨o,es,ep,k _ o (Ne.symm yE) ho,r⟩
 ·by_cases z:b=a
  ·subst z;rw[Ce]at e;cases e;exact⟨hz,its,c,hu,ho⟩
  ·rw[Be z]at e;refine(I.aN b u e).cO (λx v hx q=>k x v (λz3=> ?_) q) (λx q=>up _ _ q) (λx xs q=>up _ _ q) λx o q=>up _ _ q;rcases hx with rfl|hx
   ·exact z z3
   ·rw[z3,AR]at hx;cases hx
def YX{A:Around}{E:AA}{P:PySem.Fin->Shared->Prop}{a:Addr}{n:Nat}{vs:List Value}{xs:List V}{ds:List D}{kz:List Int}{fb:FE}{δ:DE}{G:Hp}{f c Pt:Addr}{cl:List (Str×Addr)}{pm eA:Value}{params:Arguments}{body:Expr}{scope:Scope}{x:Str}
  (I:Inv X zd σ H s) (ho:s.heap.get? a=some (seqObj "list" vs.toArray n)) (AR:H a=none) (Ny:X.s₀.heap.objs.size<=a) (yE:a≠X.env.locals)
  (Nz:∀x c,X.env.cells.lookup x=some c->c≠a) (sP:∀p∈X.pn ++ zd,p.1≠a) (haf:a∉X.fs) (hv:Vals xs vs) (hx:∀(i:Nat) v d,xs[i]? =some v->ds[i]? =some d->∀G,aU X.K G v d) (ur:ds.length=vs.length)
  (hkz:∀(i:Nat) d k,ds[i]? =some d->kz[i]? =some k->∃w,Ez fb δ [d]=.ok w/\w.d=.int k) (zk:kz.length=vs.length) (pY:vs.length < 64) (nd:kz.Nodup)
  (pf:(f,kla_obj "<lambda>" Dd params body scope cl pm c eA)∈X.pn ++ zd) (hc:jF H Pt c) (nm:rK X scope cl) (hk:scope.kind=.function) (AQ:scope.isCoroutine=false) (oY:scope.isGenerator=false) (bt:scope.names.lookup x=some .local)
  (aq:∀u,bindArgs (kla_fn "<lambda>" Dd params body scope cl pm (.ref c) eA) ⟨[u],[]⟩=pure [(x,u)]) (hA:A.frames=X.A.frames) (hr:aE true 1 A) (g:aA G H) (h0:aR X.K G σ δ) (zj:∀A s H zd,aE true 1 A->ED (kT X A scope f c cl x s H zd) Ej body fb)
  (h:∀(s':Shared) (H':Hp) (ps:List (Int×Value)) (us:List V),aA H H'->H' a=none->ps.Perm (kz.zip vs)->ps.Pairwise (λp q=>p.1<=q.1)->Vals us (ps.map Prod.snd)->us.length=vs.length->Inv X zd σ (upd H' a (.lst us)) s'->P (.done (.ret .none)) s'):
  wpAny (model X.prog X.w) A (PyProof.Rows.ksk_tree a (.ref f) false) P E s:=by
 have ha:a < s.heap.objs.size:=A8 ho;have s1:=Q8 s.heap a (Obj.mapSeq λ_=>(#[]:Array Value));obtain⟨e1,ho1⟩:∃e1,(s.heap.update a (Obj.mapSeq λ_=>(#[]:Array Value))).get? a=some (seqObj "list" #[] e1):=⟨_,get?_update_seq ho λ_=> #[]⟩;have uq:((s.heap.update a (Obj.mapSeq λ_=>(#[]:Array Value))).push (seqObj "tuple" vs.toArray 0)).objs.size=s.heap.objs.size + 1:=by rw[size_push',Heap.size_update]
 generalize hq:((s.heap.update a (Obj.mapSeq λ_=>(#[]:Array Value))).push (seqObj "tuple" vs.toArray 0)).objs.size=kS at uq;have sL:kS≠a:=by rw[uq];exact Y0 (S9 ha)
 have z1:X.s₀.heap.objs.size<=kS:=by rw[uq];exact Nat.le_succ_of_le I.sz
 have npk:∀p∈X.pn ++ zd,p.1≠kS:=λp hp z=>by
  have:=A8 (I.pin p hp).1;rw[z,uq]at this;exact absurd this (CB.mpr (N5 _))
 have I1:Inv X zd σ H {s with heap:=s.heap.update a (Obj.mapSeq λ_=>(#[]:Array Value))}:=I.turned (t':=s.toks) (λb o hb e=>(s1.2 b hb).trans e) AR yE (.inr Ny) Nz sP;have I2:Inv X zd σ H {s with heap:=((s.heap.update a (Obj.mapSeq λ_=>(#[]:Array Value))).push (seqObj "tuple" vs.toArray 0)).push (seqObj "list" #[] 0)}:=I1.kept (t':=s.toks) λb o e=>A5 _ (A5 _ e);have Nu:H kS=none:=I.aN.fresh (by rw[uq];exact N5 _);have Pf:kS≠X.env.locals:=λz=>by have:=I.lt;rw[<-z,uq]at this;exact absurd this (CB.mpr (N5 _))
 have hkf:kS∉X.fs:=I.qq (by rw[uq];exact N5 _);have nc:∀(l:Array Value) (e:Nat) v,(seqObj "list" l e).data≠ .cell v:=λl e v z=>by cases z
 let J:Nat->Array Value->Shared->Prop:=λi kA s'=>∃H' e qs,aA H H'/\Inv X ((kS,seqObj "list" kA e)::(a,seqObj "list" #[] e1)::zd) σ H' s'/\kA.size=i/\Paired (TupAt X.K H') kA.toList qs/\qs.map Ei=kz.take i/\∀p∈qs,oo p
 have bc:∀{kA:Array Value} {e:Nat} {H':Hp} {s':Shared},Inv X zd σ H' s'->s'.heap.get? kS=some (seqObj "list" kA e)->s'.heap.get? a=some (seqObj "list" #[] e1)->H' kS=none->H' a=none->Inv X ((kS,seqObj "list" kA e)::(a,seqObj "list" #[] e1)::zd) σ H' s':=λ{kA e H' s'} J0 g1 g2 n1 n2=>by
  refine J0.bX λp hp=> ?_;rcases B8.mp hp with rfl|hp
  ·exact⟨g1,n1,Pf,hkf,nc _ _⟩
  ·rcases B8.mp hp with rfl|hp
   ·exact⟨g2,n2,yE,haf,nc _ _⟩
   ·exact J0.pin p (B2 _ hp)
 have pf':∀kA e,(f,kla_obj "<lambda>" Dd params body scope cl pm c eA)∈X.pn ++ ((kS,seqObj "list" kA e)::(a,seqObj "list" #[] e1)::zd):=λkA e=>by
  rcases F9.mp pf with z|z
  ·exact M9 _ z
  ·exact B2 _ (.tail _ (.tail _ z))
 have cl':∀{kA:Array Value} {e:Nat} {H':Hp} {s':Shared},Inv X ((kS,seqObj "list" kA e)::(a,seqObj "list" #[] e1)::zd) σ H' s'->∀x c,X.env.cells.lookup x=some c->c≠kS:=λ{kA e H' s'} J2 x c hc z=>by
  obtain⟨v,o,ho,hd⟩:=J2.cell x c hc;have pk:=J2.pin (kS,seqObj "list" kA e) (B2 _ (.head _));rw[z,pk.1]at ho;cases ho;exact pk.2.2.2.2 v hd
 unfold PyProof.Rows.ksk_tree;refine A4 (listItems_at ho rfl ?_);refine A4 (Z6 ho rfl ?_ (by rw[C7,F0];lia) (K8 _));refine A4 (seqEpoch_at ho1 rfl ?_);refine A4 (wpAny_newTuple ?_ (by show vs.length<=_;rw[F0];lia));refine A4 (wpAny_newList ?_ (K8 _));refine N9 ?_;show wpAny _ A (PyProof.Rows.ksk_rest a (.ref f) false vs.toArray e1 (.ref ((s.heap.update a (Obj.mapSeq λ_=>(#[]:Array Value))).push (seqObj "tuple" vs.toArray 0)).objs.size)) P E _;rw[hq];refine XM J ?_ pY (λi v kA s' ev hJ=> ?_) (λi kA s' hJ=> ?_) λkA s' hJ=> ?_
 ·refine⟨H,0,[],aA.refl _,bc I2 ?_ (A5 _ (A5 _ ho1)) Nu AR,rfl,.nil,rfl,λp hp=>nomatch hp⟩;rw[<-hq];exact C5 _ rfl
 ·obtain⟨H1,e,qs,sm,J1,Nh,tp,tk,tb⟩:=hJ;have hi:i < vs.length:=(B4.mp ev).1;have Nv:i < xs.length:=by rw[hv.length];exact hi
  obtain⟨u,eu,ru⟩:=hv.get (B6 Nv);rw[ev]at eu;cases eu;have hid:i < ds.length:=by rw[ur];exact hi
  have Nw:i < kz.length:=by rw[zk];exact hi
  obtain⟨w,ew,en⟩:=hkz i _ _ (B6 hid) (B6 Nw);obtain⟨w',x1,x2,ew',yM,h62,ek⟩:=Wl ew en;refine D6 (Wm (Q:=λv' H2=>aA H1 H2/\∃t,v'=.ref t/\cU X.K H2 t [.int x1,.int x2]) J1 (pf' kA e) (hc.mono sm) nm hk AQ oY bt (aq _) hA hr (g.trans sm) h0 ru (hx i _ _ (B6 Nv) (B6 hid) G) (zj _ _ _ _ hr) ew' (WP.intro λv' G' H' st r=> ?_)) (λz s2 hz=> ?_) λ_ _ z=>z
  ·rw[yM]at r;cases r with
   |tup OV rl=>
    cases rl with
    |cons r1 rl=>
     cases rl with
     |cons r2 rl=>
      cases rl;cases r1;cases r2;exact⟨st.hh,_,rfl,aA.tupS st.gh OV⟩
  ·obtain⟨v',H2,J2,rz,sd,t,rfl,OV⟩:=hz;obtain rfl:z=Value.ref t:=rz;have pk:=J2.pin (kS,seqObj "list" kA e) (B2 _ (.head _));have pa:=J2.pin (a,seqObj "list" #[] e1) (B2 _ (.tail _ (.head _)));refine⟨e,pk.1,Nh, ?_⟩;have J3:Inv X zd σ H2 s2:=J2.bX λp hp=>J2.pin p (B2 _ (.tail _ (.tail _ hp)));have sb:=Q8 s2.heap kS (Obj.mapSeq (·.push (.ref t)));have J4:Inv X zd σ H2 {s2 with heap:=s2.heap.update kS (Obj.mapSeq (·.push (.ref t)))}:=J3.turned (t':=s2.toks) (λb o hb e=>(sb.2 b hb).trans e) pk.2.1 Pf (.inr z1) (cl' J2) npk;refine⟨H2,_,qs ++ [(x1,x2)],sm.trans sd,bc J4 (get?_update_seq pk.1 (·.push (.ref t))) ((sb.2 a sL.symm).trans pa.1) pk.2.1 pa.2.1,by rw[Array.size_push,Nh], ?_, ?_,λp hp=> ?_⟩
   ·rw[Array.toList_push];exact Paired.snoc (TupAt.mono sd tp) ⟨t,rfl,OV⟩
   ·rw[E7,tk,Z3,B6 Nw,ek];rfl
   ·rcases F9.mp hp with hp|hp
    ·exact tb p hp
    ·rw[J9.mp hp];exact h62
 ·obtain⟨H1,e,qs,sm,J1,_⟩:=hJ;exact⟨e,(J1.pin (kS,seqObj "list" kA e) (B2 _ (.head _))).1⟩
 ·obtain⟨H1,e,qs,sm,J1,Nh,tp,tk,tb⟩:=hJ;have pk:=J1.pin (kS,seqObj "list" kA e) (B2 _ (.head _));have pa:=J1.pin (a,seqObj "list" #[] e1) (B2 _ (.tail _ (.head _)));have tk:qs.map Ei=kz:=by rw[tk];exact List.take_of_length_le ()
  have J3:Inv X zd σ H1 s':=J1.bX λp hp=>J1.pin p (B2 _ (.tail _ (.tail _ hp)));rw[show kA=kA.toList.toArray by simp];refine XN (ks:=kA.toList) (ps:=qs) (e:=e) (by simpa using pk.1) pa.1 sL (by rw[M4,Nh]) pY (TupAt.pair J1 tp) tb (by rw[tk];exact nd) λp gp as=> ?_;rw[tk]at as;have sb:=Q8 s'.heap kS (Obj.mapSeq λ_=>(#[]:Array Value));have J4:Inv X zd σ H1 {s' with heap:=s'.heap.update kS (Obj.mapSeq λ_=>(#[]:Array Value))}:=J3.turned (t':=s'.toks) (λb o hb e=>(sb.2 b hb).trans e) pk.2.1 Pf (.inr z1) (cl' J1) npk;have na:(s'.heap.update kS (Obj.mapSeq λ_=>(#[]:Array Value))).get? a=some (seqObj "list" #[] e1):=(sb.2 a sL.symm).trans pa.1;have lt:∀i∈p.toList,i < vs.length:=λi hi=>K7.mp (gp.perm.mem_iff.mp hi);have xl:xs.length=vs.length:=hv.length;have Nj:Vals (p.toList.map λi=>xs.getD i V.aJ) (p.toList.map λi=>vs.getD i Value.none):=by
   have all:∀l:List Nat,(∀i∈l,i < vs.length)->Vals (l.map λi=>xs.getD i V.aJ) (l.map λi=>vs.getD i Value.none):=by
    intro l
    induction l with
    |nil=>intro _;exact .nil
    |cons i l ih=>
     intro hl;have hi:=hl i (.head _);refine .cons ?_ (ih λj hj=>hl j (.tail _ hj));obtain⟨u,eu,ru⟩:=hv.get (B6 (show i < xs.length by lia));show RelV (xs.getD i V.aJ) (vs.getD i Value.none);rw[E4,E4,B6 (show i < xs.length by lia),eu];exact ru
   exact all _ lt
  have bH:p.toList.length=vs.length:=by rw[M4,gp.size]
  refine h _ H1 (p.toList.map λi=>(kz.getD i 0,vs.getD i Value.none)) (p.toList.map λi=>xs.getD i V.aJ) sm pa.2.1 ?_ ?_ ?_ (by rw[A3];exact bH)
   (Inv.Mw (s:={s' with heap:=s'.heap.update kS (Obj.mapSeq λ_=>(#[]:Array Value))}) (tk:=s'.toks) J4 (Q8 _ _ _) (get?_update_seq na λ_=>List.toArray (p.toList.map λi=>vs.getD i Value.none)) Nj (by rw[A3,bH,F0];lia) pa.2.1 Ny yE Nz sP)
  ·refine(gp.perm.map _).trans (Qp ?_);refine List.ext_getElem (by rw[A3,K4,List.length_zip,zk,Nat.min_self]) λi h1 h2=> ?_;rw[A3,K4]at h1;rw[Qx,List.getElem_range,List.getElem_zip];have q1:kz.getD i 0=kz[i]' ():=by rw[E4,B6 ()];rfl
   have q2:vs.getD i Value.none=vs[i]:=by rw[E4,B6 h1];rfl
   rw[q1,q2]
  ·refine P6.mpr λi j hi hj mJ=> ?_;rw[A3]at hi hj;rw[Qx,Qx];have:=as i j mJ ();have gi:∀k (hk:k < p.toList.length),p.getD k 0=p.toList[k]:=λk hk=>by
    have hk':k < p.size:=by rw[<-M4];exact hk
    simp[Array.getD,hk']
   unfold kp at this;rw[gi i hi,gi j hj]at this;exact Int.le_of_lt this
  ·rw[D7];exact Nj
end
section
variable{X:Cx}{EX:Bi}{pos:Pos}
def XJ{zd:AE}{σ:Sg}{G H:Hp}{s:Shared}{Q:VK}{a f c Pt:Addr}{k':Nat}{cl:List (Str×Addr)}{pm eA:Value}{params:Arguments}{body:Expr}{scope:Scope}{x:Str}{fb:FE}{δ:DE}{kvs:List (Ap×V)}{aW:List (Ap×D)}(hc:X.calm=true)
  (I:Inv X ((f,kla_obj "<lambda>" Dd params body scope cl pm c eA)::zd) σ H s) (g:aA G H) (h0:aR X.K G σ δ) (rd:Rd G a (.dK kvs)) (hk:kvs.map (·.1)=aW.map (·.1))
  (hlc:jF H Pt c) (nm:rK X scope cl) (hsk:scope.kind=.function) (AQ:scope.isCoroutine=false) (oY:scope.isGenerator=false) (bt:scope.names.lookup x=some .local)
  (aq:∀u,bindArgs (kla_fn "<lambda>" Dd params body scope cl pm (.ref c) eA) ⟨[u],[]⟩=pure [(x,u)]) (zj:∀A s H zd,aE true 1 A->ED (kT X A scope f c cl x s H zd) Ej body fb)
  (hr:aE true k' X.A) (yz:2<=k') (o:Out X.K EX0 G H (kU (Ez fb δ) (aW.map λp=>kD p.1)) Q):
  wpAny (model X.prog X.w) X.A (call (.builtin "sorted") [.ref a] [(Str.ofString "key",.ref f)]) (EP X zd σ Q) X.xe s:=by
 unfold kU at o;cases eK:eR (Ez fb δ) (aW.map λp=>kD p.1) with
 |ex x=>rw[eK]at o;exact False.elim o
 |no=>rw[eK]at o;exact False.elim o
 |ok pI=>
  rw[eK]at o;simp only at o
  split at o
  ·rename_i ot;obtain⟨pY,nd⟩:=ot;have pK:=JB eK;have Pe:aW.length=kvs.length:=by
    have:=L8 List.length hk;rw[A3,A3]at this;exact this.symm
   have bH:pI.length=kvs.length:=by
    rw[<-S4 pK,A3];exact Pe
   have ekd:(aW.map λp=>kD p.1)=(kvs.map (·.1)).map kD:=by rw[hk,D7];rfl
   obtain⟨z,lo,ws,kv,dd⟩:=gN I.aN (aA.pH g rd);obtain⟨ep,da⟩:=dd.dictAt;refine call_function_entry_kw kind_sorted plain_sorted entry_sorted (ksk_s1 _ _) ?_;unfold Builtin.«sorted»;refine A4 (m:=checkCount "sorted" 1 1 _) (D0 ?_);refine A4 (PySem.W.iD (A:=X.A.in1) (kdl_dict lo) (I.ok.hd hc) da (by rw[<-kv.length];exact z) λh1 MR zn kk le it=> ?_);have fO:Vals ((kvs.map (·.1)).map kV) zn.toList:=wW kv (by rw[M4];exact it.1) λj v e=>it.2 j v (by rw[<-S5];exact e);have sQ:zn.toList.length=kvs.length:=by rw[<-fO.length,A3,A3]
   refine A4 (wpAny_newList ?_ (by rw[sQ];exact z));have new:(h1.push (seqObj "list" zn.toList.toArray 0)).get? h1.objs.size=some (seqObj "list" zn.toList.toArray 0):=C5 _ rfl;have I0:Inv X ((f,kla_obj "<lambda>" Dd params body scope cl pm c eA)::zd) σ H {s with heap:=h1,toks:=MR}:=I.kept (t':=MR) kk;have I1:Inv X ((f,kla_obj "<lambda>" Dd params body scope cl pm c eA)::zd) σ H {s with heap:=h1.push (seqObj "list" zn.toList.toArray 0),toks:=MR}:=I0.kept (t':=MR) λb u e=>A5 _ e;have fr:H h1.objs.size=none:=I.aN.fresh le;refine A4 (N9 (wpAny_call_entry_kw slot_list_sort ⟨_,new,rfl⟩ entry_list_sort ?body (ksk_l1 _ _)))
   case body=>
    show wpAny (model X.prog X.w) X.A.in1.in1 (Builtin.«list.sort» ⟨[.ref h1.objs.size],[(Str.ofString "key",.ref f)]⟩) _ _ _;rw[ksk_t1];have hr':aE true 1 X.A.in1.in1:=⟨hr.hd,by have:=hr.dp;show X.A.depth + 3 * 1 + 5 < _;lia,by have:=hr.un;show X.A.units + 1 + 1 + 16 * 1 + 200 < _;lia⟩;refine YX (kz:=pI.map (·.1)) (ds:=aW.map λp=>kD p.1) (fb:=fb) (δ:=δ) (G:=G) I1 new fr (D4 I.sz le) (λz=> ?_) (λx c e z=> ?_) (λp hp z=> ?_) (I0.qq (A9 _)) fO (λi v d e1 e2 G'=> ?_) (by rw[A3,sQ];exact Pe) (λi d kx e1 e2=> ?_) (by rw[A3,sQ];exact bH) (by rw[sQ,<-bH];exact pY) nd
     (B2 _ (.head _)) hlc nm hsk AQ oY bt aq rfl hr' g h0 zj λs' H' ps us sm na pm srt hu hul J=> ?_
    ·have:=I0.lt;rw[<-z]at this;exact absurd this (F1 _)
    ·obtain⟨v,hv⟩:=I0.cell x c e;have:=hv.lt;rw[z]at this;exact absurd this (F1 _)
    ·have:=A8 (I0.pin p hp).1;rw[z]at this;exact absurd this (F1 _)
    ·rw[ekd,B3]at e2;rw[B3]at e1;cases ek:(kvs.map (·.1))[i]? with
     |none=>rw[ek]at e1;cases e1
     |some k0=>rw[ek]at e1 e2;cases e1;cases e2;exact vt k0
    ·rw[B3]at e2;cases PQ:pI[i]? with
     |none=>rw[PQ]at e2;cases e2
     |some p=>
      rw[PQ]at e2;cases e2;exact(Paired.getL pK e1 PQ).2
    ·have J':Inv X zd σ (upd H' h1.objs.size (.lst us)) s':=J.bX λp hp=>J.pin p (B2 _ (.tail _ hp));refine⟨_,rfl,D0 ⟨_,rfl,.ref h1.objs.size,_,J',rfl, ?_⟩⟩;rw[ekd]at pK;have pr:=xB (R:=RelK) (λp q r=>r.1) (CK fO pK) pm (xp pI) nd srt (xI pI);refine(show WP X.K G H (.ow (.lst ((Ha pI).map (·.2)))) Q from o) (.ref h1.objs.size) (λb=>b=h1.objs.size) G _ ⟨λb u e=> ?_,λb u e=> ?_,aA.refl _,λ_ n _=>n⟩ (λb e=> ?_) (Ow.list Ce rfl (CQ pr hu))
     ·rw[Be (En e fr)];exact sm b u e
     ·rw[Be (En (g b u e) fr)];exact sm b u (g b u e)
     ·subst e;exact⟨fr,g.free fr,by rw[Ce];simp⟩
  ·exact False.elim o
structure MF(X:Cx)(params:Arguments)(body:Expr)(scope:Scope)(x:Str)(fb:FE):Prop where
 Wt:defaultsOf params X.env=([],[])
 qual:X.env.qual ++ "<lambda>" =Dd
 kind:scope.kind=.function
 co:scope.isCoroutine=false
 gen:scope.isGenerator=false
 par:scope.names.lookup x=some .local
 names:Gu scope.names X.env.scope.names X.N (X.N ++ [x])=true
 bind:∀cl pm cd eA u,bindArgs (kla_fn "<lambda>" Dd params body scope cl pm cd eA) ⟨[u],[]⟩=pure [(x,u)]
 body:∀A f c s H zd,(A.deeper (envX Dd scope s.heap.objs.size f (.ref c) (Dw X.env.cells scope.names []))).units + 64 < cLine->ED (kT X A scope f c (Dw X.env.cells scope.names []) x s H zd) Ej body fb
def Wk{o:Expr}{f fb:FE}{x:Str}{k':Nat}{c P:Addr}{params:Arguments}{body:Expr}{scope:Scope}{p p2 p3:Pos}(hc:X.calm=true)(hr:aE true k' X.A)(hm:X.mg "sorted" =none)(ht:tabIn X.K "numbers_by_bucket" =some (c,P))(bT:codeHdIn X.K c P=true)(he:ED X EX o f)(L:MF X params body scope x fb)(aj:X.env.code=.ref c:=by rfl)(hk:2<=k':=by decide)(hg:Gl X "sorted" :=by rfl)
  (ma:starEach [o] X.env=(false,eval o X.env)::starEach [] X.env:=by rfl) (hb1:backTo pos (starEach [o] X.env)=(false,eval o X.env)::backTo pos (starEach [] X.env):=by rfl) (bH:(backTo pos (starEach [o] X.env)).any (·.1)=false:=by rfl)
  (cg:(backToKw pos (keywordEach [⟨some "key",.Lambda params body scope p2,p3⟩] X.env)).all (·.1.isSome)=true:=by rfl) (hkw:(backToKw pos (keywordEach [⟨some "key",.Lambda params body scope p2,p3⟩] X.env)).any (·.1.isNone)=false:=by rfl)
  (jX:(backToKw pos (keywordEach [⟨some "key",.Lambda params body scope p2,p3⟩] X.env)).filterMap (·.1)= [Str.ofString "key"]:=by rfl):
  ED X EX (.Call (.Name "sorted" p) [o] [⟨some "key",.Lambda params body scope p2,p3⟩] pos) (gR fb f):=by
 intro zd s σ H Q I q;obtain⟨G,δ,g0,s0,q⟩:=q;have ta:vk (tD X.K EX f) qk σ H λvs H1=>∃(G1:Hp) (a:Addr) (kvs:List (Ap×V)) (aW:List (Ap×D)),vs= [.ref a]/\aA G1 H1/\aR X.K G1 σ δ/\Rd G1 a (.dK kvs)/\kvs.map (·.1)=aW.map (·.1)/\Out X.K (EX σ) G1 H1 (kU (Ez fb δ) (aW.map λp=>kD p.1)) Q:=by
  refine tD.seq g0 s0 q λw v G1 H1 _ st r o'=> ?_;revert o' r;cases w.d with
  |aD aW=>
   intro r o';cases r with
   |aD hr hk rr=>exact⟨G1,_,_,aW,rfl,st.gh,s0.mono st.gg,hr,hk,o'⟩
  |_=>intro _ o';exact False.elim o'
 refine N8 (lS I hg hm Q7 (callWith_kw (Bg ((lV he mn ma) pos zd s σ H _ I ta) λus s1 ⟨vs,H1,I1,r1,G1,a,kvs,aW,ev,g1,iI,rd,yz,o'⟩=> ?_) hb1 bH cg hkw));subst ev;obtain⟨u,rfl,ru⟩:=r1.one;cases ru;have nm:=Ur I1.ok L.names;refine kws_cons (Wn I1 ht bT aj L.qual L.Wt nm.gF λfa c' pm eA H2 s2 sm lc I2=>kws_nil ?_);rw[jX];refine XJ hc I2 (g1.trans sm) iI rd yz lc nm L.kind L.co L.gen L.par (L.bind _ _ _ _) (λA s H zd hr1=>L.body A fa c' s H zd (aE.units (aE.deeper hr1 _))) hr hk ?_;have st:Step G1 H1 G1 H2:=⟨sm,g1.trans sm,aA.refl _,λ_ n _=>n⟩;unfold kU at o'⊢;cases eK:eR (Ez fb δ) (aW.map λp=>kD p.1) with
 |ok pI=>
  rw[eK]at o';simp only at o'⊢
  split at o'
  ·rename_i ot;rw[if_pos ot];exact WP.mono (w:=.ow (.lst ((Ha pI).map (·.2)))) (Q:=Q) st (show WP X.K G1 H1 (.ow (.lst ((Ha pI).map (·.2)))) Q from o')
  ·exact False.elim o'
 |ex x=>rw[eK]at o';exact False.elim o'
 |no=>rw[eK]at o';exact False.elim o'
end
abbrev abl(c:Bool)(P:Program)(w:World)(K:Frag)(mg:AB)(base:Heap)(N:List Str)(qual:Str)(st:Stmt)(f:Addr)(k:Nat)(g:FS)(cd:Addr):Prop:=∀{A:Around} {outer:List Env} {s:Shared} {H:Hp} {E:XK},(Fx c P w K mg base N qual (Cr st) f (.ref cd) A outer s H E).calm=c->aE c k (Cx.A (Fx c P w K mg base N qual (Cr st) f (.ref cd) A outer s H E))->(Cx.A (Fx c P w K mg base N qual (Cr st) f (.ref cd) A outer s H E)).units + 64 < cLine->N.Nodup->Lk (Fx c P w K mg base N qual (Cr st) f (.ref cd) A outer s H E) (λ_=>bQ K E)->
   BD (Fx c P w K mg base N qual (Cr st) f (.ref cd) A outer s H E) (λ_=>bQ K E) (Gk st) g
def Rx{c:Bool}{P:Program}{w:World}{x qual:Str}{st:Stmt}{f cd:Addr}{N ps:List Str}{k:Nat}{g:FS}(F:bI K x qual st f fd)(aj:fd.code=.ref cd)
  (zj:abl c P w K mg base N qual st f k g cd) (S:bA N ps (Cr st):=by exact⟨rfl,rfl,rfl,by decide +kernel,rfl,by decide +kernel,by decide +kernel⟩):bO P w K mg base c (k + 1) f fd ps (Br K ps.length (Al N.length g)):=by
 obtain⟨oc,od,kV,doc,pm,an,zp,ct,oO,rfl,lk,bT⟩:=F.ex;cases aj;refine EI lk bT S (λvs H Q E h=>h.1) λA outer s H vs Q E hr h=>⟨_,zj rfl hr (aE.units hr) S.nd vx, ?_⟩;obtain⟨hl,G,ds,g0,r,o⟩:=h;refine⟨⟨H,λ_=>0⟩,G,G,_,_,IU g0 r, ?_⟩;unfold Al at o;cases e:g (Av N.length ds) with
 |nx Δ=>rw[e]at o;exact λ σ G' H' O E' _=>(WP.mono (w:=.sh .aJ) (Q:=Q) E'.st o).use E'.st.gh .aJ
 |rt w=>rw[e]at o;exact o
 |rv d Δ=>rw[e]at o;exact o.elim
 |ex x Δ=>rw[e]at o;exact λ σ G' H' O E' _=>(bQ K E).mono _ _ _ _ _ E'.st o
 |bk Δ=>rw[e]at o;exact o.elim
 |ct Δ=>rw[e]at o;exact o.elim
 |no=>rw[e]at o;exact o
def Wj{x:Str}{st:Stmt}{f c P:Addr}(a:nsIn K mainGlobals x=some (some (.ref f)))(F:bI K x x st f fd)(ht:tabIn K x=some (c,P)):fd.code=.ref c:=by
 obtain⟨oc,od,kV,doc,pm,an,zp,ct,oO,rfl,lk,bT⟩:=F.ex;unfold tabIn at ht;rw[a]at ht;simp only[lk]at ht;cases zp with
 |ref c2=>
  simp only at ht
  split at ht
  ·split at ht
   ·cases ht;rfl
   ·cases ht
  ·cases ht
 |_=>cases ht
def Uq{P:Program}{w:World}{cc:Bool}{k:Nat}{ps:List Str}{Fn:AF}{st:Stmt}{x:Str}{h:Heap}{c Pt:Addr}(X:K.In h)(G:h.Ns mainGlobals mg)(W:aM K x st)(ht:tabIn K x=some (c,Pt))(ok:∀{f:Addr} {fd:FuncData},bI K x x st f fd->fd.code=.ref c->bO P w K mg base cc k f fd ps (Br K ps.length Fn)/\Binds K fd ps []):uQ P w K mg base cc x k ps Fn:=by
 obtain⟨f,a,fd,F⟩:=W;have hc:=Wj a F ht;exact lA F (mg_of X G a) (ok F hc).2 (ok F hc).1
def DX{x q:Str}{f c P:Addr}{oT zD:Value}{zC zB BP:Option Addr}{tV sd:Array (Option Value)}{BO:Arguments}{BM:List Stmt}{yW:Scope}{zL BI zr BJ:Value}{rV:Array Value}(a:nsIn K mainGlobals x=some (some (.ref f)))
  (l:K.lookup f=some ⟨oT,zC,.func (fnOf q q BO BM yW .none zL BI zr BP (.ref c) BJ),tV⟩) (lc:K.lookup c=some ⟨zD,zB,.fields rV,sd⟩) (e:rV[11]? =some (.ref P)):tabIn K x=some (c,P):=by
 unfold tabIn;rw[a];simp only[l,lc,e]
def Wi{h:Heap}{c P:Addr}(X:K.In h)(ht:tabIn K "numbers_by_bucket" =some (c,P))(bT:codeHdIn K c P=true)(hl:(K.lookup P).isNone=true)(hT:h.get? P=some (tabObj #[])):∀c P,tabIn K "numbers_by_bucket" =some (c,P)->isCodeTable h P/\h.get? P=some {cls:=.none,data:=.fields #[]}/\K.lookup P=none:=λc' P' e=>by
 rw[ht]at e;cases e;exact⟨((codeHd_of_K X bT).tab hT).isCodeTable,hT,Option.isNone_iff_eq_none.mp hl⟩
def Wh{h:Heap}{f c P:Addr}{oT zD:Value}{zC zB BP:Option Addr}{tV sd:Array (Option Value)}{BO:Arguments}{BM:List Stmt}{yW:Scope}{zL BI zr BJ:Value}{rV:Array Value}(X:K.In h)(a:nsIn K mainGlobals "numbers_by_bucket" =some (some (.ref f)))
  (l:K.lookup f=some ⟨oT,zC,.func (fnOf "numbers_by_bucket" "numbers_by_bucket" BO BM yW .none zL BI zr BP (.ref c) BJ),tV⟩) (lc:K.lookup c=some ⟨zD,zB,.fields rV,sd⟩) (e:rV[11]? =some (.ref P)) (bT:codeHdIn K c P=true) (hl:(K.lookup P).isNone=true) (hT:h.get? P=some (tabObj #[])):
  ∀c P,tabIn K "numbers_by_bucket" =some (c,P)->isCodeTable h P/\h.get? P=some {cls:=.none,data:=.fields #[]}/\K.lookup P=none:=Wi X (DX a l lc e) bT hl hT
end L3
namespace PySem
namespace F
def bK:Slot "range" "__reversed__" "range.__reversed__" :=Slot.of (owner:= "range") (n:= "__reversed__") (by simp only[typeLookup_type,builtinLookup_eq_fast];rfl') nofun nofun nofun (by first|exact .inl nofun|exact .inr nofun) (by simp only[isSubtype_type];rfl')
def dM:entryFor table "range.__reversed__" =some Builtin.«range.__reversed__»:=entryFor_of_tree ∅
def dN(a:Value):argsOk "range.__reversed__" ⟨[a],[]⟩:=by
 rw[argsOk,signature?_of (id:= "range.__reversed__") (n:= "__reversed__".toList.reverse) (o:= "range".toList.reverse) ∅ owner_range];rfl'
def fD:isSubtype (.type "range_iterator") (.type "reversed")=pure false:=by rw[isSubtype_type];rfl'
end F
section
variable{prog:Program}{w:World}{A:Around}{E:AA}{s:Shared}{r:Addr}{j:Int}{t u v:Tok}
noncomputable abbrev CN(j:Int)(t u v:Tok):Obj:={cls:=.type "range",data:=.fields #[.int 0 t,.int j u,.int 1 v]}
noncomputable abbrev qw(n:Nat):Obj:={cls:=.type "range_iterator",dict:=none,data:=.fields #[rawInt ((n:Int) - 1),rawInt n,rawInt (-1)],slots:= #[]}
def aaK{Q:AA}(hr:s.heap.get? r=some (CN j t u v))(h1: -(2 ^ 62)<=j)(h2:j < 2 ^ 62)(h:Q (.ref s.heap.objs.size) {s with heap:=s.heap.push (qw j.toNat)}):
  wpAny (model prog w) A (call (.builtin "range.__reversed__") [.ref r]) Q E s:=by
 refine wpAny_call_entry F.bK ⟨_,hr,rfl⟩ F.dM ?_ (F.dN _);have hz:Builtin.Range.rangeSize 0 j 1=(j.toNat:Int):=by
  unfold Builtin.Range.rangeSize;rw[if_pos ⋯]
  split <;> lia
 unfold Builtin.«range.__reversed__»;refine A4 (Q3 (a:=Value.ref r) rfl ?_);unfold Builtin.Range.rangeFields;refine A4 ?_;refine A4 (U7 hr rfl rfl ?_);refine A4 (Q3 (a:=some (0:Int)) rfl ?_);refine A4 (U7 hr rfl rfl ?_);refine A4 (Q3 (a:=some j) rfl ?_);refine A4 (U7 hr rfl rfl ?_);refine A4 (Q3 (a:=some (1:Int)) rfl ?_);refine D0 ?_;dsimp only;rw[hz];have sm:(Builtin.Range.rangeFitsLong 0 && Builtin.Range.rangeFitsLong j && Builtin.Range.rangeFitsLong 1 && Builtin.Range.rangeFitsLong (-1) && Builtin.Range.rangeFitsLong (0 - 1) && Builtin.Range.rangeFitsLong (j.toNat:Int))=true:=by
  simp only[Builtin.Range.rangeFitsLong,C9,V6];lia
 rw[sm];simp only[Bool.not_true,C8,F3,if_true];have e:(0:Int) + ((j.toNat:Int) - 1) * 1=(j.toNat:Int) - 1:=by lia
 rw[e];exact A4 (S7 (D0 ⟨_,rfl,h⟩))
def abb{Q:AA}(hr:s.heap.get? r=some (CN j t u v))(h1: -(2 ^ 62)<=j)(h2:j < 2 ^ 62)(h:Q (.ref s.heap.objs.size) {s with heap:=s.heap.push (qw j.toNat)}):
  wpAny (model prog w) A (call (.type "reversed") [.ref r]) Q E s:=by
 refine callType_other (U:= "range_iterator") (Q₁:=λobj s₁=>obj=.ref s.heap.objs.size/\s₁={s with heap:=s.heap.push (qw j.toNat)}) nofun F.create_reversed ⟨_,_,F.mro_reversed⟩ F.made_reversed F.fD (F.typeCall_reversed_1 _) ?_ ?_
 ·refine Qt ?_;show wpAny _ A.in1.in1 (do checkBuiltinCall "reversed.__new__" ⟨[.type "reversed",.ref r],[]⟩;again (.builtin "reversed.__new__" ⟨[.type "reversed",.ref r],[]⟩)) _ _ s;refine A4 (Q3 (F.newCall_reversed_1 _) (D0 ⟨plainId_quiet F.plain_reversed_new _,Qr F.entry_reversed_new ?_⟩));rw[X5 F.plain_reversed_new _];have T:s.TypeIs (.ref r) "range" :=⟨_,hr,rfl⟩;have n1:=F.bK.lookup;have n4:=newClass_reversed (.ref r);unfold Builtin.«reversed.__new__»;refine A4 (Q3 n4 ?_)
  try dsimp only
  refine A4 (Q3 (a:=.unit) (by first|rfl|rfl') ?_);refine A4 (Q3 (a:=.unit) (by first|rfl|rfl') ?_)
  try dsimp only
  refine A4 (wpAny_specialOf T n1 ?_)
  try dsimp only
  refine A4 (Q3 (F.bK.bind _) ?_)
  try dsimp only
  have ne:¬((Value.builtin "range.__reversed__" ==Value.none)=true):=A6
  first
   |rw[if_neg ne]
   |(show wpAny _ _ (if(Value.builtin "range.__reversed__" ==Value.none)=true then _ else _) _ _ _;rw[if_neg ne])
  refine A4 (wpAny_rule ?_);refine A4 (m:=runValue (.call (.builtin "range.__reversed__") ⟨[.ref r],[]⟩)) (show wpAny _ _ (call (.builtin "range.__reversed__") [.ref r]) _ _ _ from aaK hr h1 h2 ?_)
  first
   |exact D0 ⟨rfl,rfl⟩
   |exact A4 (D0 (D0 ⟨rfl,rfl⟩))
 ·rintro obj s₁ ⟨rfl,rfl⟩
  exact⟨⟨_,C5 _ rfl,rfl⟩,h⟩
end
end PySem
namespace L3
open PySem PySem.Spec PyProof.Rows L2
variable{K:Frag}{fd:FuncData}{mg:AB}{us:List Value}{base:Heap}{H:Hp}{X:Cx}{pos:Pos}
section
variable{X:Cx}{EX:Bi}{tg a:Expr}{fa:FA}{p p2 pos aw:Pos}
def tRg(t:TA):TE:=λ σ H Q=>t σ H λvs H1=>∃j:Int,vs= [.int j]/\∀r,H1 r=none->Q (.ref r) (upd H1 r (.yo 0 j))
def Rf(t:TA):TI:=λ σ H Q=>vk (tRg t) qk σ H λvs H2=>∃(r:Addr) (j:Int),vs= [.ref r]/\H2 r=some (.yo 0 j)/\ -(2 ^ 62)<=j/\j < 2 ^ 62/\Q (Mu ((j.toNat:Int) - 1) (-1) j.toNat) H2
def Rw{ta:TA}(hg:Gl X "range")(hm:X.mg "range" =none)(ha:PA X [a] ta)(hs:starEach [a] X.env= [(false,eval a X.env)]:=by rfl):PE X (.Call (.Name "range" p2) [a] [] aw) (tRg ta):=by
 intro zd s σ H Q I h;refine Call_ (lS I hg hm boot_range (K0 (Bg (ha aw zd s σ H _ I h) λus s1 ⟨vs,H1,I1,r1,q1⟩=> ?_) hs rfl));obtain⟨j,rfl,q⟩:=q1;obtain⟨u,rfl,t,rfl⟩:=r1.one;refine Ql ?_;exact⟨.ref s1.heap.objs.size,_,I1.laid (o:=.yo 0 j) (t':=s1.toks + 1 + 1) (λb o e=>A5 _ e) (A9 _) ⟨_,_,_,C5 _ rfl⟩,rfl,q _ (I1.aN.fresh (A9 _))⟩
def Up{ta:TA}(hg:Gl X "reversed")(hm:X.mg "reversed" =none)(Pk:Gl X "range")(Pc:X.mg "range" =none)(ha:PA X [a] ta)(hs:starEach [a] X.env= [(false,eval a X.env)]:=by rfl)
  (ma:starEach [.Call (.Name "range" p2) [a] [] aw] X.env=(false,eval (.Call (.Name "range" p2) [a] [] aw) X.env)::starEach [] X.env:=by rfl) (dZ:starEach [.Call (.Name "range" p2) [a] [] aw] X.env= [(false,eval (.Call (.Name "range" p2) [a] [] aw) X.env)]:=by rfl):
  PI X tg (.Call (.Name "reversed" p) [.Call (.Name "range" p2) [a] [] aw] [] pos) (Rf ta):=by
 intro zd s σ H Q I h;refine Call_ (lS I hg hm PyProof.Rows.boot_reversed (K0 (Bg ((lV (Rw Pk Pc ha hs) mn ma) pos zd s σ H _ I h) λus s1 ⟨vs,H1,I1,r1,q1⟩=> ?_) dZ rfl));obtain⟨r,j,rfl,hr,h1,h2,q⟩:=q1;obtain⟨u,rfl,ru⟩:=r1.one;cases ru;obtain⟨t,u,v,ho⟩:=I1.aN r _ hr;refine abb ho h1 h2 ?_;have st:IsRangeIter (s1.heap.push (qw j.toNat)) s1.heap.objs.size (((j.toNat:Int) - 1) + ((0:Nat):Int) * (-1)) ((j.toNat:Int) - ((0:Nat):Int)) (-1):=by
  have e1:((j.toNat:Int) - 1) + ((0:Nat):Int) * (-1)=(j.toNat:Int) - 1:=by simp
  have e2:(j.toNat:Int) - ((0:Nat):Int)=(j.toNat:Int):=by simp
  rw[e1,e2];exact C5 _ rfl
 refine(KW (P:=X.prog) (w:=X.w) (K:=X.K) (tg:=tg) s1.heap.objs.size ((j.toNat:Int) - 1) (-1) j.toNat).self X.A 0 _ _ _ st ?_;refine⟨s1.heap.objs.size,[s1.heap.objs.size],_,_,H1,rfl,I1.kept (t':=s1.toks) λb o e=>A5 _ e,KW _ _ _ _,st,λb hb=> ?_,q⟩;have e:b=s1.heap.objs.size:=by simpa using hb
 subst e;exact I1.eO (A9 _) (I1.aN.fresh (A9 _))
def gA:List D->R (List D)
 | [.int j]=>if j.natAbs < 4611686018427387904 then .ok (eV ((j.toNat:Int) - 1) (-1) j.toNat) else .no
 |_=> .no
def Uo(hm:X.mg "reversed" =none)(Pc:X.mg "range" =none)(ha:AD X EX [a] fa)(hg:Gl X "reversed" :=by rfl)(Pk:Gl X "range" :=by rfl)(hs:starEach [a] X.env= [(false,eval a X.env)]:=by rfl)
  (ma:starEach [.Call (.Name "range" p2) [a] [] aw] X.env=(false,eval (.Call (.Name "range" p2) [a] [] aw) X.env)::starEach [] X.env:=by rfl) (dZ:starEach [.Call (.Name "range" p2) [a] [] aw] X.env= [(false,eval (.Call (.Name "range" p2) [a] [] aw) X.env)]:=by rfl):
  ID X EX tg (.Call (.Name "reversed" p) [.Call (.Name "range" p2) [a] [] aw] [] pos) (Aw gA fa):=
 PI.imp (Up hg hm Pk Pc ha hs ma dZ) λ σ H Q ⟨G,δ,g0,s0,o⟩=>dY.CL g0 s0 o λds vs G' H' st r o'=>by
  cases r with
  |nil=>exact False.elim o'
  |cons h t=>
   cases t with
   |cons _ _=>cases h <;> exact False.elim o'
   |nil=>
    cases h with
    |int j=>
     by_cases hc:j.natAbs < 4611686018427387904
     ·rw[show gA [.int j]=.ok (eV ((j.toNat:Int) - 1) (-1) j.toNat) from if_pos hc]at o';refine⟨j,rfl,λr hr=>⟨r,j,rfl,Ce,by lia,by lia,o' _ G' _ (Step.own st.gh hr _) λG2 H2 _ g k=>⟨λd e=> ?_,λe=> ?_⟩⟩⟩
      ·obtain⟨hi,rfl⟩:=Km e;refine⟨hi,λx H' y=> ?_⟩;obtain⟨e1,e2⟩:=y;subst e1 e2;exact⟨G2,Step.refl g,.int _⟩
      ·rw[Kl]at e;exact O6 e
     ·rw[show gA [.int j]=.no from if_neg hc]at o';exact o'.elim
    |_=>exact False.elim o'
end
section
variable{X:Cx}{EX:Bi}{pos:Pos}
def YW{iter tg:Expr}{scope:Scope}{N':List Str}{fi:FI}{fg:Gw}{m:Nat}{lp:Pos}(eI:∀e s,¬X.xe e s){B:Cx->Prop}(hk:scope.kind=.function)(hb:Gu scope.names X.env.scope.names X.N N'=true)
  (hm:N'.length=X.N.length + m)
  (fL:∀C s0 H0 fp pn,GC (fQ X scope (Dw X.env.cells scope.names []) N' C s0 H0 fp pn) Ej tg fg)
  {zd:AE} {s:Shared} {σ:Sg} {δ:DE} (I:Inv X zd σ H s) {Z:Hp->Hp->Prop} (hZ:∀G2 H2,Z G2 H2->aA G2 H2/\aR X.K G2 σ δ) (hB:∀C s0 H0 fp pn,Inv X zd σ H0 s0->B (fQ X scope (Dw X.env.cells scope.names []) N' C s0 H0 fp pn))
  (hit:wpAny (model X.prog X.w) X.A (eval iter X.env) (λxv s₁=>wpAny (model X.prog X.w) X.A (pyIter xv) (λiX s₂=>∃(it:Addr) (fp:List Addr) (tn:Nat->Heap->Prop) (J:It) (H2:Hp) (ds:List D) (G2:Hp),iX=.ref it/\Inv X zd σ H2 s₂/\hU X.prog X.w X.K tg J fp it tn B/\tn 0 s₂.heap/\(∀b∈fp,Fw X zd H2 b)/\fi δ=.ok ds/\Z G2 H2/\jr X.K G2 J ds) X.xe s₁) X.xe s)
  {RR:Value->Addr->Result->Shared->Prop}
  (hds:∀ds,fi δ=.ok ds->ds.length<=16777216/\∀d∈ds,∃δ1,fg d (δ ++ List.replicate m none)=.ok δ1)
  (AX:∀(Da C:Addr) (s1:Shared) (G2 H2 G' H':Hp) (vs:List V) (S:AS) (ds:List D),fi δ=.ok ds->Inv X zd σ H' s1->(∃m,s1.heap.Ns C m)->Fw X zd H' C->Z G2 H2->Step G2 H2 G' H'->H2 Da=none->H' Da=some (.lst vs)->G' Da=none->aX X.K G' H' vs (List.replicate ds.length (.lst [])) S->(∀b,S b->H2 b=none/\G' b=none/\b≠Da/\H' b≠none)->RR (.ref Da) C (.ok .next) s1):
  wpAny (model X.prog X.w) X.A (eval iter X.env) (λx s₁=>wpAny (model X.prog X.w) X.A (pyIter x) (λit s₂=>wpAny (model X.prog X.w) X.A (newList []) (λzn s₃=>
   wpAny (model X.prog X.w) X.A (newFunctionEnv scope X.env.globals (Dw X.env.cells scope.names []) [] X.env.qual none .none (some X.env)) (λgG s₄=>
    codeAny (model X.prog X.w) X.A (.compStart (.ListComp (.List [] lp) [⟨tg,iter,[],0⟩] scope pos) 0 it zn {gG with scope:=relabel scope X.env}) (RR zn gG.locals) s₄) X.xe s₃) X.xe s₂) X.xe s₁) X.xe s:=by
 have n:=nU I.ok hk hb;generalize Rj:Dw X.env.cells scope.names []=cl at n fL hB⊢
 
 refine D6 hit (λxv s₁ h₁=>D6 h₁ (λiX s₂ h₂=> ?_) λ_ _ e=>(eI _ _ e).elim) λ_ _ e=>(eI _ _ e).elim;obtain⟨it,fp,tn,J,H2,ds,G2,rfl,I2,T,bC,f2,e2,um,ui⟩:=h₂;obtain⟨oM,h0⟩:=hZ G2 H2 um;obtain⟨hz,o⟩:=hds ds e2
 
 have mK:H2 s₂.heap.objs.size=none:=I2.aN.fresh (A9 _);refine S7 (X3 n.cell (by intro y hy;simp at hy) (λh₁ hns₁ hsb₁=> ?_) n.kind);dsimp only at hns₁ hsb₁⊢;generalize uw:s₂.heap.objs.size=Da at mK;have Pu: @Eq Nat s₂.heap.objs.size Da:=uw;have I3:Inv X zd σ (upd H2 Da (.lst [])) {s₂ with heap:=s₂.heap.push {cls:=.type "list",dict:=none,data:=.seq ([]:List Value).toArray}}:=by
  rw[<-uw];exact I2.qr (t':=s₂.toks) .nil (K8 _)
 generalize AY:s₂.heap.push {cls:=.type "list",dict:=none,data:=.seq ([]:List Value).toArray}=dO at hns₁ hsb₁ I3⊢;have hC:dO.objs.size=Da + 1:=by rw[<-AY,L9,uw]
 generalize BA:dO.objs.size=C at hns₁ hsb₁ hC;have AZ: @Eq Nat dO.objs.size C:=BA;have Pz: @Eq Nat C (Da + 1):=hC;have dv:∀b o,s₂.heap.get? b=some o->dO.get? b=some o:=λb o e=>by rw[<-AY];exact A5 _ e
 have up:∀b o,dO.get? b=some o->h₁.get? b=some o:=λb o e=>hsb₁.extBut b o (C4 (show @LT.lt Nat _ b C by rw[<-AZ];exact A8 e)) (A5 _ e)
 
 have uA:∀b∈fp,b < s₂.heap.objs.size:=λb hb=>by
  obtain⟨o,e,_⟩:=T.obj _ _ bC b hb;exact A8 e
 have md:∀x c,cl.lookup x=some c->c < dO.objs.size/\c∉fp/\(upd H2 Da (.lst [])) c=none:=λx c e=>by
  have e':=n.sub x c e;obtain⟨v,hv⟩:=I3.cell x c e';exact⟨hv.lt,λz=>(f2 c z).2.2.2.2.1 x c e' rfl,I3.bD x c e'⟩
 let X':=fQ X scope cl N' C {s₂ with heap:=dO} (upd H2 Da (.lst [])) fp (X.pn ++ zd)
 have zA:X'.Ok:=by
  refine⟨I.ok.mod,n.kind,I.ok.glob,I.ok.blt,O6 BA,λx y c h1 h2=>I.ok.inj x y c (n.sub x c h1) (n.sub y c h2),λx hx=>n.has x hx,λx c z=> ?_,I.ok.hd,I.ok.frames,.inl rfl,λb hb=>⟨?_,λx c e z=> ?_⟩,λb o e=> ?_, ?_,λb o e hb=> ?_,λb hb z=> ?_,I3.stack,I3.cP,I3.tab⟩
  ·exact absurd z A6
  ·exact C4 (C1 (uA b hb) (show @LE.le Nat _ s₂.heap.objs.size C by lia))
  ·subst z;exact(md x c e).2.1 hb
  ·exact I3.bs b o e
  ·exact D4 I.ok.fU I3.sz
  ·rcases(f2 b hb).2.2.2.1 with z|z
   ·exact I.ok.dQ b o e z
   ·exact absurd (A8 (I.ok.bs b o e).1) (Nat.not_lt_of_le z)
  ·rcases B8.mp (I3.bP b z) with z|z
   ·exact(f2 b hb).2.1 z
   ·exact(f2 b hb).2.2.1 z
 have lenσ:σ.length=X.N.length:=I.len;have I4:Inv X' [] (σ ++ List.replicate m none) (upd H2 Da (.lst [])) {s₂ with heap:=h₁,toks:=s₂.toks + ([]:List (Str×Value)).length}:=by
  refine⟨zA,rfl,I2.bare,Un.kept up,⟨_,hns₁,λi x v e1 e2 e3=> ?_⟩,λx c e=> ?_, ?_,λx c e=>(md x c e).2.2,λp hp=> ?_,I3.aN.kept up, ?_⟩
  ·have hi:i < σ.length:=by
    by_cases hh:i < σ.length
    ·exact hh
    ·rw[D2 (),F5]at e2
     split at e2 <;> cases e2
   rw[B7 hi]at e2;obtain⟨n1,n2,⟨c,n3⟩,n4⟩:=n.old i x e1 () e3;obtain⟨mm,jX,hl⟩:=I3.loc;obtain⟨u,r,l⟩:=hl i x v n1 e2 (.inr n2);refine⟨u,r,.inr ⟨n4,c,n3, ?_⟩⟩;have zF:=n.sub x c n3;rcases l with⟨k1,k2⟩|⟨k1,c',k2,k3⟩
   ·exfalso;have jU:X.env.scope.names.lookup x=some .local:=k1;rcases n2 with n2|n2
    ·rw[n2]at jU;cases jU
    ·rw[n2]at jU;cases jU
   ·rw[zF]at k2;cases k2;exact k3.keeps up
  ·obtain⟨v,hv⟩:=I3.cell x c (n.sub x c e);exact⟨v,hv.keeps up⟩
  ·show upd H2 Da (.lst []) C=none;exact I3.aN.fresh (by show dO.objs.size<=C;lia)
  ·have pQ:p∈X.pn ++ zd:=by
    have mI:p∈(X.pn ++ zd) ++ []:=hp
    rwa[D9]at mI
   obtain⟨z1,z2,z3,z4,z5⟩:=I3.pin p pQ;refine⟨up _ _ z1,z2, ?_,λz=> ?_,z5⟩
   ·exact C4 (show @LT.lt Nat _ p.1 C by rw[<-AZ];exact A8 z1)
   ·rcases B8.mp (I3.bP p.1 z) with z|z
    ·exact z3 z
    ·exact z4 z
  ·rw[A7,J6,lenσ];exact hm.symm
 have Pj:=fL C {s₂ with heap:=dO} (upd H2 Da (.lst [])) fp (X.pn ++ zd);have AW:aR X.K G2 (σ ++ List.replicate m none) (δ ++ List.replicate m none):=by
  refine⟨by rw[A7,A7,J6,J6,h0.len],λi d e=> ?_⟩
  by_cases hh:i < δ.length
  ·rw[B7 hh]at e;obtain⟨v,e1,r⟩:=h0.get i d e;exact⟨v,by rw[B7 (by rw[h0.len];exact hh)];exact e1,r⟩
  ·rw[D2 (),F5]at e
   split at e <;> cases e
 generalize hδ:δ ++ List.replicate m none=δ' at AW o;have tR:tn 0 h₁:=T.keep 0 _ _ bC λb hb o e=>up b o (dv b o e);have PF:∀b∈fp,(upd H2 Da (.lst [])) b=none:=λb hb=>by
  rw[Be (C4 (show @LT.lt Nat _ b Da by rw[<-Pu];exact uA b hb))];exact(f2 b hb).1
 have bj:∀{pl:AE} {H':Hp},pl= []->(∀b∈fp,H' b=none)->∀b∈fp,Fw X' pl H' b:=λ{pl H'} bH hn b hb=>by
  subst bH;refine⟨hn b hb, ?_,λz=> ?_,.inl hb,λx c e z=> ?_,λp hp z=> ?_⟩
  ·exact C4 (C1 (uA b hb) (show @LE.le Nat _ s₂.heap.objs.size C by lia))
  ·rcases B8.mp (I3.bP b z) with z|z
   ·exact(f2 b hb).2.1 z
   ·exact(f2 b hb).2.2.1 z
  ·subst z;exact(md x c e).2.1 hb
  ·have pQ:p∈X.pn ++ zd:=by
    have mI:p∈(X.pn ++ zd) ++ []:=hp
    rwa[D9]at mI
   exact(f2 b hb).2.2.2.2.2 p pQ z
 have loop:∀s4:Shared,Inv X' [] (σ ++ List.replicate m none) (upd H2 Da (.lst [])) s4->tn 0 s4.heap->codeAny (model X.prog X.w) X.A (.compLoop (.ListComp (.List [] lp) [⟨tg,iter,[],0⟩] scope pos) 0 (.ref it) (.ref Da) (compEnvC scope cl C X.env)) (RR (.ref Da) C) s4:=by
  intro s4 I4 Ov;refine Ko (λk s'=>∃i σ' H' G' vs S,k=ds.length - i/\i<=ds.length/\Inv X' [] σ' H' s'/\tn i s'.heap/\(∀b∈fp,H' b=none)/\aR X.K G' σ' δ'/\Step G2 H2 G' H'/\aA G2 G'/\H' Da=some (.lst vs)/\G' Da=none/\
   aX X.K G' H' vs (List.replicate i (.lst [])) S/\(∀b,S b->H2 b=none/\G' b=none/\b≠Da/\H' b≠none)) ?_ ds.length
   ⟨0,_,_,G2,[],λ_=>False,by simp,K8 _,I4,Ov,PF,AW,Step.own oM mK _,aA.refl _,Ce,oM.free mK,.nil,λ_ z=>z.elim⟩
  rintro k s' ⟨i,σ',H',G',vs,S,rfl,hi,I',yU,BG,hS,st,sg,hD,gD,rl,hl⟩
  obtain⟨i1,i2⟩:=ui G' H' sg st.gh i
  by_cases cR:i < ds.length
  ·obtain⟨d,e1,e2⟩:=lL cR;obtain⟨go,yl⟩:=i1 d e1;refine Bg (T.item X' rfl rfl rfl i [] s' σ' H' _ (hB _ _ _ _ _ I3) I' (bj rfl BG) yU go) λr s1 ⟨u,hr,h1⟩=> ?_;subst hr;refine Bg h1 λ_ s5 ⟨x,H5,I5,r5,y5,mr,BF⟩=> ?_;obtain⟨G5,ag,OQ⟩:=yl x H5 y5;have CG:=I5.pinned (bj rfl BF) (T.obj _ _ mr);obtain⟨δ1,ed1⟩:=o d (N0 e1);have Pp:aR X.K G5 σ' δ':=hS.mono ag.gg;refine D6 (Pj _ s5 σ' H5 x u (λ σ6 H6=>H6=H5/\aR X.K G5 σ6 δ1/\aR X.K G5 σ6 δ') CG r5 ⟨G5,δ',d,ag.gh,Pp,OQ, ?_⟩) (λ_ s6 ⟨σ6,H6,I6,eH,NB,uZ⟩=> ?_) λ_ _ z=>False.elim z
   ·rw[ed1];exact λ σ6 h6 PB=>⟨rfl,h6,PB⟩
   subst eH;refine wpAny_tests_nil ?_;rw[if_pos rfl]
   
   have ND:G5 Da=none:=ag.nw Da gD (by rw[hD];simp);have ux:H6 Da=some (.lst vs):=ag.hh _ _ hD;have bh:∀{σ9:Sg} {H9:Hp} {s9:Shared},Inv X' ([] ++ lD fp s5.heap) σ9 H9 s9->tn (i + 1) s9.heap/\∀b∈fp,H9 b=none:=λ{σ9 H9 s9} I9=>
    ⟨T.keep _ _ _ mr λb hb o e=>(I9.pin (b,o) (B2 _ (B2 _ (ym hb e)))).1,λb hb=>by
     obtain⟨o,e,d⟩:=T.obj _ _ mr b hb;exact(I9.pin (b,o) (B2 _ (B2 _ (ym hb e)))).2.1⟩
   refine D6 ((iR (EX:=Ej) (X:=X') (pos:=lp) Am) _ s6 σ6 H6 (λv H8=>∃S8 G8,Step G5 H6 G8 H8/\(∀b,S8 b->H6 b=none/\G8 b=none/\H8 b≠none)/\Ow X.K G8 H8 v (.lst []) S8) I6 ⟨G5,δ1,ag.gh,NB,λv S8 G8 H8 Oz BE OH=>⟨S8,G8,Oz,BE,OH⟩⟩) (λu8 s8 ⟨v8,H8,I8,r8,S8,G8,bZ,BE,OH⟩=> ?_) λ_ _ z=>False.elim z;have BC:G8 Da=none:=bZ.nw Da ND (by rw[ux];simp);have Pw:H8 Da=some (.lst vs):=bZ.hh _ _ ux;have hlv:vs.length=i:=by rw[rl.length,J6]
   refine D6 (oh (X:=X') _ s8 σ6 H8 (.ref Da) [v8] (.ref Da) [u8] (λ_ H9=>H9=upd H8 Da (.lst (vs ++ [v8]))) I8 rfl (.cons r8 .nil) ⟨Da,vs,v8,rfl,rfl,Pw,by rw[hlv,F0];lia,rfl⟩) (λ_ s9 ⟨_,H9,I9,_,e9⟩=> ?_) λ_ _ z=>False.elim z;subst e9;have tT:=st.trans (ag.trans bZ);have sD:∀b,S8 b->b≠Da:=λb z q=>by rw[q]at z;have:=(BE _ z).1;rw[ux]at this;cases this
   have cw:∀b,S b->H6 b≠none:=λb z q=>by
    cases q2:H' b with
    |none=>exact(hl b z).2.2.2 q2
    |some o2=>rw[ag.hh _ _ q2]at q;cases q
   have fw:∀b,S b->H8 b≠none:=λb z q=>by
    cases q2:H6 b with
    |none=>exact cw b z q2
    |some o2=>rw[bZ.hh _ _ q2]at q;cases q
   refine⟨ds.length - (i + 1),by lia,i + 1,σ6,_,G8,vs ++ [v8],λb=>S b\/S8 b,rfl,cR,I9.bS,(bh I9).1,(bh I9).2,uZ.mono bZ.gg,⟨λb o z=> ?_,λb o z=> ?_,tT.gg,tT.nw⟩,sg.trans (ag.gg.trans bZ.gg),Ce,BC, ?_,λb z=> ?_⟩
   ·rw[Be (En z mK)];exact tT.hh b o z
   ·rw[Be (En z BC)];exact bZ.gh b o z
   ·rw[List.replicate_succ'];refine aX.append (S1:=S) (S2:=S8) (aX.mono (ag.gg.trans bZ.gg) rl (λb o z q=>by rw[Be (hl b z).2.2.1];exact bZ.hh _ _ (ag.hh _ _ q)) λ_ z=>z) (.cons (S1:=S8) (S2:=λ_=>False) (Ow.mono (aA.refl _) OH (λb o z q=>by rw[Be (sD b z)];exact q) λ_ z=>z) .nil (λ_ _ z=>z) (λ_ z=>z) λ_ z=>z.elim) (λb z1 z2=>cw b z1 (BE b z2).1) (λ_ z=> .inl z) λ_ z=> .inr z
   ·rcases z with z|z
    ·obtain⟨z1,z2,z3,z4⟩:=hl b z;exact⟨z1,bZ.nw b (ag.nw b z2 z4) (cw b z),z3,by rw[Be z3];exact fw b z⟩
    ·obtain⟨z1,z2,z3⟩:=BE b z;refine⟨?_,z2,sD b z,by rw[Be (sD b z)];exact z3⟩;cases q:H2 b with
     |none=>rfl
     |some o2=>have:=(st.trans ag).hh _ _ q;rw[z1]at this;cases this
  ·have e:ds.length=i:=by lia
   refine Bg (T.done X' rfl rfl rfl i [] s' σ' H' _ (hB _ _ _ _ _ I3) I' (bj rfl BG) yU (i2 e)) λr s1 ⟨hr,I1⟩=> ?_;subst hr;obtain⟨mm,jX,_⟩:=I1.loc;have df:Inv X zd σ H' s1:=I3.oy (s':=s1) (ch:=fp) I1.os I1.base I1.aN I1.bare λb hb=>by
    obtain⟨f0,PJ,f2',f3,f4,f5⟩:=f2 b hb;exact⟨f3,PJ,f4,f5⟩
   rw[<-e]at rl;exact AX Da C s1 G2 H2 G' H' vs S ds e2 df ⟨mm,jX⟩ (I3.eO (by show dO.objs.size<=C;lia) I1.free) um st mK hD gD rl hl
 exact ZB3 (loop _ I4 tR) (T.self X.A 0 _ _ _ tR (loop _ I4 tR))
def lP(m:Nat)(fi:FI)(fg:Gw):FE:=λ δ=>((fi δ).bind λds=>if ds.length<=16777216/\(ds.all λd=>match fg d (δ ++ List.replicate m none) with| .ok _=>true|_=>false)=true then .ok (.tr (.lst (List.replicate ds.length (.lst [])))) else .no).calm
def JA{m:Nat}{fi:FI}{fg:Gw}{δ:DE}{x:Xn}(h:lP m fi fg δ=.ex x):False:=R.dJ h
def XI{m:Nat}{fi:FI}{fg:Gw}{δ:DE}{w:W}(h:lP m fi fg δ=.ok w):∃ds,fi δ=.ok ds/\ds.length<=16777216/\(∀d∈ds,∃δ1,fg d (δ ++ List.replicate m none)=.ok δ1)/\w=.tr (.lst (List.replicate ds.length (.lst []))):=by
 unfold lP at h;cases e:fi δ with
 |ok ds=>
  rw[e]at h;simp only[R.aI]at h
  split at h
  ·rename_i hc;cases h;refine⟨ds,rfl,hc.1,λd hd=> ?_,rfl⟩;have:=F8.mp hc.2 d hd;cases q:fg d (δ ++ List.replicate m none) with
   |ok δ1=>exact⟨δ1,rfl⟩
   |ex x=>rw[q]at this;cases this
   |no=>rw[q]at this;cases this
  ·cases h
 |ex x=>rw[e]at h;cases h
 |no=>rw[e]at h;cases h
def Wg{iter tg:Expr}{scope:Scope}{N':List Str}{fi:FI}{fg:Gw}{m i:Nat}{y:Str}{lp py ax:Pos}(eI:∀e s,¬X.xe e s)(hc:X.calm=true)(hi:ID X Ej tg iter fi)(hk:scope.kind=.function)(hb:Gu scope.names X.env.scope.names X.N N'=true)(hm:N'.length=X.N.length + m)
  (fL:∀C s0 H0 fp pn,GC (fQ X scope (Dw X.env.cells scope.names []) N' C s0 H0 fp pn) Ej tg fg)
  (hN:X.N.Nodup) (hy:X.N[i]? =some y) (hx:Loc X.env.scope y) (hf:X.fn y=true\/X.env.scope.names.lookup y=some .local)
  (kG:swapsWith (.ListComp (.List [] lp) [⟨tg,iter,[],0⟩] scope pos) (some (.Name y py)) ax.line X.env=pure true)
  (hs:∀x,foldedSetIterable iter X.env x=pure x):PS X (.Assign [.Name y py] (.ListComp (.List [] lp) [⟨tg,iter,[],0⟩] scope pos) ax) (kL (tD X.K Ej (lP m fi fg)) (lg i)):=by
 intro zd s σ H D I q;obtain⟨G,δ,g0,h0,o⟩:=q;have n:=nU I.ok hk hb;cases e:lP m fi fg δ with
 |ex x=>exact(JA e).elim
 |no=>rw[e]at o;exact o.elim
 |ok w=>
  rw[e]at o;obtain⟨ds,e0,hz,ha,rfl⟩:=XI e;rw[exec_Assign_Name_used _ _ _ _ kG];refine A4 (O8 (A4 ?_));show wpAny _ X.A (do let _<-comprehension (.ListComp (.List [] lp) [⟨tg,iter,[],0⟩] scope pos) scope X.env _ (newList []) false (eval iter X.env) (some (assign (.Name y py) X.env))) _ _ s;refine A4 (D6 (T8 (use:=some (assign (.Name y py) X.env)) (Q:=λ_ s'=>SP X zd D .next s') rfl hs n.gF n.kind n.names
   (YW (RR:=λzn C=>compPost (model X.prog X.w) X.A X.xe (some (assign (.Name y py) X.env)) (λ_ s'=>SP X zd D .next s') zn C) eI (B:=gM) hk hb hm fL I (Z:=Step G H) (λG2 H2 z=>⟨z.gh,h0.mono z.gg⟩) (λ_ _ _ _ _ _=>hc)
    (D6 ((PI.z hi) zd s σ H (λJ H2=>∃G2,Step G H G2 H2/\jr X.K G2 J ds) I ⟨G,δ,g0,h0,by rw[e0];exact λJ G2 H2 st it=>⟨G2,st,it⟩⟩) (λxv s₁ h₁=>D6 h₁ (λiX s₂ h₂=>by
     obtain⟨it,fp,tn,J,H2,rfl,I2,T,bC,f2,G2,Oy,ui⟩:=h₂;exact⟨it,fp,tn,J,H2,ds,G2,rfl,I2,T,bC,f2,e0,Oy,ui⟩) λ_ _ e=>e) λ_ _ e=>e)
    (λmO e'=>by rw[e0]at e';cases e';exact⟨hz,ha⟩) λDa C s1 G2 H2 G' H' vs S mO e' Io uo fc z st h1 h2 h3 rl fr=> ?_)) (λ_ s' hq=>D0 (D0 hq)) λ_ _ e=>e)
  rw[e0]at e';cases e';obtain⟨mm,jX⟩:=uo;obtain⟨c0,c1,c2,c3,c4,c5⟩:=fc;show wpAny _ X.A (assign (.Name y py) X.env (.ref Da)) _ _ _;refine Z1 (xf Io hN hy hx (v:=.ref Da) rfl (λs2 I2 ⟨a,sb,ha⟩=> ?_) hf);have Px:C≠a:=by
   rcases ha with rfl|ha
   ·exact c1
   ·exact λz=>c4 y a ha z.symm
  refine⟨mm,jX.sameBut sb Px,λh' OB=>⟨_,H',I2.turned (t':=s2.toks) (λb ob hb e=>(OB.2 b hb).trans e) c0 c1 c3 c4 c5, ?_⟩⟩;refine o (.ref Da) (λb=>b=Da\/S b) G' H' (z.trans st) (λa e=> ?_) (.lst h2 (.inl rfl) (λb q=>⟨.inr q,(fr b q).2.2.1⟩) rl);rcases e with rfl|e
  ·exact⟨z.hh.free h1,h3,by rw[h2];simp⟩
  ·obtain⟨f1,f2,f3,f4⟩:=fr a e;exact⟨z.hh.free f1,f2,f4⟩
def Um(js:List Nat){iter tg:Expr}{scope:Scope}{N':List Str}{fi:FI}{fg:Gw}{m i:Nat}{y:Str}{lp py ax:Pos}(hc:X.calm=true)(hi:ID X.jS Ej tg iter fi)(hk:scope.kind=.function)(hb:Gu scope.names X.env.scope.names X.N N'=true)(hm:N'.length=X.N.length + m)
  (fL:∀C s0 H0 fp pn,GC (fQ X scope (Dw X.env.cells scope.names []) N' C s0 H0 fp pn) Ej tg fg)
  (hN:X.N.Nodup) (hy:X.N[i]? =some y:=by rfl) (hx:Loc X.env.scope y:=by trivial) (hf:X.fn y=true\/X.env.scope.names.lookup y=some .local:=by trivial)
  (kG:swapsWith (.ListComp (.List [] lp) [⟨tg,iter,[],0⟩] scope pos) (some (.Name y py)) ax.line X.env=pure true:=by rfl)
  (hs:∀x,foldedSetIterable iter X.env x=pure x:=by intro _;rfl):SD X EX (.Assign [.Name y py] (.ListComp (.List [] lp) [⟨tg,iter,[],0⟩] scope pos) ax) (Aj i js (lP m fi fg)):=
 PS.imp (PS.jS (Wg (X:=X.jS) (λ_ _ z=>z) hc hi hk hb hm fL hN hy hx hf kG hs)) λD σ H ⟨H0,G0,G,Δ,O,E,q⟩=>by
  refine wF (EX:=Ej) (js:=js) ⟨H0,G0,G,Δ,O,E, ?_⟩;cases e:Aj i js (lP m fi fg) Δ with
  |ex x Δ'=>exact(HC (λ_ _ z=>JA z) e).elim
  |_=>rw[e]at q;exact q
end
section
variable{X:Cx}{EX:Bi}{pos:Pos}
def qv(i:Nat)(fn f:FE):FS:=λ Δ=>match(Δ[i]?).bind Sl.tree with
 |some (t,lk)=>(match fn (Bn Δ) with
  | .ok wn=>(match wn.d with
   | .int k=>if 0<=k then(match t.pO k.toNat with
    |some ds=>if ds.length < 16777216 then(match f (Bn Δ) with
     | .ok w=> .nx (Δ.set i (Sl.mk lk (t.jI k.toNat (ds ++ [w.d]))))
     |_=> .no) else .no
    |none=> .no) else .no
   |_=> .no)
  |_=> .no)
 |none=> .no
def Ul{i:Nat}{x:Str}{en e:Expr}{fn f:FE}{p1 p2 zh zf:Pos}(hn:ED X EX en fn)(he:ED X EX e f)(hN:X.N[i]? =some x:=by rfl)(hv:fV X.env.scope x:=by trivial)(hd:AG x:=by decide)
  (bT:(x ==("__classdict__" :Str))=false:=by decide) (zY:wa en:=by intro _ _;rfl)
  (kG:swapsWith (.Call (.Attribute (.Subscript (.Name x p1) en p2) "append" zh) [e] [] zf) none pos.line X.env=pure false:=by rfl)
  (ae:attributeBase (.Subscript (.Name x p1) en p2) "append" X.env (eval (.Subscript (.Name x p1) en p2) X.env)=eval (.Subscript (.Name x p1) en p2) X.env:=by rfl)
  (bb:((backTo zf (starEach [e] X.env)).all (λx=> !x.1) && (backToKw zf (keywordEach [] X.env)).all (λx=>x.1.isSome)
   && decide ([e].length + ([]:List Keyword).length + (if([]:List Keyword).isEmpty then 0 else 1) < 30))=true:=by rfl)
  (af:(zh.endLine ==zf.line)=true:=by rfl) (hs:starEach [e] X.env=(false,eval e X.env)::starEach [] X.env:=by rfl) (aa:(backTo zf (starEach [] X.env)).any (·.1)=false:=by rfl):
  SD X EX (.Expr (.Call (.Attribute (.Subscript (.Name x p1) en p2) "append" zh) [e] [] zf) pos) (qv i fn f):=
 PS.imp (nL (qC R0 T6 T7 oh (DL Rb (iJ hN hv hd bT) hn zY) (lV he mn hs) ae bb af hs aa) kG) λD σ H ⟨H0,G0,G,Δ,O,E,q⟩=>by
  unfold qv at q
  split at q
  ·rename_i t lk e0;obtain⟨s,e1,mi⟩:=U8.mp e0;obtain⟨v00,s1,_⟩:=E.ow i _ _ e1 (Sl.cF mi);cases yM:fn (Bn Δ) with
   |ex x=>simp only[yM]at q;exact q.elim
   |no=>simp only[yM]at q;exact q.elim
   |ok wn=>
    simp only[yM]at q;refine⟨v00,s1,G,Bn Δ,E.st.gh,E.iL, ?_⟩;rw[yM];refine WP.intro λy G1 H1 cG r1=> ?_;revert q r1;cases wn.d with
    |int k=>
     intro q r1;cases r1;have E1:=E.grow cG;obtain⟨v0,iI,t0⟩:=E1.ow i _ _ e1 (Sl.cF mi);rw[s1]at iI;cases iI;simp only at q
     split at q
     ·rename_i hk
      split at q
      ·rename_i ds ek
       split at q
       ·rename_i hz;obtain⟨a,vs,c,cs,rfl,hA,yD,mc,hca,AO,rc,_⟩:=t0.pO ek;have ik:((k.toNat:Nat):Int)=k:=Int.toNat_of_nonneg hk;have at':∀{Q:VK},Q (.ref c) H1->mR X.K (.ref a) (.int k) H1 Q:=λ{Q} z=>by
         have:=mR.at (K:=X.K) (Q:=Q) hA yD z;rw[ik]at this;exact this
        refine at' ⟨.inl ⟨rfl,_,bU.of AO⟩, ?_⟩;refine⟨G1,Bn Δ,E1.st.gh,E1.iL, ?_⟩;cases e2:f (Bn Δ) with
        |ex x=>simp only[e2]at q;exact q.elim
        |no=>simp only[e2]at q;exact q.elim
        |ok w=>
         simp only[e2]at q;refine WP.intro λv G' H' st r=> ?_;have E2:=E1.grow st;obtain⟨v0',iI,t2⟩:=E2.ow i _ _ e1 (Sl.cF mi);rw[s1]at iI;cases iI;obtain⟨a',vs',c',qf,ea,hA',eh,Nd,jj,ej,OD,fin⟩:=t2.pO ek;cases ea;have hvv:vs'=vs:=by
          rcases hA with z|z <;> rcases hA' with z'|z' <;> (rw[st.hh _ _ z]at z';cases z';try rfl)
         subst hvv;rw[yD]at eh;cases eh;rw[st.hh _ _ AO]at ej;cases ej;refine⟨c,cs,v,rfl,rfl,st.hh _ _ AO,by rw[rc.length,F0];exact hz,q σ G' _ _ (E2.kj e1 mi s1 Nd (fin (λb o _ nb z=>by rw[Be nb];exact z) Ce (OD.append (.cons r .nil)))) (cG.gg.trans st.gg)⟩
       ·exact q.elim
      ·exact q.elim
     ·exact q.elim
    |_=>intro q _;exact q.elim
  ·exact q.elim
end
end L3
local macro_rules|`(#v[])=>`(L3.Ac)|`(#v[$n:num])=>`(L3.Aa (L3.Ab $n) L3.Ac)|`(#v[$x])=>`(L3.Aa $x L3.Ac)|`(#v[$n:num,$xs,*])=>`(L3.Aa (L3.Ab $n) #v[$xs,*])|`(#v[$x,$xs,*])=>`(L3.Aa $x #v[$xs,*])
namespace My
open PySem L2 L3
def Jz:FS:=
  (Af (Bv [0,1] (An (Ah mE (Ab 1) (Ag Bu #v[0])))
   (Ao [0,1] (Ah Bw (Ab 0) (Ab 1)))
   Ay)
  (Ao [] (eC (.int 0))))
def mG:List D->R W:=Al 2 Jz
def Jy:FS:=
  (Af (Aj 2 [0,1] (Ah Dz (Ah Et (Ah Bq (Ab 0) (eC (.int 1))) (Ah Bq (eC (.int 48271)) (Ah Et (eC (.int 118)) (Ab 1)))) (eC (.int 2147483629))))
  (Ao [1,2] (Ah Dz (Ah Bq (Ah Bq (Ah Et (Ah Cw (Ab 2) (eC (.int 977))) (eC (.int 16807))) (Ah Et (Ab 2) (Ah Bq (Ah Et (Ab 1) (Ab 1)) (eC (.int 7))))) (Ab 1)) (eC (.int 2147483587)))))
def mF:List D->R W:=Al 3 Jy
def Kg:FS:=
  (Ao [0,1] (At 2 mF #v[Ah Dz (At 2 mG #v[0,1]) (eC (.int 2147483647)),Ah Bq (Ab 1) (eC (.int 101))]))
def pN:List D->R W:=Al 2 Kg
def KS:FS:=
  (Ao [0] (Ah Bq (Ah Et (Ah Bq (Ah Et (At 2 mF #v[0,eC (.int 1)]) (eC (.int 2147483587))) (At 2 mF #v[0,eC (.int 2)])) (eC (.int 2147483587))) (At 2 mF #v[0,eC (.int 3)])))
def ue:List D->R W:=Al 1 KS
def xO:FE:=
  (At 2 mG #v[0,Ah Bq (Ab 1) (Ab 5)])
def xN:FE:=
  (At 1 ue #v[At 2 mF #v[At 2 pN #v[0,Ah Bq (Ab 1) (Ah Dz (Ab 5) (Ag Fd #v[eC (.int 1),3]))],5]])
def xA:FS:=
  (Af (Aj 3 [0,1] (Ag Fd #v[eC (.int 0),Ah eM (Ag Bu #v[0]) (Ab 1)]))
  (Af (Bv [0] (An (Ah Dm (Ah Dz (At 2 mG #v[0,eC (.int 0)]) (eC (.int 2))) (eC (.int 0))))
   (Ao [0,1,2,3] (By 1 (Aw Cn #v[Ag Gj #v[2,3]]) (gC 5) (λ_=> .ok true) xO))
   Ay)
  (Af (Aj 4 [0,2,3] (Ag Gj #v[2,Ag Fd #v[3,Ah Bq (eC (.int 1)) (Ah Dz (At 2 pN #v[0,eC (.int 0)]) (Ab 2))]]))
  (Ao [0,1,3,4] (By 1 (Aw Cn #v[4]) (gC 5) (λ_=> .ok true) xN)))))
def yq:List D->R W:=Al 5 xA
def xy:FS:=
  (Af (Aj 2 [2,5] (Ah Cw (Ab 2) (Ah Bw (Ci #v[eC (.int 12),eC (.int 39)]) (Ag kY #v[Ah sT (Ab 5) (eC (.int 0))]))))
  (Aj 3 [1,2,3] (Ah Bq (Ab 3) (Ah Bw (Ab 1) (Ah Dz (Ab 2) (eC (.int 39)))))))
def rE:FS:=
  (Af (Aj 1 [] (eC (.str "abcdefghijklmnopqrstuvwxyz0123456789-_ ")))
  (Af (Aj 2 [0] (Ah Cw (Ab 0) (eC (.int 3))))
  (Af (Bv [0] (An (Ah Dm (Ah Dz (Ab 0) (eC (.int 3))) (eC (.int 0))))
   (Ao [2] (Ah Dz (Ab 2) (Ah qo (eC (.int 10)) (eC (.int 18)))))
   Ay)
  (Af (Bv [0] (An (Ah Dm (Ah Dz (Ab 0) (eC (.int 3))) (eC (.int 2))))
   (Ao [2] (Ah Dz (Ab 2) (eC (.int 50))))
   Ay)
  (Af (Aj 3 [] (eC (.str "")))
  (Af (Aj 4 [2] (Ah Dz (Ab 2) (eC (.int 12))))
  (Af (Bt [4] (Aw Cn #v[4]) (gV 5) xy)
  (Cv 3))))))))
def sq:List D->R W:=Al 6 rE
def MM:FS:=
  (Af (Aj 5 [4] (At 1 sq #v[4]))
  (Bv [3,5] (An (Ah (inD true) (Ab 5) (Ab 3)))
   (Em 3 (Ab 5))
   Ay))
def xo:FS:=
  (Af (Aj 3 [] (Ci Ac))
  (Af (Bt [0,1,2] (Bo (At 3 yq #v[0,1,2])) (gV 4) MM)
  (Af (Bv [3] (An (Ah Dm (Ab 3) (Ci Ac)))
   (Aj 3 [0] (Ci #v[At 1 sq #v[Ah Cw (At 2 mG #v[0,eC (.int 0)]) (eC (.int 2))]]))
   Ay)
  (Cv 3))))
def yk:List D->R W:=Al 6 xo
def KR:FS:=
  (Af (Aj 2 [0] (Ah Bw (Ci #v[Ah Bq (eC (.int 1)) (Ah Dz (Ah Cw (Ab 0) (eC (.int 5))) (eC (.int 30))),eC (.int 200),eC (.int 200),eC (.int 100)]) (Ah Dz (Ab 0) (eC (.int 4)))))
  (Af (Aj 3 [0,1] (Ah Bw (Ci #v[Ah Bq (eC (.int 1)) (Ah Dz (Ah Cw (Ab 0) (eC (.int 120))) (eC (.int 8))),Ah Bq (eC (.int 1)) (Ah Dz (Ah Cw (Ab 0) (eC (.int 120))) (eC (.int 60))),Ag Fd #v[eC (.int 1),Ah Cw (Ab 1) (eC (.int 2))],Ag Fd #v[eC (.int 1),Ah Cw (Ab 1) (eC (.int 4))]]) (Ah Dz (Ah Cw (Ab 0) (eC (.int 4))) (eC (.int 4)))))
  (Ao [2,3] (qt #v[3,2]))))
def yR:List D->R W:=Al 4 KR
def KQ:FS:=
  (Af (Aj 3 [] (eC (.int 2305843009213693951)))
  (Af (Aj 4 [1,3] (Ah Bq (eC (.int 1)) (Ah Dz (Ah Bq (Ah Et (eC (.int 1103515245)) (Ab 1)) (eC (.int 12345))) (Ah eM (Ab 3) (eC (.int 1))))))
  (Af (Aj 5 [1,3] (Ah Dz (Ah Bq (Ah Et (Ah Et (eC (.int 69069)) (Ab 1)) (Ab 1)) (Ah Et (eC (.int 7)) (Ab 1))) (Ab 3)))
  (Af (Aj 6 [0,3,4,5] (Ah Dz (Ah Bq (Ah Et (Ab 4) (Ab 0)) (Ab 5)) (Ab 3)))
  (Ao [2,6] (Ah Dz (Ah Bq (Ab 6) (Ah Cw (Ab 6) (eC (.int 2147483648)))) (Ab 2)))))))
def kJ:List D->R W:=Al 7 KQ
def xM:FS:=
  (Aj 1 [1,2] (Ah Bq (Ah Bq (Ah Et (Ab 1) (eC (.int 40))) (kh "str" lu (eC (.str "abcdefghijklmnopqrstuvwxyz0123456789-_ ")) #v[2])) (eC (.int 1))))
def xx:FS:=
  (Af (Bv [0] (Bb (uH "int" (Ab 0)))
   (Ao [0] (Ah Et (eC (.int 2)) (Ab 0)))
   Ay)
  (Af (Aj 1 [] (eC (.int 0)))
  (Af (Bt [0] (Bo (Ab 0)) (gV 2) xM)
  (Ao [1] (Ah Bq (Ah Et (eC (.int 2)) (Ab 1)) (eC (.int 1)))))))
def mL:List D->R W:=Al 3 xx
def zN:FS:=
  (qv 2 (At 3 kJ #v[At 1 mL #v[3],eC (.int 0),1]) (At 1 mL #v[3]))
def Mr:FS:=
  (Af (Aj 2 [1] (lP 1 (Aw Cn #v[1]) (gC 4)))
  (Af (Bt [0] (Bo (Ab 0)) (gV 3) zN)
  (Cv 2)))
def zK:List D->R W:=Al 4 Mr
def uk:FE:=
  (Ag Bu #v[3])
def MX:FT:=
  (An (Ah Dm (Ag Bu #v[Ah Bw (Ab 0) (Ab 3)]) (Ab 2)))
def yw:FS:=
  (Aj 1 [0,1,2] (Ah Bq (Ab 1) (By 1 (Aw Cn #v[Ag Bu #v[0]]) (gC 3) MX (Ab 3))))
def LO:FS:=
  (Af (Aj 1 [] (Ci Ac))
  (Af (Bt [0] (Aw gA #v[(Ah Bq (eC (.int 1)) (Ag Es #v[(By 1 (Bo (Ab 0)) (gC 3) (λ_=> .ok true) uk)]))]) (gV 2) yw)
  (Cv 1)))
def yt:List D->R W:=Al 3 LO
def yy:FE:=
  (At 3 kJ #v[5,Ah Bq (Ab 1) (eC (.int 1)),3])
def MZ:FT:=
  (An (Ah (sG false) (Ab 5) (Ab 2)))
def Mf:FS:=
  (Af (Aj 4 [0,1,3] (By 1 (Bo (Ab 0)) (gC 5) (λ_=> .ok true) yy))
  (Af (Bv [4] (An (Ah mE (oJ (Ab 4)) (Ag Bu #v[4])))
   (Ao [] (eC (.bl false)))
   Ay)
  (Ao [2,4] (Ah Dm (By 1 (Bo (Ab 4)) (gC 5) MZ (Ab 5)) (Ci Ac)))))
def uj:List D->R W:=Al 5 Mf
def zx:FS:=
  (Bv [0,2,3,4] (Bb (At 4 uj #v[0,4,2,3]))
   (Ao [] (eC (.bl false)))
   Ay)
def KP:FS:=
  (Af (Bt [1] (Aw Cn #v[1]) (gV 4) zx)
  (Ao [] (eC (.bl true))))
def yQ:List D->R W:=Al 5 KP
def MW:FE:=
  (Ah (inD false) (Ab 1) (eC (.str "abcdefghijklmnopqrstuvwxyz0123456789-_ ")))
def LN:FS:=
  (Ao [0] (kR (Ah lY (Ag Bu #v[0]) (eC (.int 11))) (Ag nM #v[(By 1 (Bo (Ab 0)) (gC 1) (λ_=> .ok true) MW)])))
def zw:List D->R W:=Al 1 LN
def wt:FS:=
  (Af (Bv [0] (Bb (uH "bool" (Ab 0)))
   (Ao [] (eC (.bl false)))
   Ay)
  (Af (Bv [0] (Bb (uH "int" (Ab 0)))
   (Ao [0] (gU lY lY (eC (.int 0)) (Ab 0) (eC (.int 999999999999999999))))
   Ay)
  (Ao [0] (kR (uH "str" (Ab 0)) (At 1 zw #v[0])))))
def tJ:List D->R W:=Al 1 wt
def OE:FS:=
  (Bv [2] (Cg (Bb (At 1 tJ #v[2])))
   (lQ "NoKey" "at" [1] (Ab 1))
   Ay)
def Mm:FS:=
  (Bt [0] (kX (Ab 0)) (yJ 1 2) OE)
def qa:List D->R W:=Al 3 Mm
def zJ:FS:=
  (Af (Bv [1,3] (An (Ah (sG false) (Ab 3) (Ab 1)))
   (lQ "Twice" "at" [2] (Ab 2))
   Ay)
  (Er 1 [] (Ab 3) (eC (.bl true))))
def LM:FS:=
  (Af (Aj 1 [] Eo)
  (Bt [0] (kX (Ab 0)) (yJ 2 3) zJ))
def zv:List D->R W:=Al 4 LM
def KO:FS:=
  (Af (Bv [0] (Fa (An (Ah Dm (Ag Bu #v[0]) (eC (.int 0)))) (An (Ah sT (Ag Bu #v[0]) (eC (.int 200)))))
   (GU "NoKeys")
   Ay)
  (Af (Ea [0] (At 1 qa #v[0]))
  (Af (Ea [0] (At 1 zv #v[0]))
  (Ao [0] (Ag Bu #v[0])))))
def sE:List D->R W:=Al 1 KO
def GN:FS:=
  (Af (Bv [2] (An (Ah Dm (Ab 2) (eC (.int 0))))
   (Ao [] (eC (.int 0)))
   Ay)
  (Af (Aj 3 [1] (Ah Bq (eC (.int 1)) (Ah Dz (Ah Bq (Ah Et (eC (.int 1103515245)) (Ab 1)) (eC (.int 12345))) (Ah eM (eC (.int 2305843009213693951)) (eC (.int 1))))))
  (Af (Aj 4 [1] (Ah Dz (Ah Bq (Ah Et (Ah Et (eC (.int 69069)) (Ab 1)) (Ab 1)) (Ah Et (eC (.int 7)) (Ab 1))) (eC (.int 2305843009213693951))))
  (Af (Aj 5 [0,3,4] (Ah Dz (Ah Bq (Ah Et (Ab 3) (Ab 0)) (Ab 4)) (eC (.int 2305843009213693951))))
  (Ao [2,5] (Ah Dz (Ah Bq (Ab 5) (Ah Cw (Ab 5) (eC (.int 2147483648)))) (Ab 2)))))))
def oH:List D->R W:=Al 6 GN
def KN:FS:=
  (Ao [0,1] (At 3 oH #v[0,eC (.int 0),1]))
def ud:List D->R W:=Al 2 KN
def sX:FS:=
  (ql 2 (At 2 ud #v[3,1]) (Ab 3))
def x_7:FS:=
  (Af (Aj 2 [] Eo)
  (Af (Bt [0] (Bo (Ab 0)) (gV 3) sX)
  (Cv 2)))
def zM:List D->R W:=Al 4 x_7
def Jx:FS:=
  (Ao [0,1,2] (At 3 oH #v[0,Ah Bq (Ab 1) (eC (.int 1)),2]))
def tP:List D->R W:=Al 3 Jx
def ph:FS:=
  (Af (Aj 6 [1,2,5] (At 3 tP #v[5,1,2]))
  (Af (Bv [3,4,6] (Fa (An (Ah (sG false) (Ab 6) (Ab 3))) (An (Ah (sG false) (Ab 6) (Ab 4))))
   (Ao [] (eC (.bl false)))
   Ay)
  (Er 4 [] (Ab 6) (eC (.bl true)))))
def KL:FS:=
  (Af (Aj 4 [] Eo)
  (Af (Bt [0] (Bo (Ab 0)) (gV 5) ph)
  (Ao [] (eC (.bl true)))))
def MH:List D->R W:=Al 7 KL
def qe:FS:=
  (Bv [0,1,2,4] (Bb (At 4 MH #v[0,4,1,2]))
   (Cv 4)
   Ay)
def Me:FS:=
  (Af (Bt [3] (Aw Cn #v[3]) (gV 4) qe)
  (Ao [] (eC .aJ)))
def yv:List D->R W:=Al 5 Me
def mQ:FE:=
  (qt #v[mV (Ag Bu #v[Ah Fy (Ab 3) (Ab 9)]),9])
def AV:FS:=
  (Er 4 [] (At 3 tP #v[8,7,Ag Bu #v[0]]) (eC (.bl true)))
def pv:FS:=
  (Af (mZ 7 (ng [4] (At 4 yv #v[Ah Fy (Ab 3) (Ab 6),Ag Bu #v[0],4,2])))
  (Af (Bv [7] (An (Ah (Di false) (Ab 7) (eC .aJ)))
   (lQ "NoFit" "at" [6] (Ab 6))
   Ay)
  (Af (Er 5 [7] (Ab 6) (Ab 7))
  (Bt [3,6] (Bo (Ah Fy (Ab 3) (Ab 6))) (gV 8) AV))))
def w_0:FS:=
  (Af (Aj 3 [0,1] (At 2 zM #v[0,1]))
  (Af (Aj 4 [] Eo)
  (Af (Aj 5 [] Eo)
  (Af (Bt [3] (Bo (gR mQ (Ab 3))) (gV 6) pv)
  (Cv 5)))))
def sV:List D->R W:=Al 9 w_0
def wQ:FS:=
  (Aj 1 [1,2] (Ah Bq (Ah Bq (Ah Et (eC (.int 40)) (Ab 1)) (kh "str" ni (eC (.str "abcdefghijklmnopqrstuvwxyz0123456789-_ ")) #v[2])) (eC (.int 1))))
def GL:FS:=
  (Af (Aj 1 [] (eC (.int 0)))
  (Af (Bt [0] (Bo (Ab 0)) (gV 2) wQ)
  (Cv 1)))
def nF:List D->R W:=Al 3 GL
def vS:FS:=
  (Af (Bv [0] (Cg (Bb (At 1 tJ #v[0])))
   (lQ "NoKey" "at" [] (eC (.int 0)))
   Ay)
  (Af (Bv [0] (Bb (uH "str" (Ab 0)))
   (Ao [0] (Ah Bq (Ah Et (eC (.int 2)) (At 1 nF #v[0])) (eC (.int 1))))
   Ay)
  (Ao [0] (Ah Et (eC (.int 2)) (Ab 0)))))
def mw:List D->R W:=Al 1 vS
abbrev Lc:List Str:=["Halved","Buckets"]
def abi:FS:=
  (fE 0 Lc "how_many" [1] (Ab 1))
def yO:List D->R (List Str×List D):=eP 2 "Buckets" abi
def yI:FE:=
  (At 1 mw #v[4])
def x_8:FS:=
  (Af (gS 0 "Buckets" [1] yO (At 1 sE #v[1]))
  (Af (fE 0 ["Buckets"] "many_buckets" [2] (Ab 2))
  (fE 0 ["Buckets"] "by_bucket" [1,2,3] (At 3 sV #v[(By 1 (Bo (Ab 1)) (gC 4) (λ_=> .ok true) yI),2,3]))))
def sk:List D->R (List Str×List D):=eP 4 "Buckets" x_8
def w_1:FS:=
  (Ao [0,1] (vh (Fu ["Buckets"] "by_bucket" (Ab 0)) (Ab 1) (eC (.int 0))))
def pq:List D->R W:=Al 2 w_1
def OL:FE:=
  (Ft "number_in" 1 [("Buckets",pq)] (Ab 0) #v[1])
def z_8:FS:=
  (Ao [0] (By 1 (Aw Cn #v[Fu ["Buckets"] "many_buckets" (Ab 0)]) (gC 1) (λ_=> .ok true) OL))
def uJ:List D->R W:=Al 1 z_8
def Mq:FS:=
  (Ao [0] (Ag Gi #v[Fu ["Halved"] "salts" (Ab 0)]))
def uG:List D->R W:=Al 1 Mq
def Mp:FS:=
  (Ao [0,1] (At 2 ud #v[At 1 mw #v[1],Fu ["Buckets"] "many_buckets" (Ab 0)]))
def qd:List D->R W:=Al 2 Mp
def w_2:FS:=
  (Ao [0,1] (At 3 tP #v[At 1 mw #v[1],Ft "number_in" 1 [("Buckets",pq)] (Ab 0) #v[Ft "bucket" 1 [("Buckets",qd)] (Ab 0) #v[1]],Fu Lc "how_many" (Ab 0)]))
def sU:List D->R W:=Al 2 w_2
def Md:FS:=
  (Ao [0,1] (Ag Gj #v[Ft "number_of" 1 [("Buckets",sU)] (Ab 0) #v[1],Ah eM (Fu Lc "how_many" (Ab 0)) (eC (.int 1))]))
def sR:List D->R W:=Al 2 Md
def z_9:FE:=
  (Ft "room" 1 [("Buckets",sR)] (Ab 0) #v[2])
def Ml:FS:=
  (Af (Ea [1] (At 1 qa #v[1]))
  (Ao [0,1] (By 1 (Bo (Ab 1)) (gC 2) (λ_=> .ok true) z_9)))
def uF:List D->R W:=Al 2 Ml
def Jw:FS:=
  (Ao [0,1] (Ah lY (Ab 0) (Ag Fd #v[1,eC (.int 1)])))
def si:List D->R W:=Al 2 Jw
def KJ:FS:=
  (Ao [0] (Ah Cw (Ah Bq (Ab 0) (eC (.int 1))) (eC (.int 2))))
def ub:List D->R W:=Al 1 KJ
def MV(S:AF):FS:=
  (Af (Bv [0,1] (Bb (At 2 si #v[0,1]))
   (Ao [] (eC (.int 1)))
   Ay)
  (Af (Aj 2 [0] (At 1 ub #v[0]))
  (Ao [0,1,2] (Ah Bq (Ah Bq (eC (.int 1)) (At 2 S #v[2,1])) (At 2 S #v[Ah eM (Ab 0) (Ab 2),1])))))
def uh:Nat->List D->R W
 |0=>λ_=> .no
 |n + 1=>Al 3 (MV (uh n))
def AU:FT:=
  (Cg (Bb (At 2 si #v[3,Fu ["Halved"] "leaf" (Ab 0)])))
def yH:FS:=
  (Af (Aj 6 [3] (At 1 ub #v[3]))
  (Bv [0,2,4] (An (Ah Dm (At 3 oH #v[2,Ah Bw (Fu ["Halved"] "salts" (Ab 0)) (Ab 4),eC (.int 2)]) (eC (.int 0))))
   (Af (Aj 4 [4] (Ah Bq (Ab 4) (eC (.int 1))))
  (Aj 3 [6] (Ab 6)))
   (Af (Aj 4 [0,4,6] (Ah Bq (Ah Bq (Ab 4) (eC (.int 1))) (At 2 (uh 70) #v[6,Fu ["Halved"] "leaf" (Ab 0)])))
  (Af (Aj 5 [5,6] (Ah Bq (Ab 5) (Ab 6)))
  (Aj 3 [3,6] (Ah eM (Ab 3) (Ab 6)))))))
def x_9:FS:=
  (Af (Aj 2 [1] (At 1 mw #v[1]))
  (Af (Aj 3 [0] (Fu Lc "how_many" (Ab 0)))
  (Af (Aj 4 [] (eC (.int 0)))
  (Af (Aj 5 [] (eC (.int 0)))
  (Af (Do [0,3] AU yH 3000)
  (Ao [0,2,3,4,5] (Ah Bq (Ab 5) (At 3 oH #v[2,Ah Bw (Fu ["Halved"] "salts" (Ab 0)) (Ab 4),3]))))))))
def uB:List D->R W:=Al 7 x_9
def LL:FS:=
  (Ao [0,1] (Ag Gj #v[Ft "number_of" 1 [("Halved",uB)] (Ab 0) #v[1],Ah eM (Fu Lc "how_many" (Ab 0)) (eC (.int 1))]))
def sI:List D->R W:=Al 2 LL
def Mo:FE:=
  (Ft "room" 1 [("Halved",sI)] (Ab 0) #v[2])
def Mc:FS:=
  (Af (Ea [1] (At 1 qa #v[1]))
  (Ao [0,1] (By 1 (Bo (Ab 1)) (gC 2) (λ_=> .ok true) Mo)))
def uC:List D->R W:=Al 2 Mc
abbrev NX:List (Str×(AF)):=[("Buckets",uJ),("Halved",uG)]
def zI:FS:=
  (Af (Aj 4 [0,1,2] (Gb "Buckets" 3 sk #v[Ag Gi #v[0],1,2]))
  (Aj 5 [4] (Ft "numbers" 0 NX (Ab 4) Ac)))
abbrev Ob:List Str:=["NoFit","NoKey","Twice"]
def Ot:FS:=
  (Aj 6 [7] (Hn Ob "at" (Ab 7)))
def sS:FT:=
  (gY (An (Ah (Di false) (Ab 5) (eC .aJ))) (gY (An (Ah mE (Ab 11) (Ab 2))) (Cg (Bb (At 4 uj #v[10,11,8,Ag Bu #v[0]])))))
def zH:FS:=
  (Aj 11 [11] (Ah Bq (Ab 11) (eC (.int 1))))
def zG:FS:=
  (Er 8 [] (At 3 kJ #v[12,Ah Bq (Ab 11) (eC (.int 1)),Ag Bu #v[0]]) (eC (.bl true)))
def pZ:FS:=
  (Af (Aj 10 [3,9] (Ah Bw (Ab 3) (Ab 9)))
  (Af (Aj 11 [] (eC (.int 0)))
  (Af (Bv [5] (An (Ah (Di true) (Ab 5) (eC .aJ)))
   (Aj 11 [5,9] (Ah Bw (Ab 5) (Ab 9)))
   Ay)
  (Af (Do [0,2,5,8,10,11] sS zH 3000)
  (Af (Bv [2,11] (An (Ah Dm (Ab 11) (Ab 2)))
   (Ao [6,9] (Ah Dm (Ab 6) (Ab 9)))
   Ay)
  (Af (Bv [0,2,8,10,11] (Fa (Cg (An (gU lY mE (eC (.int 0)) (Ab 11) (Ab 2)))) (Cg (Bb (At 4 uj #v[10,11,8,Ag Bu #v[0]]))))
   (Ao [] (eC (.bl false)))
   Ay)
  (Af (Bv [0,8,10,11] (Cg (Bb (At 4 yQ #v[10,11,8,Ag Bu #v[0]])))
   (Ao [] (eC (.bl false)))
   Ay)
  (Bt [10] (Bo (Ab 10)) (gV 12) zG))))))))
noncomputable abbrev uO:List (Str×Bool):=[("NoFit",true),("NoKey",false),("NoKeys",false),("Twice",false)]
abbrev NW:List (Str×(AF)):=[("Buckets",uF),("Halved",uC)]
def LK:FS:=
  (Af (Aj 3 [0,1] (At 2 zK #v[0,1]))
  (Af (Aj 4 [] (eC .aJ))
  (Af (Aj 5 [] (eC .aJ))
  (Af (Aj 6 [] (eC .aJ))
  (Af (Hf zI [⟨some 7, uO,Ot⟩])
  (Af (Aj 8 [] Eo)
  (Af (Bt [3] (Bo (At 1 yt #v[3])) (gV 9) pZ)
  (Af (Bv [1,5] (Fa (An (Ah (Di false) (Ab 5) (eC .aJ))) (An (Ah fP (Ag Bu #v[5]) (Ab 1))))
   (Ao [] (eC (.bl false)))
   Ay)
  (Ao [0,4,8] (kR (Ah Dm (Ag jw #v[Ft "rooms" 1 NW (Ab 4) #v[Ag Gi #v[0]]]) (gE Cn #v[Ag Bu #v[0]])) (Ah Dm (Ag jw #v[Ag vi #v[8]]) (gE Cn #v[Ag Bu #v[0]]))))))))))))
def MP:List D->R W:=Al 13 LK
def MU:FE:=
  (At 3 kJ #v[2,1,Ag Bu #v[0]])
def LA:FS:=
  (Ao [0,1] (Ah Dm (oJ (By 1 (Bo (Ab 0)) (gC 2) (λ_=> .ok true) MU)) (Ag Bu #v[0])))
def yY:List D->R W:=Al 2 LA
def ML:FT:=
  (An (Ah Dm (At 3 kJ #v[2,1,eC (.int 2)]) (eC (.int 0))))
def Kf:FS:=
  (Ao [0,1] (By 1 (Bo (Ab 0)) (gC 2) ML (Ab 2)))
def tY:List D->R W:=Al 2 Kf
def xn:FS:=
  (Af (Bv [0,1] (An (Ah lY (Ag Bu #v[0]) (Ab 1)))
   (Ao [0,2] (At 2 yY #v[0,2]))
   Ay)
  (Ao [0,2] (Ah Dm (Ag Bu #v[At 2 tY #v[0,2]]) (Ah Cw (Ah Bq (Ag Bu #v[0]) (eC (.int 1))) (eC (.int 2))))))
def pM:List D->R W:=Al 3 xn
def zu:FT:=
  (gY (An (Ah mE (Ab 7) (Ab 2))) (Cg (Bb (At 3 pM #v[6,1,7]))))
def xK:FS:=
  (Aj 7 [7] (Ah Bq (Ab 7) (eC (.int 1))))
def xJ:FT:=
  (An (Ah (inD true) (Ab 9) (Ab 8)))
def ug:FT:=
  (An (Ah fP (Ab 4) (Ci Ac)))
def pX:FS:=
  (Af (gL 6 4)
  (Af (Aj 7 [] (eC (.int 0)))
  (Af (Do [1,2,6,7] zu xK 3000)
  (Af (Bv [2,7] (An (Ah Dm (Ab 7) (Ab 2)))
   (Ao [3,5] (Ah Dm (Ab 5) (Ab 3)))
   Ay)
  (Af (Aj 5 [5] (Ah Bq (Ab 5) (eC (.int 1))))
  (Bv [1,6] (An (Ah sT (Ag Bu #v[6]) (Ab 1)))
   (Af (kM (gV 8) [6,7] (At 2 tY #v[6,7]))
  (Af (Em 4 (By 1 (Bo (Ab 6)) (gC 9) xJ (Ab 9)))
  (Em 4 (Ab 8))))
   Ay))))))
def KI:FS:=
  (Af (Aj 4 [0] (Ci #v[0]))
  (Af (Aj 5 [] (eC (.int 0)))
  (Af (Do [4] ug pX 3000)
  (Ao [] (eC (.bl false))))))
def rH:List D->R W:=Al 9 KI
def MT:FS:=
  (Bv [0,1,4] (Bb (At 3 pM #v[0,1,4]))
   (Ao [] (eC .aJ))
   Ay)
def yu:FS:=
  (qB 8 (At 3 kJ #v[9,Ah Bw (Ab 2) (Ab 3),Ag Bu #v[0]]) (Ab 9))
def Om:FT:=
  (An (Ah (inD true) (Ab 10) (Ab 5)))
def MK(S:AF):FS:=
  (Af (Bv [0,1,2,3] (Fa (An (Ah BB (Ab 3) (Ag Bu #v[2]))) (Cg (Bb (At 3 pM #v[0,1,Ah Bw (Ab 2) (Ab 3)]))))
   (Ao [] (eC .aJ))
   Ay)
  (Af (Bt [2,3] (Aw Cn #v[Ah Bw (Ab 2) (Ab 3)]) (gV 4) MT)
  (Af (Bv [0,1] (An (Ah lY (Ag Bu #v[0]) (Ab 1)))
   (Af (Aj 8 [0] (mU #v[eC (.int 0)] (Ag Bu #v[0])))
  (Af (Bt [0] (Bo (Ab 0)) (gV 9) yu)
  (Ao [3,8] (Ci #v[8,Ah Bq (Ab 3) (eC (.int 1))]))))
   Ay)
  (Af (Aj 5 [0,2,3] (At 2 tY #v[0,Ah Bw (Ab 2) (Ab 3)]))
  (Af (Aj 6 [1,2,3,5] (At 4 S #v[5,1,2,Ah Bq (Ab 3) (eC (.int 1))]))
  (Af (Bv [6] (An (Ah (Di false) (Ab 6) (eC .aJ)))
   (Ao [] (eC .aJ))
   Ay)
  (Af (Aj 7 [0,1,2,5,6] (At 4 S #v[By 1 (Bo (Ab 0)) (gC 10) Om (Ab 10),1,2,Ah Bw (Ab 6) (eC (.int 1))]))
  (Af (Bv [7] (An (Ah (Di false) (Ab 7) (eC .aJ)))
   (Ao [] (eC .aJ))
   Ay)
  (Ao [6,7] (Ci #v[Ah Bq (Ah Bw (Ab 6) (eC (.int 0))) (Ah Bw (Ab 7) (eC (.int 0))),Ah Bw (Ab 7) (eC (.int 1))]))))))))))
def pP:Nat->List D->R W
 |0=>λ_=> .no
 |n + 1=>Al 10 (MK (pP n))
def rG:FT:=
  (An (Ah Dm (At 3 oH #v[3,1,eC (.int 2)]) (Ab 2)))
def Jv:FS:=
  (Ao [0,1,2] (By 1 (Bo (Ab 0)) (gC 3) rG (Ab 3)))
def tO:List D->R W:=Al 3 Jv
def MO:FE:=
  (At 3 oH #v[4,1,3])
def xw:FS:=
  (Af (Aj 3 [0] (Ag Bu #v[0]))
  (Af (Bv [2,3] (Bb (At 2 si #v[3,2]))
   (Ao [0,1,3] (Ah Dm (oJ (By 1 (Bo (Ab 0)) (gC 4) (λ_=> .ok true) MO)) (Ab 3)))
   Ay)
  (Ao [0,1,3] (Ah Dm (Ag Bu #v[At 3 tO #v[0,1,eC (.int 0)]]) (At 1 ub #v[3])))))
def yp:List D->R W:=Al 4 xw
def pj:FS:=
  (Bv [0,1,3] (Bb (At 3 yp #v[0,3,1]))
   (Cv 3)
   Ay)
def xH:FS:=
  (Af (Bt [2] (Aw Cn #v[2]) (gV 3) pj)
  (Ao [] (eC .aJ)))
def yX:List D->R W:=Al 4 xH
def sH:FT:=
  (An (Ah sT (Ag Bu #v[4]) (eC (.int 0))))
def pe:FS:=
  (Af (gL 5 4)
  (Af (Aj 6 [1,2,5] (At 3 yX #v[5,1,2]))
  (Af (Bv [6] (An (Ah (Di false) (Ab 6) (eC .aJ)))
   (lQ "NoFit" "at" [3] (Ag Bu #v[3]))
   Ay)
  (Af (Em 3 (Ab 6))
  (Bv [1,5] (Cg (Bb (At 2 si #v[Ag Bu #v[5],1])))
   (Af (Em 4 (At 3 tO #v[5,6,eC (.int 1)]))
  (Em 4 (At 3 tO #v[5,6,eC (.int 0)])))
   Ay)))))
def xu:FS:=
  (Af (Aj 3 [] (Ci Ac))
  (Af (Aj 4 [0] (Ci #v[0]))
  (Af (Do [4] sH pe 3000)
  (Cv 3))))
def sC:List D->R W:=Al 7 xu
def abf:FS:=
  (fE 0 Lc "how_many" [1] (Ab 1))
def yN:List D->R (List Str×List D):=eP 2 "Halved" abf
def yG:FE:=
  (At 1 mw #v[4])
def Ms:FS:=
  (Af (gS 0 "Halved" [1] yN (At 1 sE #v[1]))
  (Af (fE 0 ["Halved"] "leaf" [2] (Ab 2))
  (fE 0 ["Halved"] "salts" [1,2,3] (At 3 sC #v[(By 1 (Bo (Ab 1)) (gC 4) (λ_=> .ok true) yG),2,3]))))
def rY:List D->R (List Str×List D):=eP 4 "Halved" Ms
def Ol:FE:=
  (At 1 mL #v[10])
def Oj:FS:=
  (Aj 4 [0,1,2] (Gb "Halved" 3 rY #v[Ag Gi #v[0],1,2]))
def aaJ:FS:=
  (Aj 5 [6] (Hn Ob "at" (Ab 6)))
def Oi:FE:=
  (Ah Bw (Ah Bw (Ab 8) (eC (.int 0))) (Ab 10))
def Mb:FS:=
  (Aj 3 [0] (By 1 (Bo (Ab 0)) (gC 10) (λ_=> .ok true) Ol))
def Ma:FS:=
  (Aj 4 [] (eC .aJ))
def LZ:FS:=
  (Aj 5 [] (mV (eC (.int 1))))
def Oh:FS:=
  (Hf Oj [⟨some 6, uO,aaJ⟩])
def Og:FS:=
  (Bv [4] (An (Ah (Di false) (Ab 4) (eC .aJ)))
   (Ao [1,2,3,5] (At 4 rH #v[3,1,2,5]))
   Ay)
def LY:FS:=
  (Aj 7 [4] (Ft "numbers" 0 NX (Ab 4) Ac))
def LX:FS:=
  (Aj 8 [1,3,7] (At 4 (pP 70) #v[3,1,7,eC (.int 0)]))
def LW:FS:=
  (Bv [2,7,8] (Fa (An (Ah (Di false) (Ab 8) (eC .aJ))) (Fa (An (Ah fP (Ah Bw (Ab 8) (eC (.int 1))) (Ag Bu #v[7]))) (Fa (An (Ah BB (Ag Es #v[7]) (Ab 2))) (An (Ah mE (Ag mS #v[7]) (eC (.int 0)))))))
   (Ao [] (eC (.bl false)))
   Ay)
def LV:FS:=
  (Aj 9 [0,4] (Ft "rooms" 1 NW (Ab 4) #v[Ag Gi #v[0]]))
def Mj:FS:=
  (Bv [0,9] (An (Ah fP (Ag jw #v[9]) (gE Cn #v[Ag Bu #v[0]])))
   (Ao [] (eC (.bl false)))
   Ay)
def Mi:FS:=
  (Ao [3,8,9] (Ah Dm (By 1 (Bo (Ab 9)) (gC 10) (λ_=> .ok true) Oi) (Ab 3)))
def Lx:FS:=
  (Af Mb
  (Af Ma
  (Af LZ
  (Af Oh
  (Af Og
  (Af LY
  (Af LX
  (Af LW
  (Af LV
  (Af Mj
  Mi))))))))))
def MJ:List D->R W:=Al 10 Lx
def vR:FS:=
  (Aj 1 [0] (At 3 yk #v[0,eC (.int 2),eC (.int 60)]))
def vQ:FS:=
  (Aj 2 [0] (At 2 mG #v[0,eC (.int 1)]))
def vP:FS:=
  (kM (gP 3 4) [1,2] (At 2 yR #v[Ah Cw (Ab 2) (eC (.int 6)),Ag Bu #v[1]]))
def GJ:FS:=
  (Ao [1,2,3,4] (kR (At 3 MP #v[1,3,4]) (At 3 MJ #v[1,Ah Bq (eC (.int 1)) (Ah Dz (Ab 2) (eC (.int 6))),Ag Gj #v[eC (.int 100),4]])))
def DB:FS:=
  (Af vR
  (Af vQ
  (Af vP
  GJ)))
def DA:List D->R W:=Al 5 DB
end My
namespace L3
open PySem L2
def kB:Nat->D->Bool
 |_,.aJ=>true
 |_,.bl _=>true
 |_,.int _=>true
 |_,.str x=>x.cps.all (· < 0x110000)
 |n + 1,.lst ds=>ds.all (kB n)
 |n + 1,.tup ds=>ds.all (kB n)
 |_,_=>false
def IC:∀(n:Nat) (d:D),kB n d=true->(Ef d).canLay0=true/\(Ef d).depth<=n/\(Ef d).eqv (Ef d)=true:=by
 intro n
 induction n with
 |zero=>
  intro d h;cases d with
  |aJ=>exact⟨rfl,A9 _,rfl⟩
  |bl b=>exact⟨rfl,A9 _,by cases b <;> rfl⟩
  |int i=>exact⟨rfl,A9 _,by show(i ==i)=true;simp⟩
  |str x=>exact⟨h,A9 _,by show(x ==x)=true;simp⟩
  |_=>cases h
 |succ n ih=>
  have all:∀ds:List D,ds.all (kB n)=true->PyData.canLayAll0 (Fo ds)=true/\PyData.depthAll (Fo ds)<=n/\PyData.eqvAll (Fo ds) (Fo ds)=true:=by
   intro ds
   induction ds with
   |nil=>intro _;exact⟨rfl,K8 _,rfl⟩
   |cons d ds ih2=>
    intro h;rw[X0,C9]at h;obtain⟨a1,a2,a3⟩:=ih d h.1;obtain⟨b1,b2,b3⟩:=ih2 h.2;refine⟨?_, ?_, ?_⟩
    ·show(PyData.canLay0 (Ef d) && PyData.canLayAll0 (Fo ds))=true;rw[a1,b1];rfl
    ·show max (PyData.depth (Ef d)) (PyData.depthAll (Fo ds))<=n;exact Nat.max_le.mpr ⟨a2,b2⟩
    ·show(PyData.eqv (Ef d) (Ef d) && PyData.eqvAll (Fo ds) (Fo ds))=true;rw[a3,b3];rfl
  intro d h;cases d with
  |aJ=>exact⟨rfl,K8 _,rfl⟩
  |bl b=>exact⟨rfl,K8 _,by cases b <;> rfl⟩
  |int i=>exact⟨rfl,K8 _,by show(i ==i)=true;simp⟩
  |str x=>exact⟨h,K8 _,by show(x ==x)=true;simp⟩
  |lst ds=>
   obtain⟨b1,b2,b3⟩:=all ds h;exact⟨b1,Nat.succ_le_succ b2,b3⟩
  |tup ds=>
   obtain⟨b1,b2,b3⟩:=all ds h;exact⟨b1,Nat.succ_le_succ b2,b3⟩
  |_=>cases h
def IB{n:Nat}{d:D}(h:kB n d=true)(hn:n<=60):ka d d=true/\Hc d d=true:=by
 obtain⟨a1,a2,a3⟩:=IC n d h;refine⟨?_,a3⟩;unfold ka;rw[a1,E8 (D4 a2 hn)];rfl
def IA{d:D}(n:Nat)(h:kB n d=true)(hn:n<=60:=by decide):Dm d d=.ok (.sh (.bl true)):=by
 obtain⟨h1,h2⟩:=IB h hn;unfold Dm
 split
 ·simp
 ·rw[if_pos h1,h2]
def Wf{d:D}(n:Nat)(h:kB n d=true)(hn:n<=60:=by decide):fP d d=.ok (.sh (.bl false)):=by
 obtain⟨h1,h2⟩:=IB h hn;unfold fP
 split
 ·simp
 ·rw[if_pos h1,h2];rfl
def Uk(n:Nat)(i:Int):kB n (.int i)=true:=by cases n <;> rfl
def We(n:Nat){α:Type}(f:α->Int)(l:List α):(l.map λa=>D.int (f a)).all (kB n)=true:=by
 rw[F8];intro d hd;obtain⟨a,_,rfl⟩:=D8.mp hd;exact Uk n _
theorem Ju{α:Type}(f:α->Int):∀l:List α,jK (l.map λa=>D.int (f a))=some (l.map f)
 | []=>rfl
 |a::l=>by
  show(jK (l.map λa=>D.int (f a))).map (f a:: ·)=_;rw[Ju f l];rfl
def CZ{n i:Nat}(h:i < n):kF n (i:Int)=some i:=by
 unfold kF;rw[if_pos (),if_pos ()];simp
def Hr{α:Type}{xs:List α}{i:Nat}{x:α}(h:xs[i]? =some x):dC xs (i:Int)=some x:=by
 unfold dC;rw[CZ (B4.mp h).1];exact h
end L3
namespace My
open PySem L2 L3
noncomputable def kQ(c k:Int):Int:=((c + 1) * (48271 + 118 * k) % 2147483629 / 977 * 16807 + (c + 1) * (48271 + 118 * k) % 2147483629 * (k * k + 7) + k) % 2147483587
def nr(c k:Int)(h1: -1000<=k)(h2:k<=1000):mF [.int c,.int k]=.ok (.sh (.int (kQ c k))):=by
 have hk: -18446744073709551616 < k * k + 7/\k * k + 7 < 18446744073709551616:=by
  have:k * k<=1000 * 1000:=by
   rcases Qh 0 k with h|h
   ·exact Int.mul_le_mul h2 h2 h ⋯
   ·have:(-k) * (-k)<=1000 * 1000:=Int.mul_le_mul () () () ⋯
    rwa[Int.neg_mul_neg]at this
  have:0<=k * k:=by
   rcases Qh 0 k with h|h
   ·exact Int.mul_nonneg h h
   ·have:=Int.mul_nonneg (a:= -k) (b:= -k) () ()
    rwa[Int.neg_mul_neg]at this
  lia
 have m1:Hg 118 k=true:=eU ⋯ ⋯;have m2:Hg (c + 1) (48271 + 118 * k)=true:=lr () ();have m3:∀z:Int,Hg z 16807=true:=λz=>lr ⋯ ⋯;have m4:Hg k k=true:=eU () ();have m5:∀z:Int,Hg z (k * k + 7)=true:=λz=>lr hk.1 hk.2
 simp![mF,Jy,Ak,iQ m1,iQ m2,iQ (m3 _),iQ m4,iQ (m5 _),Ee,ku (show(0:Int) < 977 by decide) ⋯,Gy (show(0:Int) < 2147483629 by decide),Gy (show(0:Int) < 2147483587 by decide)]
 rfl
def lj(ns:List Int)(k:Int)(h:0<=k):mG [.lst (ns.map .int),.int k]=.ok (.sh (.int (ns.getD k.toNat 0))):=by
 simp![mG,Jz,Ak,Cy,Fz,A3]
 by_cases hk:k < (ns.length:Int)
 ·have e:dC (ns.map D.int) k=some (.int (ns.getD k.toNat 0)):=by
   apply EC h;rw[B3];have:k.toNat < ns.length:=by lia
   simp[List.getD,this]
  simp![hk,F6,if_true,Gz e,Ak]
 ·simp![hk,K5,Ak]
  have:ns.length<=k.toNat:=by lia
  simp[List.getD,this]
def GI(ns:List Int)(k:Int)(h:0<=k)(h2:k<=500):∃z,pN [.lst (ns.map .int),.int k]=.ok (.sh (.int z)):=by
 refine⟨kQ (ns.getD k.toNat 0 % 2147483647) (k + 101), ?_⟩
 simp![pN,Kg,Ak,lj ns k h,Gy (show(0:Int) < 2147483647 by decide),Ee,nr _ (k + 101) () ()]
def Wd(c:Int):∃z,ue [.int c]=.ok (.sh (.int z)):=by
 have m:∀z:Int,Hg z 2147483587=true:=λz=>lr ⋯ ⋯;refine⟨(kQ c 1 * 2147483587 + kQ c 2) * 2147483587 + kQ c 3, ?_⟩
 simp![ue,KS,Ak,nr c 1 ⋯ ⋯,nr c 2 ⋯ ⋯,nr c 3 ⋯ ⋯,iQ (m _),Ee]
def Wc(ns:List Int)(s m:Int)(hn:ns.length<=63)(h0:0<=s)(h1:s<=60)(h2:1<=m)(h3:m<=200):
  ∃cs:List Int,(cs.length:Int)<=m/\yq [.lst (ns.map .int),.int s,.int m]=.ok (.ow (.lst (cs.map .int))):=by
 obtain⟨z0,hz0⟩:=GI ns 0 ⋯ ⋯
 by_cases hp:ns.getD (0:Int).toNat 0 % 2=0
 ·obtain⟨cs,hl,hc⟩:=DG (fg:=gC 5) (p:=λ_=> .ok true) (f:=At 2 mG #v[0,Ah Bq (Ab 1) (Ab 5)])
   (δ:=[some (.lst (ns.map .int)),some (.int s),some (.int m),some (.int (max 0 ((ns.length:Int) - s))),none,none]) (min m (max 0 ((ns.length:Int) - s))).toNat 0 (λk hk=>
    ⟨[some (.lst (ns.map .int)),some (.int s),some (.int m),some (.int (max 0 ((ns.length:Int) - s))),none,some (.int (0 + (k:Int)))],_,rfl,rfl,by
     simp![Ak,Ee,lj ns (s + (0 + (k:Int))) ()]
     rfl⟩)
  refine⟨cs,by rw[hl];lia, ?_⟩;have e1:=Ho (m:=1) (fi:=Aw Cn #v[Ag Gj #v[2,3]]) (fg:=gC 5) (p:=λ_=> .ok true) (f:=At 2 mG #v[0,Ah Bq (Ab 1) (Ab 5)])
   (δ:=[some (.lst (ns.map .int)),some (.int s),some (.int m),some (.int (max 0 ((ns.length:Int) - s))),none]) (ds:=Ca 0 (min m (max 0 ((ns.length:Int) - s))).toNat) (rs:=cs.map .int) (by
    simp![Ak,nt,lU (show -4611686018427387903<=min m (max 0 ((ns.length:Int) - s)) by lia) ()]) (by rw[oS];lia) hc
  simp![yq,xA,xO,xN,Ak,Cy,A3,gT,nu,lj ns 0 ⋯,Gy (show(0:Int) < 2 by decide),Ht,hp,e1]
 ·have pR:=λk:Int=>S3 k (show m≠0 by lia);have zZ:=λk:Int=>P4 k (show 0 < m by lia);have dw:∀k:Nat,∃z,pN [.lst (ns.map .int),.int (s + (0 + (k:Int)) % max 1 (max 0 ((ns.length:Int) - s)))]=.ok (.sh (.int z)):=λk=>by
   have b1:=S3 (0 + (k:Int)) (show max 1 (max 0 ((ns.length:Int) - s))≠0 by lia);have b2:=P4 (0 + (k:Int)) (show 0 < max 1 (max 0 ((ns.length:Int) - s)) by lia);exact GI ns _ () ()
  have b0:=pR z0;have b1:=zZ z0;obtain⟨cs,hl,hc⟩:=DG (fg:=gC 5) (p:=λ_=> .ok true) (f:=At 1 ue #v[At 2 mF #v[At 2 pN #v[0,Ah Bq (Ab 1) (Ah Dz (Ab 5) (Ag Fd #v[eC (.int 1),3]))],5]])
   (δ:=[some (.lst (ns.map .int)),some (.int s),some (.int m),some (.int (max 0 ((ns.length:Int) - s))),some (.int (min m (max (max 0 ((ns.length:Int) - s)) (1 + z0 % m)))),none]) (min m (max (max 0 ((ns.length:Int) - s)) (1 + z0 % m))).toNat 0 (λk hk=>by
    obtain⟨zc,hzc⟩:=dw k;obtain⟨zg,hzg⟩:=Wd (kQ zc (0 + (k:Int)));refine⟨[some (.lst (ns.map .int)),some (.int s),some (.int m),some (.int (max 0 ((ns.length:Int) - s))),some (.int (min m (max (max 0 ((ns.length:Int) - s)) (1 + z0 % m)))),some (.int (0 + (k:Int)))],zg,rfl,rfl, ?_⟩
    simp![Ak,Ee,nu,Gy (show 0 < max 1 (max 0 ((ns.length:Int) - s)) by lia),hzc,nr zc (0 + (k:Int)) () (),hzg])
  refine⟨cs,by rw[hl];lia, ?_⟩;have e1:=Ho (m:=1) (fi:=Aw Cn #v[4]) (fg:=gC 5) (p:=λ_=> .ok true) (f:=At 1 ue #v[At 2 mF #v[At 2 pN #v[0,Ah Bq (Ab 1) (Ah Dz (Ab 5) (Ag Fd #v[eC (.int 1),3]))],5]])
   (δ:=[some (.lst (ns.map .int)),some (.int s),some (.int m),some (.int (max 0 ((ns.length:Int) - s))),some (.int (min m (max (max 0 ((ns.length:Int) - s)) (1 + z0 % m))))]) (ds:=Ca 0 (min m (max (max 0 ((ns.length:Int) - s)) (1 + z0 % m))).toNat) (rs:=cs.map .int) (by
    simp![Ak,lU (show -4611686018427387903<=min m (max (max 0 ((ns.length:Int) - s)) (1 + z0 % m)) by lia) ()]) (by rw[oS];lia) hc
  simp![yq,xA,xO,xN,Ak,Cy,A3,gT,nu,nt,Ee,lj ns 0 ⋯,Gy (show(0:Int) < 2 by decide),Gy (show(0:Int) < m by lia),Ht,hp,hz0,e1]
def Ba{g h:FS}{Δ Δ':SE}(e:g Δ=.nx Δ'):Af g h Δ=h Δ':=by unfold Af;rw[e]
def De(l:List Nat):Str:=⟨l.toArray⟩
def rX(l:List Nat):(De l).cps.toList=l:=by simp[De]
def qR(l:List Nat):(De l).length=l.length:=by rw[UP,rX]
def Uj(a b:List Nat):De a ++ De b=De (a ++ b):=UQ (by rw[UO,rX,rX,rX])
noncomputable def iP:List Nat:=[97,98,99,100,101,102,103,104,105,106,107,108,109,110,111,112,113,114,115,116,117,118,119,120,121,122,48,49,50,51,52,53,54,55,56,57,45,95,32]
def Ui:(Str.ofString "abcdefghijklmnopqrstuvwxyz0123456789-_ ").cps.toList=iP:=by decide +kernel
def isKey(d:D):Prop:=(∃n:Int,d=.int n/\0<=n/\n<=999999999999999999)\/(∃l:List Nat,d=.str (De l)/\l.length<=11/\∀c∈l,c∈iP)
def isKey.flat{d:D}(h:isKey d):Bf d=true:=by
 rcases h with⟨n,rfl,_⟩|⟨l,rfl,_⟩ <;> rfl
def Rv(r:Int):∃c∈iP,Bw (.str "abcdefghijklmnopqrstuvwxyz0123456789-_ ") (.int (r % 39))=.ok (.sh (.str (De [c]))):=by
 have h0:=S3 r (show(39:Int)≠0 by decide);have h1:=P4 r (show(0:Int) < 39 by decide);have hl:(r % 39).toNat < iP.length:=by show(r % 39).toNat < 39;lia
 refine⟨iP[(r % 39).toNat],R1 hl,UM nofun ?_⟩;rw[Ui];exact EC h0 (B6 hl)
def DW(z:Int):∃d,isKey d/\sq [.int z]=.ok (.sh d):=by
 have d3:=ku (i:=z) (show(0:Int) < 3 by decide) ⋯;have m3:=Gy (i:=z) (show(0:Int) < 3 by decide);have p18:=Sx (WB (i:=10) (j:=18) ⋯ ⋯ ⋯ ⋯);have e18:(10:Int) ^ (18:Int).toNat=1000000000000000000:=by decide
 rw[e18]at p18;have:z % 3=0\/z % 3=2\/z % 3=1:=by lia
 rcases this with h|h|h
 ·refine⟨.int (z / 3 % 1000000000000000000),.inl ⟨_,rfl,by lia,by lia⟩, ?_⟩
  simp![sq,rE,Ak,d3,m3,Ht,h,p18,Gy (show(0:Int) < 1000000000000000000 by decide)]
 ·refine⟨.int (z / 3 % 50),.inl ⟨_,rfl,by lia,by lia⟩, ?_⟩;have n0:¬(2:Int)=0:=by decide
  simp![sq,rE,Ak,d3,m3,Ht,h,n0,Gy (show(0:Int) < 50 by decide)]
 ·have n0:¬(1:Int)=0:=by decide
  have n2:¬(1:Int)=2:=by decide
  have b0:=S3 (z / 3) (show(12:Int)≠0 by decide);have b1:=P4 (z / 3) (show(0:Int) < 12 by decide);obtain⟨Δ',e,l,r,a5,rfl,hl,hc⟩:=XY (gV 5) xy (λk Δ=>∃(l:List Nat) (r:Int) (a5:Sl),Δ= [.sh (.int z),.sh (.str "abcdefghijklmnopqrstuvwxyz0123456789-_ "),.sh (.int r),.sh (.str (De l)),.sh (.int (z / 3 % 12)),a5]/\l.length=k/\∀c∈l,c∈iP)
   (n:=(z / 3 % 12).toNat) (lo:=0) (Δ:=[.sh (.int z),.sh (.str "abcdefghijklmnopqrstuvwxyz0123456789-_ "),.sh (.int (z / 3)),.sh (.str ""),.sh (.int (z / 3 % 12)),.no]) ⟨[],z / 3,.no,rfl,rfl,λc hc=>absurd hc (by simp)⟩ (λk Δ hk hI=>by
   obtain⟨l,r,a5,rfl,hl,hc⟩:=hI;obtain⟨q,q0,q1,eq⟩:∃q:Int,0 < q/\q < 100/\Ah Bw (Ci #v[eC (.int 12),eC (.int 39)]) (Ag kY #v[Ah sT (Ab 5) (eC (.int 0))]) [some (.int z),some (.str "abcdefghijklmnopqrstuvwxyz0123456789-_ "),some (.int r),some (.str (De l)),some (.int (z / 3 % 12)),some (.int (0 + (k:Int)))]=.ok (.sh (.int q)):=by
    by_cases Nu:(0:Int) < 0 + (k:Int)
    ·refine⟨39,by decide,by decide, ?_⟩
     simp![Ak,kW,Nu,kY]
     rfl
    ·refine⟨12,by decide,by decide, ?_⟩
     simp![Ak,kW,Nu,kY]
     rfl
   obtain⟨c,AO,ec⟩:=Rv (r / q);have zk:(De l).length + (De [c]).length<=16777216:=by rw[qR,qR];simp;lia
   refine⟨_,rfl,[.sh (.int z),.sh (.str "abcdefghijklmnopqrstuvwxyz0123456789-_ "),.sh (.int (r / q)),.sh (.str (De (l ++ [c]))),.sh (.int (z / 3 % 12)),.sh (.int (0 + (k:Int)))],.inl ?_,_,_,_,rfl,by simp[hl], ?_⟩
   ·simp only[xy];rw[Ba (Δ':=[.sh (.int z),.sh (.str "abcdefghijklmnopqrstuvwxyz0123456789-_ "),.sh (.int (r / q)),.sh (.str (De l)),.sh (.int (z / 3 % 12)),.sh (.int (0 + (k:Int)))])]
    ·simp![Ak,Gy (show(0:Int) < 39 by decide),ec,Sy zk,Uj]
    ·have:=eq;unfold Aj;simp only[Bn,B1,O0,EB,List.set_cons_succ,List.set_cons_zero,gV]at this⊢;have e9:Ah Cw (Ab 2) (Ah Bw (Ci #v[eC (.int 12),eC (.int 39)]) (Ag kY #v[Ah sT (Ab 5) (eC (.int 0))])) [some (.int z),some (.str "abcdefghijklmnopqrstuvwxyz0123456789-_ "),some (.int r),some (.str (De l)),some (.int (z / 3 % 12)),some (.int (0 + (k:Int)))]=.ok (.sh (.int (r / q))):=by
      show((Ab 2 _).bind λa=>(Ah Bw _ _ _).bind λb=>Cw a.d b.d)=_;rw[this]
      simp![Ak,ku q0 (show q < 1361129467683753853853498429727072845824 by lia)]
     rw[e9]
   ·intro d hd;rcases F9.mp hd with hd|hd
    ·exact hc d hd
    ·have:d=c:=by simpa using hd
     rw[this];exact AO)
  refine⟨.str (De l),.inr ⟨l,rfl,by lia,hc⟩, ?_⟩
  simp![sq,rE,Ak,d3,m3,Ht,h,n0,n2,Gy (show(0:Int) < 12 by decide),Bt,lU (show -4611686018427387903<=z / 3 % 12 by lia) (),e]
def GH{a b:D}(ha:isKey a)(hb:isKey b):PO a b=true↔a=b:=by
 rcases ha with⟨n,rfl,_⟩|⟨l,rfl,_⟩ <;> rcases hb with⟨m,rfl,_⟩|⟨k,rfl,_⟩
 ·show(n ==m)=true↔_;rw[M5];exact⟨λh=>by rw[h],λh=>by injection h⟩
 ·show false=true↔_;exact⟨λh=>(by cases h),λh=>(by cases h)⟩
 ·show false=true↔_;exact⟨λh=>(by cases h),λh=>(by cases h)⟩
 ·show(De l ==De k)=true↔_;rw[M5];exact⟨λh=>by rw[h],λh=>by injection h⟩
def mem_iff{d:D}{ks:List D}(hd:isKey d)(hk:∀k∈ks,isKey k):Ds d ks=true↔d∈ks:=by
 unfold Ds;rw[W9];constructor
 ·rintro ⟨y,hy,h⟩
  rw[<-(GH (hk y hy) hd).mp h];exact hy
 ·intro h;exact⟨d,h,(GH hd hd).mpr rfl⟩
def Wb{ks:List D}(hk:∀k∈ks,isKey k):ks.all Bf=true:=F8.mpr λk h=>(hk k h).flat
def Wa{d:D}{ks:List D}(hd:isKey d)(hk:∀k∈ks,isKey k):inD true d (.lst ks)=.ok (.sh (.bl (!Ds d ks))):=by
 have h:(Bf d && ks.all Bf)=true:=by rw[hd.flat,Wb hk];rfl
 rcases hd with⟨n,rfl,_⟩|⟨l,rfl,_⟩
 ·exact if_pos h
 ·exact if_pos h
def Uh{d:D}(h:isKey d):PyData.canLay0 (Ef d)=true/\PyData.depth (Ef d)=0:=by
 rcases h with⟨n,rfl,_⟩|⟨l,rfl,_,hc⟩
 ·exact⟨rfl,rfl⟩
 ·refine⟨?_,rfl⟩;show(De l).cps.all (· < 0x110000)=true;rw[<-Array.all_toList,rX,F8];intro c h;have:c∈iP:=hc c h;have:∀c∈iP,c < 0x110000:=by decide
  exact E8 (this c (hc c h))
theorem rp:∀{ks:List D},(∀k∈ks,isKey k)->PyData.canLayAll0 (Fo ks)=true/\PyData.depthAll (Fo ks)=0
 | [],_=>⟨rfl,rfl⟩
 |k::ks,h=>by
  obtain⟨a1,a2⟩:=Uh (h k L4);obtain⟨b1,b2⟩:=rp λx hx=>h x (D5 _ hx);refine⟨?_, ?_⟩
  ·show(PyData.canLay0 (Ef k) && PyData.canLayAll0 (Fo ks))=true;rw[a1,b1];rfl
  ·show max (PyData.depth (Ef k)) (PyData.depthAll (Fo ks))=0;rw[a2,b2];rfl
def Iz{ks js:List D}(hk:∀k∈ks,isKey k)(hj:∀k∈js,isKey k):ka (.lst ks) (.lst js)=true:=by
 unfold ka;rw[C9,C9];refine⟨⟨(rp hk).1,(rp hj).1⟩,E8 ?_⟩;show PyData.depthAll (Fo ks) + 1<=60;rw[(rp hk).2];decide
def Ug{a b:D}(ha:isKey a)(hb:isKey b):PyData.eqv (Ef a) (Ef b)=true↔a=b:=by
 rcases ha with⟨n,rfl,_⟩|⟨l,rfl,_⟩ <;> rcases hb with⟨m,rfl,_⟩|⟨k,rfl,_⟩
 ·show(n ==m)=true↔_;rw[M5];exact⟨λh=>by rw[h],λh=>by injection h⟩
 ·show false=true↔_;exact⟨λh=>(by cases h),λh=>(by cases h)⟩
 ·show false=true↔_;exact⟨λh=>(by cases h),λh=>(by cases h)⟩
 ·show(De l ==De k)=true↔_;rw[M5];exact⟨λh=>by rw[h],λh=>by injection h⟩
theorem Iy:∀{ks js:List D},(∀k∈ks,isKey k)->(∀k∈js,isKey k)->(PyData.eqvAll (Fo ks) (Fo js)=true↔ks=js)
 | [],[],_,_=>⟨λ_=>rfl,λ_=>rfl⟩
 | [],_::_,_,_=>⟨λh=>(by cases h),λh=>(by cases h)⟩
 |_::_,[],_,_=>⟨λh=>(by cases h),λh=>(by cases h)⟩
 |k::ks,j::js,hk,hj=>by
  show(PyData.eqv (Ef k) (Ef j) && PyData.eqvAll (Fo ks) (Fo js))=true↔_;rw[C9,Ug (hk k L4) (hj j L4),Iy (λx hx=>hk x (D5 _ hx)) (λx hx=>hj x (D5 _ hx))];exact⟨λ⟨a,b⟩=>by rw[a,b],λh=>by injection h with a b;exact⟨a,b⟩⟩
def Ue(a b:List D):Dm (.lst a) (.lst b)=if ka (.lst a) (.lst b)=true then .ok (.sh (.bl (Hc (.lst a) (.lst b)))) else .no:=rfl
def GG(a b:List D):fP (.lst a) (.lst b)=if ka (.lst a) (.lst b)=true then .ok (.sh (.bl (!Hc (.lst a) (.lst b)))) else .no:=rfl
def Iw{ks js:List D}(hk:∀k∈ks,isKey k)(hj:∀k∈js,isKey k):∃b:Bool,(b=true↔ks=js)/\Dm (.lst ks) (.lst js)=.ok (.sh (.bl b))/\fP (.lst ks) (.lst js)=.ok (.sh (.bl (!b))):=by
 refine⟨Hc (.lst ks) (.lst js),Iy hk hj, ?_, ?_⟩
 ·rw[Ue,if_pos (Iz hk hj)]
 ·rw[GG,if_pos (Iz hk hj)]
def Ud(ns:List Int)(s m:Int)(hn:ns.length<=63)(h0:0<=s)(h1:s<=60)(h2:1<=m)(h3:m<=200):
  ∃ks:List D,ks≠ []/\(ks.length:Int)<=m/\(∀k∈ks,isKey k)/\ks.Nodup/\yk [.lst (ns.map .int),.int s,.int m]=.ok (.ow (.lst ks)):=by
 obtain⟨cs,hc,ec⟩:=Wc ns s m hn h0 h1 h2 h3;obtain⟨Δ',e,ks,a4,a5,rfl,hl,hk,hd⟩:=pJ (gV 4) MM (λk Δ=>∃(ks:List D) (a4 a5:Sl),Δ= [.sh (.lst (ns.map .int)),.sh (.int s),.sh (.int m),.ow (.lst ks),a4,a5]/\ks.length<=k/\(∀k∈ks,isKey k)/\ks.Nodup)
  (ds:=cs.map .int) (Δ:=[.sh (.lst (ns.map .int)),.sh (.int s),.sh (.int m),.ow (.lst []),.no,.no]) ⟨[],.no,.no,rfl,A9 _,λk hk=>absurd hk (by simp),R5⟩ (λk d Δ hk hI=>by
  obtain⟨ks,a4,a5,rfl,hl,Nt,hd⟩:=hI;rw[B3]at hk;cases q:cs[k]? with
  |none=>rw[q]at hk;cases hk
  |some c=>
   rw[q]at hk;cases hk;have Pe:k < cs.length:=(B4.mp q).1;obtain⟨d,AM,ed⟩:=DW c;have hl2:ks.length < 16777216:=by lia
   have Nn:=Wa AM Nt;cases hm:Ds d ks with
   |true=>
    refine⟨_,rfl,[.sh (.lst (ns.map .int)),.sh (.int s),.sh (.int m),.ow (.lst ks),.sh (.int c),.sh d],.inl ?_,ks,_,_,rfl,by lia,Nt,hd⟩;rw[hm]at Nn
    simp![MM,Ak,ed,Nn]
   |false=>
    refine⟨_,rfl,[.sh (.lst (ns.map .int)),.sh (.int s),.sh (.int m),.ow (.lst (ks ++ [d])),.sh (.int c),.sh d],.inl ?_,ks ++ [d],_,_,rfl,by simp;lia, ?_, ?_⟩
    ·rw[hm]at Nn
     simp![MM,Ak,ed,Nn,Em,hl2]
    ·intro x hx;rcases F9.mp hx with hx|hx
     ·exact Nt x hx
     ·have:x=d:=by simpa using hx
      rw[this];exact AM
    ·rw[V7];refine⟨hd,by simp,λa ha b hb=> ?_⟩;have:b=d:=by simpa using hb
     subst this
     rintro rfl
     rw[(mem_iff AM Nt).mpr ha]at hm;cases hm)
 rw[A3]at hl;obtain⟨b,hb,eb,_⟩:=Iw hk (js:=[]) (λk hk=>absurd hk (by simp))
 by_cases hz:ks= []
 ·obtain⟨d,AM,ed⟩:=DW (ns.getD (0:Int).toNat 0 / 2);refine⟨[d],by simp,by simp;lia,λx hx=> ?_,by simp, ?_⟩
  ·have:x=d:=by simpa using hx
   rw[this];exact AM
  ·have:b=true:=hb.mpr hz;subst this
   simp![yk,xo,Ak,Bt,ec,e,eb,lj ns 0 ⋯,ku (show(0:Int) < 2 by decide) ⋯,ed]
 ·refine⟨ks,hz,by lia,hk,hd, ?_⟩;have:b=false:=by
   cases b with
   |true=>exact absurd (hb.mp rfl) hz
   |false=>rfl
  subst this
  simp![yk,xo,Ak,Bt,ec,e,eb]
def yn(c:Nat):Nat:=iP.idxOf c
def DV:∀c∈iP,Builtin.Str.occurrences "abcdefghijklmnopqrstuvwxyz0123456789-_ " ⟨#[c]⟩ 0 (Str.length "abcdefghijklmnopqrstuvwxyz0123456789-_ ") 1= [yn c]:=by decide +kernel
def eQ(l:List Nat):Int:=l.foldl (λa c=>40 * a + (yn c:Int) + 1) 0
def KH(l:List Nat)(k c:Nat)(h:l[k]? =some c):eQ (l.take (k + 1))=40 * eQ (l.take k) + (yn c:Int) + 1:=by
 unfold eQ;rw[Z3,h,List.foldl_append];rfl
def Ax:D->Int
 | .int n=>2 * n
 | .str x=>2 * eQ x.cps.toList + 1
 |_=>0
def VZ:∀c∈iP,Txt.find "abcdefghijklmnopqrstuvwxyz0123456789-_ " ⟨#[c]⟩=((yn c:Nat):Int):=by decide +kernel
def Uc{c:Nat}(h:c∈iP):ni (.str "abcdefghijklmnopqrstuvwxyz0123456789-_ ") [.str ⟨#[c]⟩]=.ok (.sh (.int (yn c:Int))):=by
 show R.ok (W.sh (D.int (Txt.find "abcdefghijklmnopqrstuvwxyz0123456789-_ " ⟨#[c]⟩)))=_;rw[VZ c h]
def VY{c:Nat}(h:c∈iP):lu (.str "abcdefghijklmnopqrstuvwxyz0123456789-_ ") [.str ⟨#[c]⟩]=.ok (.sh (.int (yn c:Int))):=by
 show(match Builtin.Str.occurrences "abcdefghijklmnopqrstuvwxyz0123456789-_ " ⟨#[c]⟩ 0 (Str.length "abcdefghijklmnopqrstuvwxyz0123456789-_ ") 1 with
  |i::_=>R.ok (W.sh (D.int (i:Nat)))
  | []=>R.no)=_
 rw[DV c h]
def Ru{c:Nat}(h:c∈iP):inD false (.str ⟨#[c]⟩) (.str "abcdefghijklmnopqrstuvwxyz0123456789-_ ")=.ok (.sh (.bl true)):=by
 show R.ok (W.sh (D.bl (!(Builtin.Str.occurrences "abcdefghijklmnopqrstuvwxyz0123456789-_ " ⟨#[c]⟩ 0 (Str.length "abcdefghijklmnopqrstuvwxyz0123456789-_ ") 1).isEmpty)))=_;rw[DV c h];rfl
def rW(l:List Nat):jM (De l)=l.map λc=> .str ⟨#[c]⟩:=by unfold jM;rw[rX]
def VX(l:List Nat)(hl:l.length<=11)(hc:∀c∈l,c∈iP):nF [.str (De l)]=.ok (.sh (.int (eQ l))):=by
 obtain⟨Δ',e,a2,rfl⟩:=pJ (gV 2) wQ (λk Δ=>∃a2,Δ= [.sh (.str (De l)),.sh (.int (eQ (l.take k))),a2]) (ds:=jM (De l)) (Δ:=[.sh (.str (De l)),.sh (.int 0),.no]) ⟨.no,rfl⟩ (λk d Δ hk hI=>by
  obtain⟨a2,rfl⟩:=hI;rw[rW,B3]at hk;cases q:l[k]? with
  |none=>rw[q]at hk;cases hk
  |some c=>
   rw[q]at hk;cases hk;refine⟨_,rfl,[.sh (.str (De l)),.sh (.int (eQ (l.take (k + 1)))),.sh (.str ⟨#[c]⟩)],.inl ?_,_,rfl⟩;rw[KH l k c q]
   simp![wQ,Ak,iQ (eU (show(-18446744073709551616:Int) < 40 by decide) ⋯),P0,Uc (hc c (N0 q)),Ee])
 rw[rW,A3,List.take_length]at e
 simp![nF,GL,Ak,Bt,rW,e]
def Jt{d:D}(h:isKey d):tJ [d]=.ok (.sh (.bl true)):=by
 rcases h with⟨n,rfl,h0,h1⟩|⟨l,rfl,hl,hc⟩
 ·simp![tJ,wt,Ak,gU,gK,h0,h1]
 ·have hx:(De l).length<=16777216:=by rw[qR];lia
  have ec:=lX (fg:=gC 1) (f:=MW) (δ:=[some (.str (De l)),none]) (λ_=> .bl true) (jM (De l)) (λd hd=>by
   rw[rW]at hd;obtain⟨c,md,rfl⟩:=D8.mp hd;exact⟨_,.sh (.bl true),rfl,by simp![MW,Ak,Ru (hc c md)],rfl⟩)
  have NJ:=Ho (m:=1) (fi:=Bo (Ab 0)) (fg:=gC 1) (p:=λ_=> .ok true) (f:=MW) (δ:=[some (.str (De l))]) (by simp![Ak]) (by rw[rW,A3];lia) ec;have ha:nM [.lst ((jM (De l)).map λ_=>D.bl true)]=.ok (.sh (.bl true)):=by
   have hb:∀l:List D,lx (l.map λ_=>D.bl true)=some (l.map λ_=>true):=by
    intro l
    induction l with
    |nil=>rfl
    |cons a l ih=>show(lx (l.map λ_=>D.bl true)).map (true:: ·)=_;rw[ih];rfl
   unfold nM;simp only[hb]
   congr 3
   rw[F8];intro b cJ;obtain⟨_,_,rfl⟩:=D8.mp cJ;rfl
  have iu:((De l).length:Int)<=11:=by rw[qR];lia
  have et:zw [.str (De l)]=.ok (.sh (.bl true)):=by
   simp![zw,LN,Ak,WA hx,gK,iu,NJ,ha]
  simp![tJ,wt,Ak,et]
def nQ{d:D}(h:isKey d):mw [d]=.ok (.sh (.int (Ax d))):=by
 have hk:=Jt h;have m2:=λj:Int=>iQ (eU (j:=j) (show(-18446744073709551616:Int) < 2 by decide) ⋯);rcases h with⟨n,rfl,h0,h1⟩|⟨l,rfl,hl,hc⟩
 ·simp![mw,vS,Ak,hk,m2,Ax]
 ·simp![mw,vS,Ak,hk,VX l hl hc,m2,Ee,Ax,rX]
def Lu{d:D}(h:isKey d):mL [d]=.ok (.sh (.int (Ax d))):=by
 have m2:=λj:Int=>iQ (eU (j:=j) (show(-18446744073709551616:Int) < 2 by decide) ⋯);rcases h with⟨n,rfl,h0,h1⟩|⟨l,rfl,hl,hc⟩
 ·simp![mL,xx,Ak,m2,Ax]
 ·obtain⟨Δ',e,a2,rfl⟩:=pJ (gV 2) xM (λk Δ=>∃a2,Δ= [.sh (.str (De l)),.sh (.int (eQ (l.take k))),a2]) (ds:=jM (De l)) (Δ:=[.sh (.str (De l)),.sh (.int 0),.no]) ⟨.no,rfl⟩ (λk d Δ hk hI=>by
   obtain⟨a2,rfl⟩:=hI;rw[rW,B3]at hk;cases q:l[k]? with
   |none=>rw[q]at hk;cases hk
   |some c=>
    rw[q]at hk;cases hk;refine⟨_,rfl,[.sh (.str (De l)),.sh (.int (eQ (l.take (k + 1)))),.sh (.str ⟨#[c]⟩)],.inl ?_,_,rfl⟩;rw[KH l k c q,Int.mul_comm 40]
    simp![xM,Ak,iQ (lr (show(-18446744073709551616:Int) < 40 by decide) ⋯),P0,VY (hc c (N0 q)),Ee])
  rw[rW,A3,List.take_length]at e
  simp![mL,xx,Ak,Bt,rW,e,m2,Ee,Ax,rX]
noncomputable def Ck(n s z:Int):Int:=
 (((1 + (1103515245 * s + 12345) % (2305843009213693951 - 1)) * n + (69069 * s * s + 7 * s) % 2305843009213693951) % 2305843009213693951 + ((1 + (1103515245 * s + 12345) % (2305843009213693951 - 1)) * n + (69069 * s * s + 7 * s) % 2305843009213693951) % 2305843009213693951 / 2147483648) % z
def lW(n s z:Int)(h1: -18446744073709551616 < s)(h2:s < 18446744073709551616)(hz:0 < z):oH [.int n,.int s,.int z]=.ok (.sh (.int (Ck n s z)))/\kJ [.int n,.int s,.int z]=.ok (.sh (.int (Ck n s z))):=by
 have n0:¬z=0:=by lia
 have f0:=S3 (1103515245 * s + 12345) (show(2305843009213693951 - 1:Int)≠0 by decide);have f1:=P4 (1103515245 * s + 12345) (show(0:Int) < 2305843009213693951 - 1 by decide);have a1:=iQ (eU (i:=1103515245) (j:=s) ⋯ ⋯);have a2:=iQ (eU (i:=69069) (j:=s) ⋯ ⋯);have a3:=iQ (lr (i:=69069 * s) (j:=s) h1 h2);have a4:=iQ (eU (i:=7) (j:=s) ⋯ ⋯);have a5:=iQ (eU (i:=1 + (1103515245 * s + 12345) % (2305843009213693951 - 1)) (j:=n) () ());have c1:=λi:Int=>Gy (i:=i) (show(0:Int) < 2305843009213693951 - 1 by decide);have c2:=λi:Int=>Gy (i:=i) (show(0:Int) < 2305843009213693951 by decide);have c3:=λi:Int=>Gy (i:=i) hz;have c4:=λi:Int=>ku (i:=i) (show(0:Int) < 2147483648 by decide) ⋯;refine⟨?_, ?_⟩
 ·simp![oH,GN,Ak,Ht,n0,gT,Ee,a1,a2,a3,a4,c1,c2,a5,c4,c3]
  rfl
 ·simp![kJ,KQ,Ak,gT,Ee,a1,a2,a3,a4,c1,c2,a5,c4,c3]
  rfl
end My
namespace L3
open PySem L2
def outF:Fl->Bool
 | .ex _ _=>true
 | .rt _=>true
 | .no=>true
 |_=>false
def VW(fg:FG)(g:FS)(I:Nat->SE->Prop){ds:List D}{Δ:SE}{n:Nat}{r:Fl}{d:D}(h0:I 0 Δ)(hd:ds[n]? =some d)
  (step:∀k d Δ,k < n->ds[k]? =some d->I k Δ->∃Δ1,fg d Δ=.ok Δ1/\∃Δ2,(g Δ1=.nx Δ2\/g Δ1=.ct Δ2)/\I (k + 1) Δ2)
  (last:∀Δ,I n Δ->∃Δ1,fg d Δ=.ok Δ1/\g Δ1=r) (hr:outF r=true):Cf fg g ds Δ=r:=by
 have all:∀(m k:Nat) (Δ:SE),k + m=n->I k Δ->Cf fg g (ds.drop k) Δ=r:=by
  intro m
  induction m with
  |zero=>
   intro k Δ e h;have:k=n:=by lia
   subst this;have hl:k < ds.length:=(B4.mp hd).1;obtain⟨x,d1,d2⟩:=lL hl;rw[hd]at d1;cases d1;obtain⟨Δ1,e1,e2⟩:=last Δ h;rw[d2];show(match fg d Δ with
    | .ok Δ1=>(match g Δ1 with
     | .nx Δ2=>Cf fg g (ds.drop (k + 1)) Δ2
     | .ct Δ2=>Cf fg g (ds.drop (k + 1)) Δ2
     | .bk Δ2=> .nx Δ2
     |r=>r)
    | .ex _=> .no
    | .no=> .no)=_
   rw[e1];simp only[e2];cases r with
   |nx _=>cases hr
   |ct _=>cases hr
   |bk _=>cases hr
   |_=>rfl
  |succ m ih=>
   intro k Δ e h;have hl:n < ds.length:=(B4.mp hd).1;obtain⟨x,d1,d2⟩:=lL (l:=ds) (i:=k) ();obtain⟨Δ1,e1,Δ2,e2,h2⟩:=step k x Δ () d1 h;have e3:=ih (k + 1) Δ2 () h2;rw[d2];show(match fg x Δ with
    | .ok Δ1=>(match g Δ1 with
     | .nx Δ2=>Cf fg g (ds.drop (k + 1)) Δ2
     | .ct Δ2=>Cf fg g (ds.drop (k + 1)) Δ2
     | .bk Δ2=> .nx Δ2
     |r=>r)
    | .ex _=> .no
    | .no=> .no)=_
   rw[e1];rcases e2 with e2|e2
   ·simp only[e2];exact e3
   ·simp only[e2];exact e3
 have:=all n 0 Δ () h0
 rwa[List.drop_zero]at this
end L3
namespace My
open PySem L2 L3
def iW:D->Ap
 | .int i=> .inl i
 | .str x=> .inr x
 |_=> .inl 0
def VV{d:D}(h:isKey d):Ec d=some (iW d):=by
 rcases h with⟨n,rfl,_⟩|⟨l,rfl,_⟩ <;> rfl
def GF{a b:D}(ha:isKey a)(hb:isKey b)(e:iW a=iW b):a=b:=by
 rcases ha with⟨n,rfl,_⟩|⟨l,rfl,_⟩ <;> rcases hb with⟨m,rfl,_⟩|⟨k,rfl,_⟩
 ·injection e with e;rw[e]
 ·cases e
 ·cases e
 ·injection e with e;rw[e]
def vO{ks:List D}(hk:∀k∈ks,isKey k):qa [.lst ks]=.ok (.sh .aJ):=by
 obtain⟨Δ',e,a1,a2,rfl⟩:=pJ (yJ 1 2) OE (λk Δ=>∃a1 a2,Δ= [.sh (.lst ks),a1,a2]) (ds:=jL 0 ks) (Δ:=[.sh (.lst ks),.no,.no]) ⟨_,_,rfl⟩ (λk d Δ hd hI=>by
  obtain⟨a1,a2,rfl⟩:=hI;obtain⟨d',e1,rfl⟩:=oe hd;refine⟨_,rfl,_,.inl ?_,.sh (.int ((0 + k:Nat):Int)),.sh d',rfl⟩
  simp![OE,Ak,Jt (hk d' (N0 e1))])
 simp![qa,Mm,Ak,Bt,kX,vv,e]
def fN(ks:List D):List (Ap×D):=ks.map λd=>(iW d,.bl true)
def Iv{ks:List D}{d:D}(hk:∀k∈ks,isKey k)(hd:isKey d):Fb (fN ks) (iW d)=true↔d∈ks:=by
 unfold Fb Dj fN;rw[Z2,List.find?_isSome];constructor
 ·rintro ⟨p,hp,e⟩
  obtain⟨x,hx,rfl⟩:=D8.mp hp;have:iW x=iW d:=by simpa using e
  rw[<-GF (hk x hx) hd this];exact hx
 ·intro h;exact⟨(iW d,.bl true),D8.mpr ⟨d,h,rfl⟩,by simp⟩
def Iu{ks:List D}{d:D}(hk:∀k∈ks,isKey k)(hd:isKey d)(n:d∉ks):Ga (fN ks) (iW d) (.bl true)=fN (ks ++ [d]):=by
 unfold Ga;have h:((fN ks).any λkv=>decide (kv.1=iW d))=false:=by
  cases q:(fN ks).any λkv=>decide (kv.1=iW d) with
  |false=>rfl
  |true=>
   exfalso;obtain⟨p,hp,e⟩:=W9.mp q;obtain⟨x,hx,rfl⟩:=D8.mp hp;have:iW x=iW d:=by simpa using e
   have:=GF (hk x hx) hd this;subst this;exact n hx
 rw[h];unfold fN;rw[E7];rfl
def ZA{ks:List D}{l:List D}{d:D}{k:Nat}(hl:∀x∈l,isKey x)(hd:isKey d)(n:d∉l)(hn:l.length < 16777216):
  zJ [.sh (.lst ks),.ow (.aD (fN l)),.sh (.int (k:Int)),.sh d]=.nx [.sh (.lst ks),.ow (.aD (fN (l ++ [d]))),.sh (.int (k:Int)),.sh d]:=by
 have h:Fb (fN l) (iW d)=false:=by
  cases q:Fb (fN l) (iW d) with
  |false=>rfl
  |true=>exact absurd ((Iv hl hd).mp q) n
 have hs:(fN l).length < 16777216:=by unfold fN;rw[A3];exact hn
 simp![zJ,Ak,sG,VV hd,h,Er,hs,Iu hl hd n]
def XH{ks:List D}(hk:∀k∈ks,isKey k)(nd:ks.Nodup)(hl:ks.length < 16777216):zv [.lst ks]=.ok (.sh .aJ):=by
 obtain⟨Δ',e,a2,a3,rfl⟩:=pJ (yJ 2 3) zJ (λk Δ=>∃a2 a3,Δ= [.sh (.lst ks),.ow (.aD (fN (ks.take k))),a2,a3]) (ds:=jL 0 ks) (Δ:=[.sh (.lst ks),.ow (.aD []),.no,.no]) ⟨_,_,rfl⟩ (λk d Δ hd hI=>by
  obtain⟨a2,a3,rfl⟩:=hI;obtain⟨d',e1,rfl⟩:=oe hd;have cR:k < ks.length:=(B4.mp e1).1;have nin:d'∉ks.take k:=λhm=>by
   obtain⟨j,hj,e⟩:=List.getElem_of_mem hm;rw[Z9]at hj;rw[List.getElem_take]at e;have:=P6.mp nd j k () cR ();rw[e]at this;rw[B6 cR]at e1;injection e1 with e1
   exact this e1.symm
  refine⟨_,rfl,_,.inl (ZA (k:=0 + k) (λx hx=>hk x (List.mem_of_mem_take hx)) (hk d' (N0 e1)) nin (by rw[Z9];lia)),.sh (.int ((0 + k:Nat):Int)),.sh d', ?_⟩;rw[Z3,e1];rfl)
 have e':Cf (yJ 2 3) zJ (jL 0 ks) [.sh (.lst ks),.ow (.aD []),.no,.no]=_:=e
 simp![zv,LM,Ak,Eo,Bt,kX,vv,e']
def GB{ks:List D}(hk:∀k∈ks,isKey k)(nd:ks.Nodup)(h1:1<=ks.length)(h2:ks.length<=200):sE [.lst ks]=.ok (.sh (.int (ks.length:Int))):=by
 have c1:¬(ks.length:Int)=0:=by lia
 have c2:¬(200:Int) < (ks.length:Int):=by lia
 simp![sE,KO,Ak,Cy,Ht,c1,kW,c2,vO hk,XH hk nd ()]
def jY(n s z:Int)(hz:0 < z):0<=Ck n s z/\Ck n s z < z:=⟨S3 _ (),P4 _ hz⟩
def Hh{fg:FG}{g:FS}{d:D}{ds:List D}{Δ Δ1 Δ2:SE}(h1:fg d Δ=.ok Δ1)(h2:g Δ1=.nx Δ2):Cf fg g (d::ds) Δ=Cf fg g ds Δ2:=by
 rw[Cf];simp only[h1,h2]
def ve{fg:FG}{g:FS}{d:D}{ds:List D}{Δ Δ1:SE}{w:W}(h1:fg d Δ=.ok Δ1)(h2:g Δ1=.rt w):Cf fg g (d::ds) Δ=.rt w:=by
 rw[Cf];simp only[h1,h2]
def Rt{fg:FG}{g:FS}{d:D}{ds:List D}{Δ Δ1 Δ2:SE}{x:Xn}(h1:fg d Δ=.ok Δ1)(h2:g Δ1=.ex x Δ2):Cf fg g (d::ds) Δ=.ex x Δ2:=by
 rw[Cf];simp only[h1,h2]
def Bs(n:Nat)(s x:Int):Int:=Ck x (s + 1) (n:Int)
def gQ{n:Nat}(s x:Int)(h1:1<=n):0<=Bs n s x/\Bs n s x < (n:Int):=jY _ _ _ ()
def Bk(T:List Int):List (Ap×D):=fN (T.map .int)
def cA(n:Nat)(T:List Int):Prop:=∀r∈T,0<=r/\r < (n:Int)
def qQ{r:Int}(h:0<=r)(h2:r < 1000000):isKey (.int r):=.inl ⟨r,rfl,h,by lia⟩
def cA.keys{n:Nat}{T:List Int}(h:cA n T)(hn:n<=1000):∀k∈T.map D.int,isKey k:=λk hk=>by
 obtain⟨r,hr,rfl⟩:=D8.mp hk;have:=h r hr;exact qQ this.1 ()
def iB{r:Int}{T:List Int}:D.int r∈T.map D.int↔r∈T:=⟨λh=>by obtain⟨x,hx,e⟩:=D8.mp h;cases e;exact hx,λh=>T5 h⟩
def wO{n:Nat}{T:List Int}{r:Int}(h:cA n T)(hn:n<=1000)(hr:0<=r/\r < (n:Int)):Fb (Bk T) (.inl r)=decide (r∈T):=by
 have:=Iv (h.keys hn) (qQ hr.1 ());rw[iB]at this;rw[P8,V6];exact this
def wN{n:Nat}{T:List Int}{r:Int}(h:cA n T)(hn:n<=1000)(hr:0<=r/\r < (n:Int))(no:r∉T):Ga (Bk T) (.inl r) (.bl true)=Bk (T ++ [r]):=by
 have:=Iu (h.keys hn) (qQ hr.1 ()) (λz=>no (iB.mp z));unfold Bk;rw[E7];exact this
def wM(T:List Int):(Bk T).length=T.length:=by unfold Bk fN;rw[A3,A3]
def nE(kvs:List (Ap×D))(r:Int):sG false (.int r) (.aD kvs)=.ok (.sh (.bl (Fb kvs (.inl r)))):=rfl
def cA.snoc{n:Nat}{T:List Int}{r:Int}(h:cA n T)(hr:0<=r/\r < (n:Int)):cA n (T ++ [r]):=λx hx=>by
 rcases F9.mp hx with hx|hx
 ·exact h x hx
 ·rw[J9.mp hx];exact hr
noncomputable def El(T rs:List Int):Bool:=decide (rs.Nodup/\∀r∈rs,r∉T)
def xm(n:Nat)(s x:Int)(s0:0<=s)(s1:s<=1000)(h1:1<=n):tP [.int x,.int s,.int (n:Int)]=.ok (.sh (.int (Bs n s x))):=by
 simp![tP,Jx,Ak,Ee,(lW x (s + 1) (n:Int) () () ()).1,Bs]
section
variable{n:Nat}{T:List Int}{s:Int}{L:D}
theorem Ir(h1:1<=n)(hn:n<=1000)(hT:cA n T)(s0:0<=s)(s1:s<=1000):∀(X O:List Int) (a5 a6:Sl),cA n O->O.length + X.length < 100000->
  (((X.map (Bs n s)).Nodup/\(∀r∈X.map (Bs n s),r∉T/\r∉O))/\∃O' b5 b6,Cf (gV 5) ph (X.map .int) [.sh L,.sh (.int s),.sh (.int (n:Int)),.sh (.aD (Bk T)),.ow (.aD (Bk O)),a5,a6]=.nx [.sh L,.sh (.int s),.sh (.int (n:Int)),.sh (.aD (Bk T)),.ow (.aD (Bk O')),b5,b6])\/
  (¬((X.map (Bs n s)).Nodup/\(∀r∈X.map (Bs n s),r∉T/\r∉O))/\Cf (gV 5) ph (X.map .int) [.sh L,.sh (.int s),.sh (.int (n:Int)),.sh (.aD (Bk T)),.ow (.aD (Bk O)),a5,a6]=.rt (.sh (.bl false)))
 | [],O,a5,a6,_,_=> .inl ⟨⟨R5,λr hr=>by simp at hr⟩,O,a5,a6,rfl⟩
 |x::X,O,a5,a6,hO,hl=>by
  have hr:=gQ s x h1;have e1:=xm n s x s0 s1 h1;have NA:=wO hT hn hr;have hO':=wO hO hn hr;simp only[B5]at hl;have sM:gV 5 (.int x) [.sh L,.sh (.int s),.sh (.int (n:Int)),.sh (.aD (Bk T)),.ow (.aD (Bk O)),a5,a6]=.ok [.sh L,.sh (.int s),.sh (.int (n:Int)),.sh (.aD (Bk T)),.ow (.aD (Bk O)),.sh (.int x),a6]:=rfl
  by_cases c:Bs n s x∈T\/Bs n s x∈O
  ·refine .inr ⟨λz=> ?_, ?_⟩
   ·have:=z.2 (Bs n s x) (by simp);rcases c with c|c
    ·exact this.1 c
    ·exact this.2 c
   ·refine ve sM ?_;rcases c with c|c
    ·simp![ph,Ak,e1,nE,NA,c,F6]
    ·by_cases c2:Bs n s x∈T
     ·simp![ph,Ak,e1,nE,NA,c2,F6]
     ·simp![ph,Ak,e1,nE,NA,hO',c,c2,F6,K5]
  ·have c1:Bs n s x∉T:=λz=>c (.inl z);have c2:Bs n s x∉O:=λz=>c (.inr z);have hz:(Bk O).length < 16777216:=by rw[wM];lia
   have hb:ph [.sh L,.sh (.int s),.sh (.int (n:Int)),.sh (.aD (Bk T)),.ow (.aD (Bk O)),.sh (.int x),a6]=.nx [.sh L,.sh (.int s),.sh (.int (n:Int)),.sh (.aD (Bk T)),.ow (.aD (Bk (O ++ [Bs n s x]))),.sh (.int x),.sh (.int (Bs n s x))]:=by
    simp![ph,Ak,e1,nE,NA,hO',c1,c2,K5]
    simp![Er,Ak,Ec,hz,wN hO hn hr c2,if_true]
   have nd:((x::X).map (Bs n s)).Nodup/\(∀r∈(x::X).map (Bs n s),r∉T/\r∉O)↔(X.map (Bs n s)).Nodup/\(∀r∈X.map (Bs n s),r∉T/\r∉O ++ [Bs n s x]):=by
    rw[B1,J8];constructor
    ·rintro ⟨⟨z1,z2⟩,z3⟩
     refine⟨z2,λr hr=>⟨(z3 r (.tail _ hr)).1,λq=> ?_⟩⟩;rcases F9.mp q with q|q
     ·exact(z3 r (.tail _ hr)).2 q
     ·rw[J9.mp q]at hr;exact z1 hr
    ·rintro ⟨z2,z3⟩
     refine⟨⟨λq=>(z3 _ q).2 (by simp),z2⟩,λr hr=> ?_⟩;rcases B8.mp hr with rfl|hr
     ·exact⟨c1,c2⟩
     ·exact⟨(z3 r hr).1,λq=>(z3 r hr).2 (by simp[q])⟩
   rw[nd,B1 (f:=D.int),Hh sM hb];exact Ir h1 hn hT s0 s1 X (O ++ [Bs n s x]) _ _ (hO.snoc hr) (by rw[A7,M7];lia)
def Y'(h1:1<=n)(hn:n<=1000)(hT:cA n T)(s0:0<=s)(s1:s<=1000)(X:List Int)(hX:X.length<=1000):MH [.lst (X.map .int),.int s,.int (n:Int),.aD (Bk T)]=.ok (.sh (.bl (El T (X.map (Bs n s))))):=by
 have q1:Aj 4 [] Eo (Av 7 [.lst (X.map .int),.int s,.int (n:Int),.aD (Bk T)])=.nx [.sh (.lst (X.map .int)),.sh (.int s),.sh (.int (n:Int)),.sh (.aD (Bk T)),.ow (.aD (Bk [])),.no,.no]:=rfl;have hf:∀Δ',Cf (gV 5) ph (X.map .int) [.sh (.lst (X.map .int)),.sh (.int s),.sh (.int (n:Int)),.sh (.aD (Bk T)),.ow (.aD (Bk [])),.no,.no]=Δ'->Bt [0] (Bo (Ab 0)) (gV 5) ph [.sh (.lst (X.map .int)),.sh (.int s),.sh (.int (n:Int)),.sh (.aD (Bk T)),.ow (.aD (Bk [])),.no,.no]=Δ':=λ Δ' e=>by
  rw[<-e];simp![Bt,Ak]
 refine fR ?_;unfold KL;rw[Ba q1];rcases Ir (L:=.lst (X.map .int)) h1 hn hT s0 s1 X [] .no .no (λ_ h=>by simp at h) (by simp;lia) with⟨z,O',b5,b6,e⟩|⟨z,e⟩
 ·have:El T (X.map (Bs n s))=true:=E8 ⟨z.1,λr hr=>(z.2 r hr).1⟩;rw[this,Ba (hf _ e)];rfl
 ·have:El T (X.map (Bs n s))=false:=K2 λy=>z ⟨y.1,λr hr=>⟨y.2 r hr,by simp⟩⟩;rw[this];unfold Af;rw[hf _ e]
end
def nD(l:List Int):jK (l.map .int)=some l:=by
 have e:=Ju (λi:Int=>i) l
 rwa[V8]at e
def wq{l:List Int}(h:l.length<=4000):qW (.lst (l.map .int))=.ok (.sh (.int (met l).length)):=by
 unfold qW;simp only[nD,if_pos h]
theorem Iq:∀(l zn:List Int),(l.foldl PyProof.Rows.step_dedup zn).length<=zn.length + l.length/\((l.foldl PyProof.Rows.step_dedup zn).length=zn.length + l.length↔l.Nodup/\∀x∈l,x∉zn)
 | [],zn=>⟨A9 _,λ_=>⟨R5,λx hx=>by simp at hx⟩,λ_=>rfl⟩
 |x::l,zn=>by
  rw[Qu];obtain⟨i1,i2⟩:=Iq l (PyProof.Rows.step_dedup zn x)
  by_cases c:zn.any (· ==x)=true
  ·have e:PyProof.Rows.step_dedup zn x=zn:=by unfold PyProof.Rows.step_dedup;rw[if_pos c]
   have hx:x∈zn:=by
    obtain⟨y,hy,e2⟩:=W9.mp c;rw[<-eq_of_beq e2];exact hy
   rw[e]at i1 i2⊢;simp only[B5];exact⟨by lia,λz=>by lia,λz=>absurd hx (z.2 x (by simp))⟩
  ·have e:PyProof.Rows.step_dedup zn x=zn ++ [x]:=by unfold PyProof.Rows.step_dedup;rw[if_neg c]
   have hx:x∉zn:=λhx=>c (W9.mpr ⟨x,hx,by simp⟩);rw[e]at i1 i2⊢;simp only[A7,B5,K3]at i1 i2⊢;refine⟨by lia,λz=> ?_,λz=> ?_⟩
   ·obtain⟨j1,j2⟩:=i2.mp ();refine⟨J8.mpr ⟨λhm=>j2 x hm (by simp),j1⟩,λy hy=> ?_⟩;rcases B8.mp hy with rfl|hy
    ·exact hx
    ·exact λhm=>j2 y hy (by simp[hm])
   ·have:=i2.mpr ⟨(J8.mp z.1).2,λy hy q=>by
     rcases F9.mp q with q|q
     ·exact z.2 y (by simp[hy]) q
     ·rw[J9.mp q]at hy;exact(J8.mp z.1).1 hy⟩
    lia
def GA(l:List Int):(met l).length<=l.length/\((met l).length=l.length↔l.Nodup):=by
 unfold met PyProof.Rows.firstMet;have e:(List.range l.length).map (λi=>l.getD i 0)=l:=by
  refine Q2 λi=> ?_;rw[B3]
  by_cases hi:i < l.length
  ·rw[E9 hi,B6 hi];simp[List.getD,hi]
  ·rw[F2 (by simp;lia),F2 ()];rfl
 rw[e];obtain⟨a,b⟩:=Iq l [];simp only[K3,O7]at a b;exact⟨a,b.trans ⟨λz=>z.1,λz=>⟨z,λ_ _=>by simp⟩⟩⟩
section
variable{n:Nat}{T:List Int}{s:Int}
def Oq(h1:1<=n)(hn:n<=1000)(hT:cA n T)(s0:0<=s)(s1:s<=1000)(X:List Int)(hX:X.length<=1000):uj [.lst (X.map .int),.int s,.aD (Bk T),.int (n:Int)]=.ok (.sh (.bl (El T (X.map (Bs n s))))):=by
 have hc:=lX (fg:=gC 5) (f:=yy) (δ:=[some (.lst (X.map .int)),some (.int s),some (.aD (Bk T)),some (.int (n:Int)),none,none]) (λd=>match d with| .int x=>D.int (Bs n s x)|d=>d) (X.map .int) (λd hd=>by
  obtain⟨x,hx,rfl⟩:=D8.mp hd;refine⟨[some (.lst (X.map .int)),some (.int s),some (.aD (Bk T)),some (.int (n:Int)),none,some (.int x)],.sh (.int (Bs n s x)),rfl, ?_,rfl⟩
  simp![yy,Ak,Ee,(lW x (s + 1) (n:Int) () () ()).2,Bs])
 have hm:(X.map D.int).map (λd=>match d with| .int x=>D.int (Bs n s x)|d=>d)=(X.map (Bs n s)).map .int:=by rw[D7,D7];rfl
 rw[hm]at hc;have ec:=Ho (m:=1) (fi:=Bo (Ab 0)) (fg:=gC 5) (p:=λ_=> .ok true) (f:=yy) (δ:=[some (.lst (X.map .int)),some (.int s),some (.aD (Bk T)),some (.int (n:Int)),none]) (ds:=X.map .int) (by simp![Ak]) (by rw[A3];lia) hc;have hR:cA n (X.map (Bs n s)):=λr hr=>by
  obtain⟨x,_,rfl⟩:=D8.mp hr;exact gQ s x h1
 have hRl:(X.map (Bs n s)).length<=1000:=by rw[A3];exact hX
 generalize X.map (Bs n s)=rs at *
 have q1:Aj 4 [0,1,3] (By 1 (Bo (Ab 0)) (gC 5) (λ_=> .ok true) yy) (Av 5 [.lst (X.map .int),.int s,.aD (Bk T),.int (n:Int)])=.nx [.sh (.lst (X.map .int)),.sh (.int s),.sh (.aD (Bk T)),.sh (.int (n:Int)),.ow (.lst (rs.map .int))]:=by
  unfold Aj;show(match By 1 (Bo (Ab 0)) (gC 5) (λ_=> .ok true) yy [some (.lst (X.map .int)),some (.int s),some (.aD (Bk T)),some (.int (n:Int)),none] with| .ok (.sh d)=>_| .ok (.ow d)=>_| .ok (.tr t)=>_| .ex x=>_| .no=>_)=_;rw[ec];rfl
 obtain⟨m1,m2⟩:=GA rs;have ls:=wq (l:=rs) ();refine fR ?_;unfold Mf;rw[Ba q1]
 by_cases nd:rs.Nodup
 ·have c:¬(((met rs).length:Int) < (rs.length:Int)):=by have:=m2.mpr nd;lia
  have q2:Bv [4] (An (Ah mE (oJ (Ab 4)) (Ag Bu #v[4]))) (Ao [] (eC (.bl false))) Ay [.sh (.lst (X.map .int)),.sh (.int s),.sh (.aD (Bk T)),.sh (.int (n:Int)),.ow (.lst (rs.map .int))]=.nx [.sh (.lst (X.map .int)),.sh (.int s),.sh (.aD (Bk T)),.sh (.int (n:Int)),.ow (.lst (rs.map .int))]:=by
   simp![Ak,oJ,ls,Cy,A3,Fz,c,K5]
  rw[Ba q2];have pd:=su (fg:=gC 5) (p:=MZ) (f:=Ab 5) (δ:=[some (.lst (X.map .int)),some (.int s),some (.aD (Bk T)),some (.int (n:Int)),some (.lst (rs.map .int)),none]) (λd=>match d with| .int r=>decide (r∈T)|_=>false) (λd=>d) (rs.map .int) (λd hd=>by
   obtain⟨r,hr,rfl⟩:=D8.mp hd;refine⟨[some (.lst (X.map .int)),some (.int s),some (.aD (Bk T)),some (.int (n:Int)),some (.lst (rs.map .int)),some (.int r)],rfl, ?_,λ_=>⟨_,rfl,rfl⟩⟩
   simp![MZ,Ak,nE,wO hT hn (hR r hr)])
  rw[V8,U3]at pd;have NI:=Ho (m:=1) (fi:=Bo (Ab 4)) (fg:=gC 5) (p:=MZ) (f:=Ab 5) (δ:=[some (.lst (X.map .int)),some (.int s),some (.aD (Bk T)),some (.int (n:Int)),some (.lst (rs.map .int))]) (ds:=rs.map .int) (by simp![Ak]) (by rw[A3];lia) pd;have kf:∀k∈(rs.filter ((λd=>match d with| .int r=>decide (r∈T)|_=>false) ∘ D.int)).map D.int,isKey k:=λk hk=>by
   obtain⟨r,hr,rfl⟩:=D8.mp hk;have:=hR r (J7.mp hr).1;exact qQ this.1 ()
  obtain⟨b,hb,eb,_⟩:=Iw kf (js:=[]) (λ_ h=>by simp at h);have hv:Az [.sh (.lst (X.map .int)),.sh (.int s),.sh (.aD (Bk T)),.sh (.int (n:Int)),.ow (.lst (rs.map .int))]= [some (.lst (X.map .int)),some (.int s),some (.aD (Bk T)),some (.int (n:Int)),some (.lst (rs.map .int))]:=rfl;have fin:El T rs=b:=by
   unfold El;rw[P8,V6,hb,List.map_eq_nil_iff,List.filter_eq_nil_iff];constructor
   ·intro z r hr q;exact z.2 r hr (D3 q)
   ·intro z;exact⟨nd,λr hr q=>z r hr (E8 q)⟩
  rw[fin];unfold Ao;rw[hv]
  simp![Ak,NI,eb]
 ·have c:((met rs).length:Int) < (rs.length:Int):=by
   have:(met rs).length≠rs.length:=λz=>nd (m2.mp z);lia
  have:El T rs=false:=K2 λz=>nd z.1;rw[this];have q2:Bv [4] (An (Ah mE (oJ (Ab 4)) (Ag Bu #v[4]))) (Ao [] (eC (.bl false))) Ay [.sh (.lst (X.map .int)),.sh (.int s),.sh (.aD (Bk T)),.sh (.int (n:Int)),.ow (.lst (rs.map .int))]=.rt (.sh (.bl false)):=by
   simp![Ak,oJ,ls,Cy,A3,Fz,c,F6]
  unfold Af;rw[q2]
end
def fH(n io:Nat)(T X:List Int):Option Nat:=(List.range io).find? λ(s:Nat)=>El T (X.map (Bs n (s:Int)))
def kO:Option Nat->D
 |some s=> .int (s:Int)
 |none=> .aJ
def Js{p:Nat->Bool}{n:Nat}(h:(List.range n).find? p=none):∀s,s < n->p s=false:=λs hs=>by
 have:=List.find?_eq_none.mp h s (K7.mpr hs);simpa using this
def oQ{p:Nat->Bool}{n s:Nat}(h:(List.range n).find? p=some s):s < n/\p s=true/\∀t,t < s->p t=false:=by
 have h1:=List.find?_some h;have h2:=K7.mp (List.mem_of_find?_eq_some h);refine⟨h2,h1,λt ht=> ?_⟩;obtain⟨_,as,bs,e,ha⟩:=List.find?_eq_some_iff_append.mp h;have hl:as.length=s:=by
  have q:(List.range n)[as.length]? =some s:=by rw[e];simp
  have cR:as.length < n:=by
   have:=L8 List.length e;simp at this;lia
  rw[E9 cR]at q;exact L6 q
 have hta:t∈as:=by
  have q:(List.range n)[t]? =some t:=E9 ();rw[e,B7 ()]at q;exact N0 q
 have:=ha t hta;simpa using this
section
variable{n io:Nat}{T X:List Int}
theorem Ke(h1:1<=n)(hn:n<=1000)(hT:cA n T)(hX:X.length<=1000):∀(ts:List Nat) (a4:Sl),(∀t∈ts,t<=1000)->match ts.find? (λ(s:Nat)=>El T (X.map (Bs n (s:Int)))) with
  |some s=>Cf (gV 4) qe (ts.map λ(t:Nat)=>D.int (t:Int)) [.sh (.lst (X.map .int)),.sh (.int (n:Int)),.sh (.aD (Bk T)),.sh (.int (io:Int)),a4]=.rt (.sh (.int (s:Int)))
  |none=>∃b4,Cf (gV 4) qe (ts.map λ(t:Nat)=>D.int (t:Int)) [.sh (.lst (X.map .int)),.sh (.int (n:Int)),.sh (.aD (Bk T)),.sh (.int (io:Int)),a4]=.nx [.sh (.lst (X.map .int)),.sh (.int (n:Int)),.sh (.aD (Bk T)),.sh (.int (io:Int)),b4]
 | [],a4,_=>⟨a4,rfl⟩
 |t::ts,a4,ht=>by
  have e:=Y' h1 hn hT (s:=(t:Int)) () (by have:=ht t (by simp);lia) X hX;have sM:gV 4 (.int (t:Int)) [.sh (.lst (X.map .int)),.sh (.int (n:Int)),.sh (.aD (Bk T)),.sh (.int (io:Int)),a4]=.ok [.sh (.lst (X.map .int)),.sh (.int (n:Int)),.sh (.aD (Bk T)),.sh (.int (io:Int)),.sh (.int (t:Int))]:=rfl;rw[N6];cases c:El T (X.map (Bs n (t:Int))) with
  |true=>
   refine ve sM ?_
   simp![qe,Ak,e,c]
  |false=>
   have hb:qe [.sh (.lst (X.map .int)),.sh (.int (n:Int)),.sh (.aD (Bk T)),.sh (.int (io:Int)),.sh (.int (t:Int))]=.nx [.sh (.lst (X.map .int)),.sh (.int (n:Int)),.sh (.aD (Bk T)),.sh (.int (io:Int)),.sh (.int (t:Int))]:=by
    simp![qe,Ak,e,c]
   rw[B1,Hh sM hb];exact Ke h1 hn hT hX ts _ λq hq=>ht q (by simp[hq])
def VU(h1:1<=n)(hn:n<=1000)(hm:io<=1000)(hT:cA n T)(hX:X.length<=1000):yv [.lst (X.map .int),.int (n:Int),.aD (Bk T),.int (io:Int)]=.ok (.sh (kO (fH n io T X))):=by
 have hz:Ca 0 io=(List.range io).map λ(t:Nat)=>D.int (t:Int):=by
  unfold Ca;refine D1 λk _=> ?_;rw[V9]
 have hl:=Ke (io:=io) h1 hn hT hX (List.range io) .no λt ht=>by have:=K7.mp ht;lia
 rw[<-hz]at hl;have hf:∀r,Cf (gV 4) qe (Ca 0 io) [.sh (.lst (X.map .int)),.sh (.int (n:Int)),.sh (.aD (Bk T)),.sh (.int (io:Int)),.no]=r->Bt [3] (Aw Cn #v[3]) (gV 4) qe (Av 5 [.lst (X.map .int),.int (n:Int),.aD (Bk T),.int (io:Int)])=r:=λr e=>by
  show Bt [3] (Aw Cn #v[3]) (gV 4) qe [.sh (.lst (X.map .int)),.sh (.int (n:Int)),.sh (.aD (Bk T)),.sh (.int (io:Int)),.no]=r;rw[<-e]
  simp![Bt,Ak,lU (show(-4611686018427387903:Int)<=(io:Int) by lia) (),F7]
 refine fR ?_;unfold Me;unfold fH;cases e:(List.range io).find? (λ(s:Nat)=>El T (X.map (Bs n (s:Int)))) with
 |none=>
  rw[e]at hl;obtain⟨b4,e1⟩:=hl;rw[Ba (hf _ e1)];rfl
 |some s=>
  rw[e]at hl;unfold Af;rw[hf _ hl];rfl
end
def bk(B:Nat)(x:Int):Nat:=(Ck x 0 (B:Int)).toNat
def vd{B:Nat}(x:Int)(h:1<=B):bk B x < B:=by
 have:=jY x 0 (B:Int) ();unfold bk;lia
def DU{B:Nat}(x:Int)(h:1<=B):Ck x 0 (B:Int)=((bk B x:Nat):Int):=by
 have:=jY x 0 (B:Int) ();unfold bk;lia
def Bc(B:Nat)(L:List Int)(b:Nat):List Int:=L.filter λx=>decide (bk B x=b)
def lK(B:Nat)(L:List Int)(x:Int)(b:Nat):Bc B (L ++ [x]) b=if b=bk B x then Bc B L b ++ [x] else Bc B L b:=by
 unfold Bc;rw[List.filter_append]
 by_cases h:b=bk B x
 ·rw[if_pos h,Qw,if_pos (E8 h.symm)];rfl
 ·rw[if_neg h,Qw,if_neg (by simpa using λz=>h z.symm)];simp
def vN(B:Nat)(L:List Int)(b:Nat):(Bc B L b).length<=L.length:=W5 _ _
section
variable{α:Type}
def yh(x:Ap)(v:α)(l:List (Ap×α))(k:Ap):Dj ((x,v)::l) k=if x=k then some v else Dj l k:=by
 unfold Dj;rw[N6]
 by_cases h:x=k
 ·rw[if_pos h,E8 h];rfl
 ·rw[if_neg h,K2 h]
def VT(l r:List (Ap×α))(k:Ap):Dj (l ++ r) k=(Dj l k).or (Dj r k):=by
 induction l with
 |nil=>rfl
 |cons q l ih=>
  obtain⟨x,v⟩:=q;rw[Q9,yh,yh,ih]
  split <;> rfl
end
noncomputable def jO(l:List Int):List Tn:=l.map λx=> .sh (.int x)
def iZ(g:Nat->List Int)(os:List Nat):List (Ap×Tn):=os.map λ(b:Nat)=>(Sum.inl (b:Int),Tn.lst (jO (g b)))
def eX{a b:Nat}:(Sum.inl (a:Int):Ap)=.inl (b:Int)↔a=b:=⟨λz=>by injection z with z;lia,λz=>by rw[z]⟩
theorem DT(f:Nat->Tn)(b:Nat):∀os:List Nat,Dj (os.map λ(b:Nat)=>((Sum.inl (b:Int):Ap),f b)) (.inl (b:Int))=if b∈os then some (f b) else none
 | []=>rfl
 |o::os=>by
  rw[B1,yh,DT f b os]
  by_cases h:o=b
  ·subst h;rw[if_pos rfl,if_pos (by simp)]
  ·rw[if_neg (λz=>h (eX.mp z))]
   by_cases h2:b∈os
   ·rw[if_pos h2,if_pos (by simp[h2])]
   ·rw[if_neg h2,if_neg (λz=>(B8.mp z).elim (λz=>h z.symm) h2)]
theorem DS(f:Nat->Tn)(b:Nat)(v:Tn):∀os:List Nat,os.Nodup->Ed (os.map λ(b:Nat)=>((Sum.inl (b:Int):Ap),f b)) (.inl (b:Int)) v=os.map λ(q:Nat)=>((Sum.inl (q:Int):Ap),if q=b then v else f q)
 | [],_=>rfl
 |o::os,nd=>by
  rw[B1,Ed,B1];obtain⟨n1,n2⟩:=J8.mp nd
  by_cases h:o=b
  ·subst h;rw[if_pos rfl,if_pos rfl];refine L8 _ (D1 λq hq=> ?_);rw[if_neg (λz:q=o=>n1 (by rw[<-z];exact hq))]
  ·rw[if_neg (λz=>h (eX.mp z)),if_neg h,DS f b v os n2]
theorem FZ{α:Type}(v:α)(k:Ap)(v0:α):∀l:List (Ap×α),Dj l k=none->Ed (l ++ [(k,v0)]) k v=l ++ [(k,v)]
 | [],_=>by rw[O5,Ed,if_pos rfl];rfl
 |(x,w)::l,h=>by
  rw[yh]at h;rw[Q9,Ed]
  by_cases e:x=k
  ·rw[if_pos e]at h;cases h
  ·rw[if_neg e]at h⊢;rw[FZ v k v0 l h];rfl
structure GK(B:Nat)(L:List Int)(os:List Nat)(zm:List (Ap×Tn)):Prop where
 eq:zm=iZ (Bc B L) os
 nd:os.Nodup
 mem:∀b,b∈os↔Bc B L b≠ []
def GK.lt{B:Nat}{L:List Int}{os:List Nat}{zm:List (Ap×Tn)}(h:GK B L os zm)(hB:1<=B):∀b∈os,b < B:=λb hb=>by
 obtain⟨x,hx⟩:=List.exists_mem_of_ne_nil _ ((h.mem b).mp hb);have:=D3 (J7.mp hx).2;rw[<-this];exact vd x hB
def Ls{B:Nat}(x:Int)(h:1<=B):ud [.int x,.int (B:Int)]=.ok (.sh (.int ((bk B x:Nat):Int))):=by
 simp![ud,KN,Ak,(lW x 0 (B:Int) ⋯ ⋯ ()).1,DU x h]
def FY{B:Nat}{L:List Int}{os:List Nat}{zm:List (Ap×Tn)}(h:GK B L os zm)(hB:1<=B)(x:Int)(hl:L.length<=1000)(oX:os.length<=1000){Ld:D}:∃mC av,sX [.sh Ld,.sh (.int (B:Int)),.tr (.aD zm),.sh (.int x)]=.nx [.sh Ld,.sh (.int (B:Int)),.tr (.aD av),.sh (.int x)]/\GK B (L ++ [x]) mC av/\mC.length<=os.length + 1:=by
 have hv:Dj zm (.inl ((bk B x:Nat):Int))=if bk B x∈os then some (.lst (jO (Bc B L (bk B x)))) else none:=by rw[h.eq];exact DT _ _ os
 have Nr:zm.length=os.length:=by rw[h.eq];exact A3 _
 have gl:=vN B L (bk B x);have e:=Ls x hB;have go:∀ck,mv zm (.inl ((bk B x:Nat):Int))=ck->∀ts,Dj ck (.inl ((bk B x:Nat):Int))=some (.lst ts)->ts.length < 16777216->sX [.sh Ld,.sh (.int (B:Int)),.tr (.aD zm),.sh (.int x)]=.nx [.sh Ld,.sh (.int (B:Int)),.tr (.aD (Ed ck (.inl ((bk B x:Nat):Int)) (.lst (ts ++ [.sh (.int x)])))),.sh (.int x)]:=λck e2 ts e3 e4=>by
  have ht:(([.sh Ld,.sh (.int (B:Int)),.tr (.aD zm),.sh (.int x)]:SE)[2]?).bind Sl.tree=some (.aD zm,false):=rfl;have f1:At 2 ud #v[3,1] (Az [.sh Ld,.sh (.int (B:Int)),.tr (.aD zm),.sh (.int x)])=.ok (.sh (.int ((bk B x:Nat):Int))):=by simp![Ak,e]
  unfold sX ql;rw[ht];simp only[f1,W.dU,Ec,e2,e3];rw[if_pos (),if_pos e4];rfl
 by_cases hb:bk B x∈os
 ·rw[if_pos hb]at hv;have hs:mv zm (.inl ((bk B x:Nat):Int))=zm:=by unfold mv;rw[hv]
  refine⟨os,_,go zm hs _ hv (by unfold jO;rw[A3];lia),⟨?_,h.nd,λb=> ?_⟩,by lia⟩
  ·rw[h.eq];unfold iZ;rw[DS _ _ _ os h.nd];refine D1 λq _=> ?_;rw[lK]
   by_cases z:q=bk B x
   ·rw[if_pos z,if_pos z,z];unfold jO;rw[E7];rfl
   ·rw[if_neg z,if_neg z]
  ·rw[lK]
   by_cases z:b=bk B x
   ·rw[if_pos z,z];exact⟨λ_=>by simp,λ_=>hb⟩
   ·rw[if_neg z];exact h.mem b
 ·rw[if_neg hb]at hv;have hg:Bc B L (bk B x)= []:=by
   by_cases z:Bc B L (bk B x)= []
   ·exact z
   ·exact absurd ((h.mem _).mpr z) hb
  have hs:mv zm (.inl ((bk B x:Nat):Int))=zm ++ [(.inl ((bk B x:Nat):Int),.lst [])]:=by unfold mv;rw[hv]
  have hv2:Dj (zm ++ [(.inl ((bk B x:Nat):Int),Tn.lst [])]) (.inl ((bk B x:Nat):Int))=some (.lst []):=by
   rw[VT,hv,yh,if_pos rfl];rfl
  refine⟨os ++ [bk B x],_,go _ hs [] hv2 ⋯,⟨?_, ?_,λb=> ?_⟩,by simp⟩
  ·rw[FZ _ _ _ _ hv,h.eq];unfold iZ;rw[E7];have e1:os.map (λ(b:Nat)=>((Sum.inl (b:Int):Ap),Tn.lst (jO (Bc B L b))))=os.map λ(b:Nat)=>(Sum.inl (b:Int),Tn.lst (jO (Bc B (L ++ [x]) b))):=D1 λq hq=>by
    rw[lK,if_neg (λz:q=bk B x=>hb (by rw[<-z];exact hq))]
   rw[e1];refine L8 _ ?_;rw[B1,lK,if_pos rfl,hg];rfl
  ·exact V7.mpr ⟨h.nd,by simp,λa ha b hb2=>by rw[J9.mp hb2];exact λz=>hb (by rw[<-z];exact ha)⟩
  ·rw[lK,F9,J9]
   by_cases z:b=bk B x
   ·rw[if_pos z];exact⟨λ_=>by simp,λ_=> .inr z⟩
   ·rw[if_neg z];exact⟨λy=>y.elim (h.mem b).mp λy=>absurd y z,λy=> .inl ((h.mem b).mpr y)⟩
theorem FX{B:Nat}(hB:1<=B){Ld:D}:∀(X L:List Int) (os:List Nat) (zm:List (Ap×Tn)) (a3:Sl),GK B L os zm->L.length + X.length<=1000->os.length<=L.length->∃mC av b3,Cf (gV 3) sX (X.map .int) [.sh Ld,.sh (.int (B:Int)),.tr (.aD zm),a3]=.nx [.sh Ld,.sh (.int (B:Int)),.tr (.aD av),b3]/\GK B (L ++ X) mC av/\mC.length<=(L ++ X).length
 | [],L,os,zm,a3,h,_,ho=>⟨os,zm,a3,rfl,by rw[D9];exact h,by rw[D9];exact ho⟩
 |x::X,L,os,zm,a3,h,hl,ho=>by
  simp only[B5]at hl;obtain⟨OI,cj,e1,h1,l1⟩:=FY h hB x () () (Ld:=Ld);obtain⟨mC,av,b3,e2,h2,l2⟩:=FX hB (Ld:=Ld) X (L ++ [x]) OI cj (.sh (.int x)) h1 (by simp;lia) (by simp;lia);rw[K9]at h2 l2;refine⟨mC,av,b3, ?_,h2,l2⟩;rw[B1,Hh (Δ1:=[.sh Ld,.sh (.int (B:Int)),.tr (.aD zm),.sh (.int x)]) rfl e1];exact e2
def W'{B:Nat}(hB:1<=B)(L:List Int)(hl:L.length<=1000):∃os zm w,zM [.lst (L.map .int),.int (B:Int)]=.ok w/\GK B L os zm/\os.length<=L.length/\(L≠ []->w=.tr (.aD zm)):=by
 cases L with
 |nil=>exact⟨[],[],_,rfl,⟨rfl,R5,λb=>by simp[Bc]⟩,A9 _,λz=>absurd rfl z⟩
 |cons x X=>
  have q1:Aj 2 [] Eo (Av 4 [.lst ((x::X).map .int),.int (B:Int)])=.nx [.sh (.lst ((x::X).map .int)),.sh (.int (B:Int)),.ow (.aD []),.no]:=rfl;have g0:GK B [] [] []:=⟨rfl,R5,λb=>by simp[Bc]⟩;obtain⟨OI,cj,e1,h1,l1⟩:=FY g0 hB x (by simp) (by simp) (Ld:=.lst ((x::X).map .int));have e1':sX [.sh (.lst ((x::X).map .int)),.sh (.int (B:Int)),.ow (.aD []),.sh (.int x)]=.nx [.sh (.lst ((x::X).map .int)),.sh (.int (B:Int)),.tr (.aD cj),.sh (.int x)]:=e1;simp only[B5]at hl;obtain⟨mC,av,b3,e2,h2,l2⟩:=FX hB (Ld:=.lst ((x::X).map .int)) X [x] OI cj (.sh (.int x)) h1 (by simp;lia) (by simpa using l1);refine⟨mC,av,.tr (.aD av), ?_,h2,l2,λ_=>rfl⟩;refine fR ?_;unfold x_7;have hf:Bt [0] (Bo (Ab 0)) (gV 3) sX [.sh (.lst ((x::X).map .int)),.sh (.int (B:Int)),.ow (.aD []),.no]=.nx [.sh (.lst ((x::X).map .int)),.sh (.int (B:Int)),.tr (.aD av),b3]:=by
   have:Cf (gV 3) sX ((x::X).map .int) [.sh (.lst ((x::X).map .int)),.sh (.int (B:Int)),.ow (.aD []),.no]=.nx [.sh (.lst ((x::X).map .int)),.sh (.int (B:Int)),.tr (.aD av),b3]:=by
    rw[B1,Hh (Δ1:=[.sh (.lst ((x::X).map .int)),.sh (.int (B:Int)),.ow (.aD []),.sh (.int x)]) rfl e1'];exact e2
   rw[<-this]
   simp![Bt,Ak]
  rw[Ba q1,Ba hf];rfl
def Eu(g:Nat->List Int)(B:Nat):List Tn:=(List.range B).map λb=> .lst (jO (g b))
noncomputable def Dp(g:Nat->List Int)(B:Nat):List D:=(List.range B).map λb=> .lst ((g b).map .int)
theorem FV:∀l:List Int,mq (jO l)=some (l.map .int)
 | []=>rfl
 |x::l=>by
  show(mq (jO l)).map (D.int x:: ·)=_;rw[FV l];rfl
theorem vn:∀l:List Int,Tn.ds (jO l)=l.map .int
 | []=>rfl
 |x::l=>by
  show(Tn.sh (.int x)).d::Tn.ds (jO l)=_;rw[vn l];rfl
theorem CY(g:Nat->List Int):∀l:List Nat,Tn.ds (l.map λb=>Tn.lst (jO (g b)))=l.map λb=>D.lst ((g b).map .int)
 | []=>rfl
 |b::l=>by
  rw[B1,B1,Tn.ds,CY g l,Tn.d,vn]
def QT(g:Nat->List Int)(B:Nat):(Tn.lst (Eu g B)).d=.lst (Dp g B):=by
 rw[Tn.d];exact L8 _ (CY g _)
def XG{α:Type}(f:Nat->α)(v:α)(B n:Nat):((List.range B).map f).set n v=(List.range B).map λb=>if b=n then v else f b:=by
 refine Q2 λi=> ?_;rw[List.getElem?_set,B3,B3]
 by_cases h:n=i
 ·subst h;rw[if_pos rfl]
  by_cases hi:n < B
  ·rw[if_pos (by simpa using hi),E9 hi];simp
  ·rw[if_neg (by simpa using hi),F2 (by simp;lia)];rfl
 ·rw[if_neg h]
  by_cases hi:i < B
  ·rw[E9 hi];simp only[L7];rw[if_neg (λz:i=n=>h z.symm)]
  ·rw[F2 (by simp;lia)];rfl
def Ub{B:Nat}{L:List Int}{d:D}(hB:1<=B)(hd:isKey d)(hl:L.length<=1000){Kd:D}:zN [.sh Kd,.sh (.int (B:Int)),.tr (.lst (Eu (Bc B L) B)),.sh d]=.nx [.sh Kd,.sh (.int (B:Int)),.tr (.lst (Eu (Bc B (L ++ [Ax d])) B)),.sh d]:=by
 have e:=Lu hd;have hb:=vd (Ax d) hB;have gl:=vN B L (bk B (Ax d));have f1:At 3 kJ #v[At 1 mL #v[3],eC (.int 0),1] (Bn [.sh Kd,.sh (.int (B:Int)),.tr (.lst (Eu (Bc B L) B)),.sh d])=.ok (.sh (.int ((bk B (Ax d):Nat):Int))):=by
  have m:=(lW (Ax d) 0 (B:Int) ⋯ ⋯ ()).2;rw[DU _ hB]at m;show((((mL [d]).bind λw=>R.ok [w.d,.int 0,.int (B:Int)])).bind λds=>if ds.length=3 then kJ ds else .no)=_;rw[e];exact m
 have f2:At 1 mL #v[3] (Bn [.sh Kd,.sh (.int (B:Int)),.tr (.lst (Eu (Bc B L) B)),.sh d])=.ok (.sh (.int (Ax d))):=e;have hk:(Tn.lst (Eu (Bc B L) B)).pO (bk B (Ax d))=some ((Bc B L (bk B (Ax d))).map .int):=by
  show((Eu (Bc B L) B)[bk B (Ax d)]?).bind Tn.flat=_;unfold Eu;rw[B3,E9 hb];exact FV _
 have ht:(([.sh Kd,.sh (.int (B:Int)),.tr (.lst (Eu (Bc B L) B)),.sh d]:SE)[2]?).bind Sl.tree=some (.lst (Eu (Bc B L) B),false):=rfl;unfold zN qv;rw[ht];simp only[f1,W.dU,f2];rw[if_pos (),F7,hk];simp only;rw[if_pos (by rw[A3];lia)];have hs:(Tn.lst (Eu (Bc B L) B)).jI (bk B (Ax d)) ((Bc B L (bk B (Ax d))).map .int ++ [.int (Ax d)])=.lst (Eu (Bc B (L ++ [Ax d])) B):=by
  show Tn.lst ((Eu (Bc B L) B).set (bk B (Ax d)) (Tn.of (.lst ((Bc B L (bk B (Ax d))).map .int ++ [.int (Ax d)]))))=_;unfold Eu;rw[XG];refine L8 _ (D1 λb _=> ?_);rw[lK]
  by_cases z:b=bk B (Ax d)
  ·rw[if_pos z,if_pos z,z];show Tn.lst (((Bc B L (bk B (Ax d))).map D.int ++ [D.int (Ax d)]).map Tn.sh)=_;unfold jO;rw[E7,E7,D7];rfl
  ·rw[if_neg z,if_neg z]
 rw[hs];rfl
theorem FU{B:Nat}(hB:1<=B){Kd:D}:∀(ks:List D) (L:List Int) (a3:Sl),(∀k∈ks,isKey k)->L.length + ks.length<=1000->∃b3,Cf (gV 3) zN ks [.sh Kd,.sh (.int (B:Int)),.tr (.lst (Eu (Bc B L) B)),a3]=.nx [.sh Kd,.sh (.int (B:Int)),.tr (.lst (Eu (Bc B (L ++ ks.map Ax)) B)),b3]
 | [],L,a3,_,_=>⟨a3,by rw[O0,D9];rfl⟩
 |d::ks,L,a3,hk,hl=>by
  simp only[B5]at hl;obtain⟨b3,e⟩:=FU hB (Kd:=Kd) ks (L ++ [Ax d]) (.sh d) (λk h=>hk k (by simp[h])) (by simp;lia);refine⟨b3, ?_⟩;rw[Hh (Δ1:=[.sh Kd,.sh (.int (B:Int)),.tr (.lst (Eu (Bc B L) B)),.sh d]) rfl (Ub hB (hk d (by simp)) ()),e,K9];rfl
def oS(n:Nat):(Ca 0 n).length=n:=by unfold Ca;rw[A3,K4]
def aay{B:Nat}(hB:1<=B)(mh:B<=1000){ks:List D}(hk:∀k∈ks,isKey k)(hl:ks.length<=1000):zK [.lst ks,.int (B:Int)]=.ok (.tr (.lst (Eu (Bc B (ks.map Ax)) B))):=by
 have hr:Aw Cn #v[1] [some (.lst ks),some (.int (B:Int)),none,none]=.ok (Ca 0 B):=by
  simp![Ak,lU (show(-4611686018427387903:Int)<=(B:Int) by lia) (),F7]
 have q1:Aj 2 [1] (lP 1 (Aw Cn #v[1]) (gC 4)) (Av 4 [.lst ks,.int (B:Int)])=.nx [.sh (.lst ks),.sh (.int (B:Int)),.tr (.lst (Eu (Bc B []) B)),.no]:=by
  have ec:lP 1 (Aw Cn #v[1]) (gC 4) [some (.lst ks),some (.int (B:Int)),none,none]=.ok (.tr (.lst (Eu (Bc B []) B))):=by
   unfold lP;rw[hr];simp only[R.aI,oS];rw[if_pos ⟨by lia,F8.mpr λ_ _=>rfl⟩];refine L8 (λt=>R.ok (W.tr (Tn.lst t))) ?_;unfold Eu;refine Q2 λi=> ?_;rw[B3,F5]
   by_cases hi:i < B
   ·rw[if_pos hi,E9 hi];rfl
   ·rw[if_neg hi,F2 (by simp;lia)];rfl
  unfold Aj;show(match lP 1 (Aw Cn #v[1]) (gC 4) [some (.lst ks),some (.int (B:Int)),none,none] with| .ok (.sh d)=>_| .ok (.ow d)=>_| .ok (.tr t)=>_| .ex x=>_| .no=>_)=_;rw[ec];rfl
 obtain⟨b3,e⟩:=FU hB (Kd:=.lst ks) ks [] .no hk (by simp;lia);refine fR ?_;unfold Mr;have hf:Bt [0] (Bo (Ab 0)) (gV 3) zN [.sh (.lst ks),.sh (.int (B:Int)),.tr (.lst (Eu (Bc B []) B)),.no]=.nx [.sh (.lst ks),.sh (.int (B:Int)),.tr (.lst (Eu (Bc B (ks.map Ax)) B)),b3]:=by
  rw[O5]at e;rw[<-e];rfl
 rw[Ba q1,Ba hf];rfl
noncomputable def ky(g:Nat->List Int)(B z:Nat):List Nat:=(List.range B).filter λb=>decide ((g b).length=z)
def Cc(g:Nat->List Int)(B mx:Nat):Nat->List Nat
 |0=> []
 |k + 1=>Cc g B mx k ++ ky g B (mx - k)
noncomputable def Ek(l:List Nat):List D:=l.map λ(b:Nat)=>D.int (b:Int)
theorem Kc(g:Nat->List Int)(B mx:Nat):∀k,(Cc g B mx k).length<=k * B
 |0=>by simp[Cc]
 |k + 1=>by
  have h1:=Kc g B mx k;have h2:(ky g B (mx - k)).length<=B:=by unfold ky;exact D4 (W5 _ _) (by simp)
  rw[Cc,A7,Nat.succ_mul];lia
def Ip(l:List Nat):(Ek l).length=l.length:=A3 _
def VS(a b:List Nat):Ek (a ++ b)=Ek a ++ Ek b:=E7
def XF{g:Nat->List Int}{B mx k:Nat}(mh:B<=1000)(hk:k<=mx)(hx:mx<=1000):yw [.sh (.lst (Dp g B)),.ow (.lst (Ek (Cc g B mx k))),.sh (.int ((mx:Int) - (k:Int)))]=.nx [.sh (.lst (Dp g B)),.ow (.lst (Ek (Cc g B mx (k + 1)))),.sh (.int ((mx:Int) - (k:Int)))]:=by
 have zQ:(Dp g B).length=B:=by unfold Dp;rw[A3,K4]
 have hr:∀a:Option D,Aw Cn #v[Ag Bu #v[0]] [some (.lst (Dp g B)),a,some (.int ((mx:Int) - (k:Int)))]=.ok (Ca 0 B):=λa=>by
  simp![Ak,Cy,zQ,lU (show(-4611686018427387903:Int)<=(B:Int) by lia) (),F7]
 have hz:Ca 0 B=(List.range B).map λ(t:Nat)=>D.int (t:Int):=by
  unfold Ca;exact D1 λk _=>by rw[V9]
 have ec:∀a:Option D,By 1 (Aw Cn #v[Ag Bu #v[0]]) (gC 3) MX (Ab 3) [some (.lst (Dp g B)),a,some (.int ((mx:Int) - (k:Int)))]=.ok (.ow (.lst (Ek (ky g B (mx - k))))):=λa=>by
  have hc:=su (fg:=gC 3) (p:=MX) (f:=Ab 3) (δ:=[some (.lst (Dp g B)),a,some (.int ((mx:Int) - (k:Int))),none]) (λd=>match d with| .int b=>decide ((g b.toNat).length=mx - k)|_=>false) (λd=>d) (Ca 0 B) (λd hd=>by
   rw[hz]at hd;obtain⟨b,hb,rfl⟩:=D8.mp hd;have hb:=K7.mp hb;refine⟨[some (.lst (Dp g B)),a,some (.int ((mx:Int) - (k:Int))),some (.int (b:Int))],rfl, ?_,λ_=>⟨_,rfl,rfl⟩⟩;have ix:Bw (.lst (Dp g B)) (.int (b:Int))=.ok (.sh (.lst ((g b).map .int))):=Gz (Hr (by unfold Dp;rw[B3,E9 hb];rfl));have ed:decide (((g b).length:Int)=(mx:Int) - (k:Int))=decide ((g b).length=mx - k):=Qy.mpr ()
   simp![MX,Ak,ix,Cy,A3,Ht,ed,F7])
  rw[V8,hz,U3]at hc;have hm:((List.range B).filter ((λd=>match d with| .int b=>decide ((g b.toNat).length=mx - k)|_=>false) ∘ λ(t:Nat)=>D.int (t:Int)))=ky g B (mx - k):=by
   unfold ky;refine W0 λb _=> ?_;show decide ((g ((b:Int)).toNat).length=mx - k)=_;rw[F7]
  rw[hm,<-hz]at hc;exact Ho (m:=1) (hr a) (by rw[oS];lia) hc
 have um:(Ek (Cc g B mx k)).length + (Ek (ky g B (mx - k))).length<=16777216:=by
  have h1:=Kc g B mx k;have h2:(ky g B (mx - k)).length<=B:=by unfold ky;exact D4 (W5 _ _) (by simp)
  have h3:k * B<=1000 * 1000:=Nat.mul_le_mul () mh;rw[Ip,Ip];lia
 simp![yw,Ak,ec,Bq,um,Cc,VS,Bf,C8]
def YV{g:Nat->List Int}{B:Nat}(hB:1<=B)(mh:B<=1000)(hg:∀b,(g b).length<=1000):∃mx:Nat,mx<=1000/\(∀b,b < B->(g b).length<=mx)/\yt [.lst (Dp g B)]=.ok (.ow (.lst (Ek (Cc g B mx (mx + 1))))):=by
 have zQ:(Dp g B).length=B:=by unfold Dp;rw[A3,K4]
 
 have hc:=lX (fg:=gC 3) (f:=uk) (δ:=[some (.lst (Dp g B)),none,none,none]) (λd=>match d with| .lst l=>D.int (l.length:Int)|d=>d) (Dp g B) (λd hd=>by
  obtain⟨b,hb,rfl⟩:=D8.mp hd;refine⟨[some (.lst (Dp g B)),none,none,some (.lst ((g b).map .int))],.sh (.int (((g b).map D.int).length:Int)),rfl, ?_,rfl⟩
  simp![uk,Ak,Cy])
 have hm:(Dp g B).map (λd=>match d with| .lst l=>D.int (l.length:Int)|d=>d)=((List.range B).map λb=>((g b).length:Int)).map .int:=by
  unfold Dp;rw[D7,D7];exact D1 λb _=>by simp
 rw[hm]at hc;obtain⟨z,zs,ez⟩:∃z zs,(List.range B).map (λb=>((g b).length:Int))=z::zs:=by
  cases e:(List.range B).map (λb=>((g b).length:Int)) with
  |nil=>have:=L8 List.length e;simp at this;lia
  |cons z zs=>exact⟨z,zs,rfl⟩
 have cg:∀b,b < B->((g b).length:Int)<=Dx z zs:=λb hb=>by
  have:((g b).length:Int)∈z::zs:=by rw[<-ez];exact D8.mpr ⟨b,K7.mpr hb,rfl⟩
  obtain⟨h1,h2⟩:=qT zs z;rcases B8.mp this with e|e
  ·rw[e];exact h1
  ·exact h2 _ e
 have fL:∃b,Dx z zs=((g b).length:Int):=by
  have:=rA zs z;rw[<-ez]at this;obtain⟨b,_,e⟩:=D8.mp this;exact⟨b,e.symm⟩
 obtain⟨b0,hb0⟩:=fL;refine⟨(g b0).length,hg b0,λb hb=>by have:=cg b hb;lia, ?_⟩;have hx:(g b0).length<=1000:=hg b0;generalize (g b0).length=mx at hb0 hx⊢;rw[ez]at hc;have ml:Es [.lst ((z::zs).map .int)]=.ok (.sh (.int (mx:Int))):=by
  rw[<-hb0];simp only[Es,nD]
 have ec:=Ho (m:=1) (fi:=Bo (Ab 0)) (fg:=gC 3) (p:=λ_=> .ok true) (f:=uk) (δ:=[some (.lst (Dp g B)),none,none]) (ds:=Dp g B) (by simp![Ak]) (by rw[zQ];lia) hc;have q1:Aj 1 [] (Ci Ac) (Av 3 [.lst (Dp g B)])=.nx [.sh (.lst (Dp g B)),.ow (.lst (Ek (Cc g B mx 0))),.no]:=rfl;have hr:gA [.int (1 + (mx:Int))]=.ok (eV (((1 + (mx:Int)).toNat:Int) - 1) (-1) (1 + (mx:Int)).toNat):=if_pos ();have ht:(1 + (mx:Int)).toNat=mx + 1:=by lia
 rw[ht]at hr;have hi:Aw gA #v[(Ah Bq (eC (.int 1)) (Ag Es #v[(By 1 (Bo (Ab 0)) (gC 3) (λ_=> .ok true) uk)]))] [some (.lst (Dp g B)),none,none]=.ok (eV (((mx + 1:Nat):Int) - 1) (-1) (mx + 1)):=by
  have ml':Es [.lst (.int z::zs.map .int)]=.ok (.sh (.int (mx:Int))):=ml
  simp![Ak,ec,ml',Ee,hr]
 obtain⟨Δ',e1,a2,rfl⟩:=pJ (gV 2) yw (λk Δ=>∃a2,Δ= [.sh (.lst (Dp g B)),.ow (.lst (Ek (Cc g B mx k))),a2]) (ds:=eV (((mx + 1:Nat):Int) - 1) (-1) (mx + 1)) (Δ:=[.sh (.lst (Dp g B)),.ow (.lst (Ek (Cc g B mx 0))),.no]) ⟨_,rfl⟩
  (λk d Δ hd hI=>by
   obtain⟨a2,rfl⟩:=hI;obtain⟨hk,rfl⟩:=Km hd;have e:((mx + 1:Nat):Int) - 1 + (k:Int) * (-1)=(mx:Int) - (k:Int):=by lia
   rw[e];exact⟨_,rfl,_,.inl (XF mh () hx),_,rfl⟩)
 rw[Kl]at e1;have hf:Bt [0] (Aw gA #v[(Ah Bq (eC (.int 1)) (Ag Es #v[(By 1 (Bo (Ab 0)) (gC 3) (λ_=> .ok true) uk)]))]) (gV 2) yw [.sh (.lst (Dp g B)),.ow (.lst (Ek (Cc g B mx 0))),.no]=.nx [.sh (.lst (Dp g B)),.ow (.lst (Ek (Cc g B mx (mx + 1)))),a2]:=by
  unfold Bt;show(match Aw gA #v[(Ah Bq (eC (.int 1)) (Ag Es #v[(By 1 (Bo (Ab 0)) (gC 3) (λ_=> .ok true) uk)]))] [some (.lst (Dp g B)),none,none] with| .ok ds=>Cf (gV 2) yw ds [.sh (.lst (Dp g B)),.ow (.lst (Ek (Cc g B mx 0))),.no]| .ex x=>Fl.ex x [.sh (.lst (Dp g B)),.ow (.lst (Ek (Cc g B mx 0))),.no]| .no=>_)=_;rw[hi];exact e1
 refine fR ?_;unfold LO;rw[Ba q1,Ba hf];rfl
def Gd(g:Nat->List Int)(b:Nat):Int:= -((g b).length:Int) * 4611686018427387904 + (b:Int)
noncomputable def Cu(g:Nat->List Int)(os:List Nat):List (Ap×D):=os.map λ(b:Nat)=>(Sum.inl (b:Int),D.lst ((g b).map .int))
theorem CW(g:Nat->List Int):∀os:List Nat,Tn.ks (iZ g os)=Cu g os
 | []=>rfl
 |b::os=>by
  show(Sum.inl (b:Int),(Tn.lst (jO (g b))).d)::Tn.ks (iZ g os)=_;rw[CW g os,Tn.d,vn];rfl
def Rk(g:Nat->List Int)(os:List Nat):(Tn.aD (iZ g os)).d=.aD (Cu g os):=by
 rw[Tn.d,CW]
theorem vm(f:Nat->D)(b:Nat):∀os:List Nat,Dj (os.map λ(b:Nat)=>((Sum.inl (b:Int):Ap),f b)) (.inl (b:Int))=if b∈os then some (f b) else none
 | []=>rfl
 |o::os=>by
  rw[B1,yh,vm f b os]
  by_cases h:o=b
  ·subst h;rw[if_pos rfl,if_pos (by simp)]
  ·rw[if_neg (λz=>h (eX.mp z))]
   by_cases h2:b∈os
   ·rw[if_pos h2,if_pos (by simp[h2])]
   ·rw[if_neg h2,if_neg (λz=>(B8.mp z).elim (λz=>h z.symm) h2)]
def FR{g:Nat->List Int}{os:List Nat}{b:Nat}(h:b∈os):Fy (.aD (Cu g os)) (.int (b:Int))=.ok (.sh (.lst ((g b).map .int))):=by
 have:=vm (λb=>D.lst ((g b).map .int)) b os;rw[if_pos h]at this;unfold Fy;simp only[Ec];unfold Cu;rw[this]
theorem KG{α:Type}:∀l:List α,Paired Eq l l
 | []=> .nil
 |_::l=> .cons rfl (KG l)
theorem Jr{α:Type}:∀{a b:List α},Paired Eq a b->a=b
 |_,_,.nil=>rfl
 |_,_,.cons e t=>by rw[e,Jr t]
section
variable{g:Nat->List Int}{B mx:Nat}
def eZ{b z:Nat}:b∈ky g B z↔b < B/\(g b).length=z:=by
 unfold ky;rw[J7,K7,V6]
theorem jA{b:Nat}:∀k,b∈Cc g B mx k↔b < B/\∃j,j < k/\(g b).length=mx - j
 |0=>by simp[Cc]
 |k + 1=>by
  rw[Cc,F9,jA k,eZ];constructor
  ·rintro (⟨h,j,h1,h2⟩|⟨h,h2⟩)
   ·exact⟨h,j,by lia,h2⟩
   ·exact⟨h,k,by lia,h2⟩
  ·rintro ⟨h,j,h1,h2⟩
   by_cases e:j=k
   ·exact .inr ⟨h,by rw[h2,e]⟩
   ·exact .inl ⟨h,j,by lia,h2⟩
theorem xk(hB:B<=1000):∀k,k<=mx + 1->(Cc g B mx k).Pairwise λa b=>Gd g a < Gd g b
 |0,_=>List.Pairwise.nil
 |k + 1,hk=>by
  rw[Cc];refine List.pairwise_append.mpr ⟨xk hB k (), ?_,λa ha b hb=> ?_⟩
  ·unfold ky;have h1:(List.range B).Pairwise λa b=>a < b:=List.pairwise_lt_range;have h2:((List.range B).filter λb=>decide ((g b).length=mx - k)).Pairwise λa b=>a < b:=h1.filter _;refine h2.imp_of_mem λ{a b} ha hb h=> ?_;have ea:=D3 (J7.mp ha).2;have eb:=D3 (J7.mp hb).2;unfold Gd;lia
  ·obtain⟨a1,j,a2,a3⟩:=(jA k).mp ha;obtain⟨b1,b2⟩:=eZ.mp hb;unfold Gd;lia
def tN(hB:B<=1000){k:Nat}(hk:k<=mx + 1):(Cc g B mx k).Nodup:=(xk hB k hk).imp λ{a b} h e=>by rw[e]at h;lia
def Im{os:List Nat}(hB:B<=1000)(nd:os.Nodup)(lt:∀b∈os,b < B)(mem:∀b,b∈os↔g b≠ [])(hx:∀b,b < B->(g b).length<=mx):(Cc g B mx mx).Perm os:=by
 refine(List.perm_ext_iff_of_nodup (tN hB ()) nd).mpr λb=> ?_;rw[jA,mem];constructor
 ·rintro ⟨h,j,h1,h2⟩ e
  rw[e,K3]at h2;lia
 ·intro h;have hb:=lt b ((mem b).mpr h);have hp:=List.length_pos_iff.mpr h;have:=hx b hb;exact⟨hb,mx - (g b).length,by lia,by lia⟩
theorem Kb{F:AF}{f:Nat->Int}:∀{os:List Nat},(∀b∈os,F [.int (b:Int)]=.ok (.sh (.int (f b))))->eR F (os.map λ(b:Nat)=>D.int (b:Int))=.ok (os.map λ(b:Nat)=>(f b,D.int (b:Int)))
 | [],_=>rfl
 |b::os,h=>by
  rw[B1,eR,h b (by simp),R.aI,W.dU];simp only;rw[Kb λq hq=>h q (by simp[hq])];rfl
def VR{fb:FE}{δ:DE}{d:D}{x y:Int}(h:fb (δ ++ [some d])=.ok (.sh (.tup [.int x,.int y])))(h0:0<=y/\y < 4611686018427387904):Ez fb δ [d]=.ok (.sh (.int (x * 4611686018427387904 + y))):=by
 unfold Ez;dsimp only;rw[h];exact if_pos h0
def VQ{os:List Nat}(hB:B<=1000)(lt:∀b∈os,b < B){a0 a1 a2 a4 a5 a6 a7 a8:Option D}:∀b∈os,Ez mQ [a0,a1,a2,some (.aD (Cu g os)),a4,a5,a6,a7,a8] [.int (b:Int)]=.ok (.sh (.int (Gd g b))):=λb hb=>by
 have e:mQ ([a0,a1,a2,some (.aD (Cu g os)),a4,a5,a6,a7,a8] ++ [some (.int (b:Int))])=.ok (.sh (.tup [.int (-((g b).length:Int)),.int (b:Int)])):=by
  have h1:=FR (g:=g) hb;show mQ [a0,a1,a2,some (.aD (Cu g os)),a4,a5,a6,a7,a8,some (.int (b:Int))]=_
  simp![mQ,Ak,h1,Cy,A3,mV,uV]
 have hb1:=lt b hb;exact VR e ()
def VP{os:List Nat}(pm:(Cc g B mx mx).Perm os)(so:(Cc g B mx mx).Pairwise λa b=>Gd g a < Gd g b):((os.map λ(b:Nat)=>(Gd g b,D.int (b:Int))).map (·.1)).Nodup/\Ha (os.map λ(b:Nat)=>(Gd g b,D.int (b:Int)))=(Cc g B mx mx).map λ(b:Nat)=>(Gd g b,D.int (b:Int)):=by
 generalize Gd g=kf at so⊢;have Nc:((os.map λ(b:Nat)=>(kf b,D.int (b:Int))).map (·.1)).Nodup:=by
  rw[D7];refine(pm.map (kf)).nodup_iff.mp ?_;exact Q4.mpr (so.imp λ{a b} h=>by lia)
 have e2:Ha (os.map λ(b:Nat)=>(kf b,D.int (b:Int)))=(Cc g B mx mx).map λ(b:Nat)=>(kf b,D.int (b:Int)):=
  (Jr (xB (R:=Eq) (λp q e=>by rw[e]) (KG (os.map λ(b:Nat)=>(kf b,D.int (b:Int)))) (pm.map _) (xp _) Nc (Q4.mpr (so.imp λ{a b} h=>by show kf a<=kf b;lia)) (xI _))).symm
 exact⟨Nc,e2⟩
def VO{os:List Nat}(hB:B<=1000)(nd:os.Nodup)(lt:∀b∈os,b < B)(mem:∀b,b∈os↔g b≠ [])(hx:∀b,b < B->(g b).length<=mx)(hl:os.length < 64){a0 a1 a2 a4 a5 a6 a7 a8:Option D}:gR mQ (Ab 3) [a0,a1,a2,some (.aD (Cu g os)),a4,a5,a6,a7,a8]=.ok (.ow (.lst (Ek (Cc g B mx mx)))):=by
 have hk:=VQ (g:=g) (a0:=a0) (a1:=a1) (a2:=a2) (a4:=a4) (a5:=a5) (a6:=a6) (a7:=a7) (a8:=a8) hB lt;have pm:=Im hB nd lt mem hx;have so:=xk (g:=g) (B:=B) (mx:=mx) hB mx ();obtain⟨Nc,e2⟩:=VP pm so;have e1:(Cu g os).map (λp=>kD p.1)=os.map λ(b:Nat)=>D.int (b:Int):=by
  unfold Cu;rw[D7];rfl
 have ev:Ab 3 [a0,a1,a2,some (.aD (Cu g os)),a4,a5,a6,a7,a8]=.ok (.sh (.aD (Cu g os))):=Eq.refl _;generalize hF:Ez mQ [a0,a1,a2,some (.aD (Cu g os)),a4,a5,a6,a7,a8]=F at hk;unfold gR;rw[ev];simp only[R.aI,W.dU,hF];unfold kU;rw[e1,Kb hk];simp only;rw[if_pos ⟨by rw[A3];exact hl,Nc⟩,e2,D7];rfl
end
def Gv(n io:Nat)(g:Nat->List Int):List Nat->List Int->(Nat->Nat)->Nat ⊕ (List Int×(Nat->Nat))
 | [],T,M=> .inr (T,M)
 |b::r,T,M=>match fH n io T (g b) with
  |none=> .inl b
  |some s=>Gv n io g r (T ++ (g b).map (Bs n (s:Int))) λq=>if q=b then s else M q
section
variable{n io:Nat}{g:Nat->List Int}
def VN(a:List Nat):∀(T:List Int) (M:Nat->Nat) (b:List Nat),Gv n io g (a ++ b) T M=match Gv n io g a T M with
  | .inl q=> .inl q
  | .inr p=>Gv n io g b p.1 p.2:=by
 induction a with
 |nil=>intro T M b;rfl
 |cons x a ih=>
  intro T M b;rw[Q9,Gv,Gv];cases fH n io T (g x) with
  |none=>rfl
  |some s=>exact ih _ _ b
def XD(hm:1<=io)(T:List Int):fH n io T []=some 0:=by
 obtain⟨k,rfl⟩:∃k,io=k + 1:=⟨io - 1,by lia⟩;unfold fH;rw[List.range_succ_eq_map,N6];have:El T (([]:List Int).map (Bs n ((0:Nat):Int)))=true:=E8 ⟨R5,λr hr=>by simp at hr⟩;rw[this]
theorem Il(hm:1<=io):∀(l:List Nat) (T:List Int) (M:Nat->Nat),(∀b∈l,g b= []/\M b=0)->Gv n io g l T M=.inr (T,M)
 | [],_,_,_=>rfl
 |b::l,T,M,h=>by
  obtain⟨h1,h2⟩:=h b (by simp);rw[Gv,h1,XD hm];simp only[O0,D9];have:(λq=>if q=b then 0 else M q)=M:=funext λq=>by
   by_cases e:q=b
   ·rw[if_pos e,e,h2]
   ·rw[if_neg e]
  rw[this];exact Il hm l T M λq hq=>h q (by simp[hq])
structure ki(n io:Nat)(g:Nat->List Int)(l:List Nat)(T:List Int)(M:Nat->Nat)(T':List Int)(M':Nat->Nat):Prop where
 out:∀q,q∉l->M' q=M q
 bd:∀q∈l,M' q < io
 eq:T'=T ++ l.flatMap λb=>(g b).map (Bs n (M' b:Int))
 nd:T.Nodup->T'.Nodup
theorem qP:∀(l:List Nat) (T:List Int) (M:Nat->Nat) (T':List Int) (M':Nat->Nat),l.Nodup->Gv n io g l T M=.inr (T',M')->ki n io g l T M T' M'
 | [],T,M,T',M',_,e=>by
  cases e;exact⟨λ_ _=>rfl,λq hq=>by simp at hq,by simp,λh=>h⟩
 |b::l,T,M,T',M',nd,e=>by
  rw[Gv]at e;obtain⟨n1,n2⟩:=J8.mp nd;cases h:fH n io T (g b) with
  |none=>rw[h]at e;cases e
  |some s=>
   rw[h]at e;obtain⟨s1,s2,_⟩:=oQ h;have s2:=D3 s2;have d:=qP l _ _ T' M' n2 e;have mb:M' b=s:=by rw[d.out b n1,if_pos rfl]
   refine⟨λq hq=> ?_,λq hq=> ?_, ?_,λhT=>d.nd ?_⟩
   ·rw[d.out q (λz=>hq (by simp[z])),if_neg (λz=>hq (by simp[z]))]
   ·rcases B8.mp hq with rfl|hq
    ·rw[mb];exact s1
    ·exact d.bd q hq
   ·rw[d.eq,List.flatMap_cons,K9,mb]
   ·exact V7.mpr ⟨hT,s2.1,λa ha c hc z=>s2.2 c hc (z▸ha)⟩
end
noncomputable def Cm(P:List Nat)(M:Nat->Nat):List (Ap×D):=P.map λ(b:Nat)=>(Sum.inl (b:Int),D.int (M b:Int))
def Sm{P:List Nat}{M:Nat->Nat}{b s:Nat}(h:b∉P):Ga (Cm P M) (.inl (b:Int)) (.int (s:Int))=Cm (P ++ [b]) λq=>if q=b then s else M q:=by
 have e1:((Cm P M).any λkv=>decide (kv.1=Sum.inl (b:Int)))=false:=by
  rw[List.any_eq_false];intro kv hkv z;obtain⟨q,hq,rfl⟩:=D8.mp hkv;exact h (by rw[<-eX.mp (D3 z)];exact hq)
 unfold Ga;rw[e1,if_neg A6];unfold Cm;rw[E7,List.map_singleton];simp only[if_true];refine L8 (· ++ _) (D1 λq hq=> ?_);rw[if_neg (λz:q=b=>h (z▸hq))]
def Sk(P:List Nat)(M:Nat->Nat):(Cm P M).length=P.length:=A3 _
theorem Jq{α:Type}(f:α->Ap×D):∀l:List α,Tn.cE (l.map λa=>((f a).1,Tn.sh (f a).2))=true
 | []=>by simp only[O0,Tn.cE]
 |a::l=>by simp only[B1,Tn.cE,Tn.bL,Jq f l,Bool.and_self]
def XA(aW:List (Ap×D)):(Tn.of (.aD aW)).bL=true:=by
 show Tn.bL (.aD (aW.map λp=>(p.1,.sh p.2)))=true;simp only[Tn.bL];exact Jq (λp:Ap×D=>p) aW
def iF(b:Nat):Xn:=⟨"NoFit",["at"],[.int (b:Int)]⟩
section
variable{n io:Nat}{g:Nat->List Int}
def cA.app{T R:List Int}(h:cA n T)(hR:cA n R):cA n (T ++ R):=λx hx=>(F9.mp hx).elim (h x) (hR x)
def cA.rm(h1:1<=n)(s:Int)(X:List Int):cA n (X.map (Bs n s)):=λr hr=>by
 obtain⟨x,_,rfl⟩:=D8.mp hr;exact gQ s x h1
theorem wo{fg:FG}{body:FS}{st:List Int->Sl->SE}{s:Nat}(h1:1<=n)(hn:n<=1000)
  (hg:∀T a x,fg (.int x) (st T a)=.ok (st T (.sh (.int x))))
  (hb:∀T x,cA n T->Bs n (s:Int) x∉T->T.length < 100000->body (st T (.sh (.int x)))=.nx (st (T ++ [Bs n (s:Int) x]) (.sh (.int x)))):∀(X T:List Int) (a:Sl),cA n T->(X.map (Bs n (s:Int))).Nodup->(∀r∈X.map (Bs n (s:Int)),r∉T)->T.length + X.length < 100000->∃a',Cf fg body (X.map .int) (st T a)=.nx (st (T ++ X.map (Bs n (s:Int))) a')
 | [],T,a,_,_,_,_=>⟨a,by rw[O0,O0,D9];rfl⟩
 |x::X,T,a,hT,nd,no,hl=>by
  rw[B1]at nd no;obtain⟨n1,n2⟩:=J8.mp nd;rw[B5]at hl;obtain⟨a',e⟩:=wo h1 hn hg hb X (T ++ [Bs n (s:Int) x]) (.sh (.int x)) (hT.snoc (gQ _ _ h1)) n2 (λr hr q=>by
   rcases F9.mp q with q|q
   ·exact no r (by simp only[B8];exact .inr hr) q
   ·rw[J9.mp q]at hr;exact n1 hr) (by rw[A7,M7];lia)
  refine⟨a', ?_⟩;rw[B1,Hh (hg T a x) (hb T x hT (no _ (by simp)) ()),e,K9,B1];rfl
def Dv(L:List Int)(Bd:D)(io:Nat)(kd:List (Ap×D))(T:List Int)(N:List (Ap×D))(a6 a7 a8:Sl):SE:=[.sh (.lst (L.map .int)),.sh Bd,.sh (.int (io:Int)),.sh (.aD kd),.ow (.aD (Bk T)),.ow (.aD N),a6,a7,a8]
def VM{L:List Int}{Bd:D}{kd N:List (Ap×D)}{a6:Sl}{s:Nat}(h1:1<=L.length)(hL:L.length<=1000)(hs:s<=1000)(T:List Int)(x:Int)(hT:cA L.length T)(no:Bs L.length (s:Int) x∉T)(hl:T.length < 100000):
  AV (Dv L Bd io kd T N a6 (.sh (.int (s:Int))) (.sh (.int x)))=.nx (Dv L Bd io kd (T ++ [Bs L.length (s:Int) x]) N a6 (.sh (.int (s:Int))) (.sh (.int x))):=by
 have e1:=xm L.length (s:Int) x () () h1;have hz:(Bk T).length < 16777216:=by rw[wM];lia
 have hp:=wN hT hL (gQ (s:Int) x h1) no
 simp![AV,Dv,Er,Ak,Cy,A3,e1,Ec,hz,hp,if_true]
theorem Jp{L:List Int}{B:Nat}{os:List Nat}(h1:1<=L.length)(hL:L.length<=1000)(hm:io<=1000)(hg:∀b,(g b).length<=1000){Bd:D}:∀(l P:List Nat) (T:List Int) (M:Nat->Nat) (a6 a7 a8:Sl),(∀b∈l,b∈os)->(P ++ l).Nodup->cA L.length T->T.length + 1001 * l.length < 90000->P.length + l.length<=1000->
  match Gv L.length io g l T M with
  | .inl q=>∃Δ',Cf (gV 6) pv (Ek l) (Dv L Bd io (Cu g os) T (Cm P M) a6 a7 a8)=.ex (iF q) Δ'
  | .inr p=>∃b6 b7 b8,Cf (gV 6) pv (Ek l) (Dv L Bd io (Cu g os) T (Cm P M) a6 a7 a8)=.nx (Dv L Bd io (Cu g os) p.1 (Cm (P ++ l) p.2) b6 b7 b8)
 | [],P,T,M,a6,a7,a8,_,_,_,_,_=>⟨a6,a7,a8,by rw[D9];rfl⟩
 |b::l,P,T,M,a6,a7,a8,oX,nd,hT,hl,hP=>by
  have sM:gV 6 (.int (b:Int)) (Dv L Bd io (Cu g os) T (Cm P M) a6 a7 a8)=.ok (Dv L Bd io (Cu g os) T (Cm P M) (.sh (.int (b:Int))) a7 a8):=rfl;have bp:=FR (g:=g) (oX b (by simp));have hle:=VU (X:=g b) h1 hL hm hT (hg b);have jW:b∉P:=λz=>(V7.mp nd).2.2 b z b (by simp) rfl;rw[B5]at hl hP;have q1:mZ 7 (ng [4] (At 4 yv #v[Ah Fy (Ab 3) (Ab 6),Ag Bu #v[0],4,2])) (Dv L Bd io (Cu g os) T (Cm P M) (.sh (.int (b:Int))) a7 a8)=.nx (Dv L Bd io (Cu g os) T (Cm P M) (.sh (.int (b:Int))) (.sh (kO (fH L.length io T (g b)))) a8):=by
   have hv:Hi [4] (Dv L Bd io (Cu g os) T (Cm P M) (.sh (.int (b:Int))) a7 a8)= [some (.lst (L.map .int)),some Bd,some (.int (io:Int)),some (.aD (Cu g os)),some (.aD (Bk T)),none,some (.int (b:Int)),a7.mB,a8.mB]:=rfl;have hld:nR [4] (Dv L Bd io (Cu g os) T (Cm P M) (.sh (.int (b:Int))) a7 a8)=true:=by
    show((Tn.of (.aD (Bk T))).bL && true)=true;rw[XA];rfl
   have he:At 4 yv #v[Ah Fy (Ab 3) (Ab 6),Ag Bu #v[0],4,2] [some (.lst (L.map .int)),some Bd,some (.int (io:Int)),some (.aD (Cu g os)),some (.aD (Bk T)),none,some (.int (b:Int)),a7.mB,a8.mB]=.ok (.sh (kO (fH L.length io T (g b)))):=by
    simp![Ak,bp,Cy,A3,hle]
   have bH:vq (.sh (kO (fH L.length io T (g b))))=true:=by
    cases fH L.length io T (g b) <;> rfl
   unfold mZ ng;rw[hld,if_pos rfl,hv,he];simp only[bH,if_true];rfl
  rw[Gv];cases e:fH L.length io T (g b) with
  |none=>
   rw[e]at q1;refine⟨_,Rt sM (Δ2:=Dv L Bd io (Cu g os) T (Cm P M) (.sh (.int (b:Int))) (.sh .aJ) a8) ?_⟩;unfold pv;rw[Ba q1]
   simp![Dv,kO,Ak,lQ,iF]
  |some s=>
   rw[e]at q1;obtain⟨s1,s2,_⟩:=oQ e;have s2:=D3 s2;have q2:Bv [7] (An (Ah (Di false) (Ab 7) (eC .aJ))) (lQ "NoFit" "at" [6] (Ab 6)) Ay (Dv L Bd io (Cu g os) T (Cm P M) (.sh (.int (b:Int))) (.sh (.int (s:Int))) a8)=.nx (Dv L Bd io (Cu g os) T (Cm P M) (.sh (.int (b:Int))) (.sh (.int (s:Int))) a8):=by
    simp![Dv,Ak]
   have hz:(Cm P M).length < 16777216:=by rw[Sk];lia
   have q3:Er 5 [7] (Ab 6) (Ab 7) (Dv L Bd io (Cu g os) T (Cm P M) (.sh (.int (b:Int))) (.sh (.int (s:Int))) a8)=.nx (Dv L Bd io (Cu g os) T (Cm (P ++ [b]) λq=>if q=b then s else M q) (.sh (.int (b:Int))) (.sh (.int (s:Int))) a8):=by
    simp![Dv,Er,Ak,Ec,hz,if_true,Sm jW]
   obtain⟨c8,e4⟩:=wo (fg:=gV 8) (st:=λT a=>Dv L Bd io (Cu g os) T (Cm (P ++ [b]) λq=>if q=b then s else M q) (.sh (.int (b:Int))) (.sh (.int (s:Int))) a) (body:=AV) (s:=s) h1 hL (λ_ _ _=>rfl) (λT x hT no hl=>VM h1 hL () T x hT no hl) (g b) T a8 hT s2.1 s2.2 (by have:=hg b;lia);have q4:Bt [3,6] (Bo (Ah Fy (Ab 3) (Ab 6))) (gV 8) AV (Dv L Bd io (Cu g os) T (Cm (P ++ [b]) λq=>if q=b then s else M q) (.sh (.int (b:Int))) (.sh (.int (s:Int))) a8)=.nx (Dv L Bd io (Cu g os) (T ++ (g b).map (Bs L.length (s:Int))) (Cm (P ++ [b]) λq=>if q=b then s else M q) (.sh (.int (b:Int))) (.sh (.int (s:Int))) c8):=by
    have hi:Bo (Ah Fy (Ab 3) (Ab 6)) (Bn (Dv L Bd io (Cu g os) T (Cm (P ++ [b]) λq=>if q=b then s else M q) (.sh (.int (b:Int))) (.sh (.int (s:Int))) a8))=.ok ((g b).map .int):=by
     simp![Dv,Ak,bp]
    unfold Bt;rw[hi];exact e4
   have hb:pv (Dv L Bd io (Cu g os) T (Cm P M) (.sh (.int (b:Int))) a7 a8)=.nx (Dv L Bd io (Cu g os) (T ++ (g b).map (Bs L.length (s:Int))) (Cm (P ++ [b]) λq=>if q=b then s else M q) (.sh (.int (b:Int))) (.sh (.int (s:Int))) c8):=by
    unfold pv;rw[Ba q1,kO,Ba q2,Ba q3,q4]
   have ih:=Jp (os:=os) (B:=B) h1 hL hm hg (Bd:=Bd) l (P ++ [b]) (T ++ (g b).map (Bs L.length (s:Int))) (λq=>if q=b then s else M q) (.sh (.int (b:Int))) (.sh (.int (s:Int))) c8 (λq hq=>oX q (by simp[hq])) (by rw[K9];exact nd) (hT.app (cA.rm h1 _ _)) (by rw[A7,A3];have:=hg b;lia) (by rw[A7,M7];lia);rw[K9,List.singleton_append]at ih;show match Gv L.length io g l (T ++ (g b).map (Bs L.length (s:Int))) (λq=>if q=b then s else M q) with| .inl q=>_| .inr p=>_
   have ec:Cf (gV 6) pv (Ek (b::l)) (Dv L Bd io (Cu g os) T (Cm P M) a6 a7 a8)=Cf (gV 6) pv (Ek l) (Dv L Bd io (Cu g os) (T ++ (g b).map (Bs L.length (s:Int))) (Cm (P ++ [b]) λq=>if q=b then s else M q) (.sh (.int (b:Int))) (.sh (.int (s:Int))) c8):=Hh sM hb;rw[ec];exact ih
end
def jT(B:Nat)(M:Nat->Nat):List D:=(List.range B).map λ(b:Nat)=>D.int (M b:Int)
section
variable{B io:Nat}{g:Nat->List Int}{ks:List D}
def Rr{b:Nat}(hb:b < B):Bw (.lst (Dp g B)) (.int (b:Int))=.ok (.sh (.lst ((g b).map .int))):=Gz (Hr (by unfold Dp;rw[B3,E9 hb];rfl))
def Ua(M:Nat->Nat):(jT B M).length=B:=by unfold jT;rw[A3,K4]
end
def Fe(p n:Nat):List Int:=(List.range n).map λk=>((p + k:Nat):Int)
theorem qu:∀(n:Nat) (l:List Int),l.Nodup->(∀x∈l,0<=x/\x < (n:Int))->l.length<=n
 |0,l,_,hb=>by
  cases l with
  |nil=>exact A9 _
  |cons x l=>have:=hb x (by simp);lia
 |n + 1,l,nd,hb=>by
  by_cases c:(n:Int)∈l
  ·have h1:=(List.perm_cons_erase c).length_eq;have h2:=qu n (l.erase (n:Int)) (nd.erase _) (λx hx=>by
    have hm:=(Z7 nd).mp hx;have:=hb x hm.2;have:=hm.1;lia)
   rw[B5]at h1;lia
  ·have:=qu n l nd (λx hx=>by
    have:=hb x hx;have:x≠(n:Int):=λe=>c (e▸hx);lia)
   lia
theorem vM:∀(n:Nat) (l:List Int),l.Nodup->(∀x∈l,0<=x/\x < (n:Int))->l.length=n->l.Perm (Fe 0 n)
 |0,l,_,hb,hl=>by rw[R6 hl];exact List.Perm.refl _
 |n + 1,l,nd,hb,hl=>by
  have c:(n:Int)∈l:=Decidable.byContradiction λc=>by
   have:=qu n l nd (λx hx=>by
    have:=hb x hx;have:x≠(n:Int):=λe=>c (e▸hx);lia)
   lia
  have h1:=List.perm_cons_erase c;have h2:=vM n (l.erase (n:Int)) (nd.erase _) (λx hx=>by
    have hm:=(Z7 nd).mp hx;have:=hb x hm.2;have:=hm.1;lia) (by have:=h1.length_eq;rw[B5]at this;lia)
  have h3:Fe 0 (n + 1)=Fe 0 n ++ [(n:Int)]:=by
   unfold Fe;rw[List.range_succ,E7];simp
  rw[h3];exact(h1.trans (h2.cons _)).trans (List.perm_append_singleton _ _).symm
def gI(B io:Nat)(L:List Int)(mx:Nat):Nat ⊕ (List Int×(Nat->Nat)):=Gv L.length io (Bc B L) (Cc (Bc B L) B mx mx) [] λ_=>0
def wm{B:Nat}{L:List Int}(h:L.length<=1000)(b:Nat):(Bc B L b).length<=1000:=D4 (vN B L b) h
def FQ{g:Nat->List Int}{B mx k:Nat}(hB:B<=60)(hk:k<=mx + 1):(Cc g B mx k).length<=B:=by
 have hn:=tN (g:=g) (show B<=1000 by lia) hk;have:=qu B ((Cc g B mx k).map λ(b:Nat)=>(b:Int)) (Q4.mpr (hn.imp λ{a b} h z=>h ())) λx hx=>by
  obtain⟨b,hb,rfl⟩:=D8.mp hx;have:=((jA k).mp hb).1;lia
 rwa[A3]at this
def aax{B io mx:Nat}{L:List Int}(hB:1<=B)(mh:B<=60)(h1:1<=L.length)(hL:L.length<=60)(hm:io<=1000)(hx:∀b,b < B->(Bc B L b).length<=mx):sV [.lst (L.map .int),.int (B:Int),.int (io:Int)]=match gI B io L mx with
  | .inl q=> .ex (iF q)
  | .inr p=> .ok (.ow (.aD (Cm (Cc (Bc B L) B mx mx) p.2))):=by
 obtain⟨os,zm,w,e1,hg,hl,hw⟩:=W' hB L ();have hw:=hw (λz=>by rw[z]at h1;simp at h1);subst hw;rw[hg.eq]at e1;have q1:Aj 3 [0,1] (At 2 zM #v[0,1]) (Av 9 [.lst (L.map .int),.int (B:Int),.int (io:Int)])=.nx [.sh (.lst (L.map .int)),.sh (.int (B:Int)),.sh (.int (io:Int)),.tr (.aD (iZ (Bc B L) os)),.no,.no,.no,.no,.no]:=by
  simp![Ak,e1]
 have q2:Aj 4 [] Eo [.sh (.lst (L.map .int)),.sh (.int (B:Int)),.sh (.int (io:Int)),.tr (.aD (iZ (Bc B L) os)),.no,.no,.no,.no,.no]=.nx [.sh (.lst (L.map .int)),.sh (.int (B:Int)),.sh (.int (io:Int)),.tr (.aD (iZ (Bc B L) os)),.ow (.aD (Bk [])),.no,.no,.no,.no]:=rfl;have q3:Aj 5 [] Eo [.sh (.lst (L.map .int)),.sh (.int (B:Int)),.sh (.int (io:Int)),.tr (.aD (iZ (Bc B L) os)),.ow (.aD (Bk [])),.no,.no,.no,.no]=.nx [.sh (.lst (L.map .int)),.sh (.int (B:Int)),.sh (.int (io:Int)),.tr (.aD (iZ (Bc B L) os)),.ow (.aD (Bk [])),.ow (.aD (Cm [] λ_=>0)),.no,.no,.no]:=rfl;have ho:=VO (a0:=some (.lst (L.map .int))) (a1:=some (.int (B:Int))) (a2:=some (.int (io:Int))) (a4:=none) (a5:=none) (a6:=none) (a7:=none) (a8:=none) () hg.nd (hg.lt hB) hg.mem hx ();have pm:=Im () hg.nd (hg.lt hB) hg.mem hx;have hol:=FQ (g:=Bc B L) (mx:=mx) (k:=mx) mh ();have hd:=Jp (g:=Bc B L) (os:=os) (B:=B) (Bd:=.int (B:Int)) h1 () hm (wm ()) (Cc (Bc B L) B mx mx) [] [] (λ_=>0) .no .no .no (λb hb=>pm.mem_iff.mp hb) (by rw[O5];exact tN () ()) (λ_ h=>by simp at h) (by simp;lia) (by simp;lia);have hf:∀r,Cf (gV 6) pv (Ek (Cc (Bc B L) B mx mx)) (Dv L (.int (B:Int)) io (Cu (Bc B L) os) [] (Cm [] λ_=>0) .no .no .no)=r->Bt [3] (Bo (gR mQ (Ab 3))) (gV 6) pv [.sh (.lst (L.map .int)),.sh (.int (B:Int)),.sh (.int (io:Int)),.tr (.aD (iZ (Bc B L) os)),.ow (.aD (Bk [])),.ow (.aD (Cm [] λ_=>0)),.no,.no,.no]=r:=λr e=>by
  have Ph:aC [3] [.sh (.lst (L.map .int)),.sh (.int (B:Int)),.sh (.int (io:Int)),.tr (.aD (iZ (Bc B L) os)),.ow (.aD (Bk [])),.ow (.aD (Cm [] λ_=>0)),.no,.no,.no]=Dv L (.int (B:Int)) io (Cu (Bc B L) os) [] (Cm [] λ_=>0) .no .no .no:=by
   show [.sh (.lst (L.map .int)),.sh (.int (B:Int)),.sh (.int (io:Int)),Sl.sh ((Tn.aD (iZ (Bc B L) os)).d),.ow (.aD (Bk [])),.ow (.aD (Cm [] λ_=>0)),.no,.no,.no]=_;rw[Rk];rfl
  have hi:Bo (gR mQ (Ab 3)) (Bn (Dv L (.int (B:Int)) io (Cu (Bc B L) os) [] (Cm [] λ_=>0) .no .no .no))=.ok (Ek (Cc (Bc B L) B mx mx)):=by
   unfold Bo;show((gR mQ (Ab 3) [some (.lst (L.map .int)),some (.int (B:Int)),some (.int (io:Int)),some (.aD (Cu (Bc B L) os)),none,none,none,none,none]).bind _)=_;rw[ho];rfl
  have h0:Bo (gR mQ (Ab 3)) (Bn [.sh (.lst (L.map .int)),.sh (.int (B:Int)),.sh (.int (io:Int)),.tr (.aD (iZ (Bc B L) os)),.ow (.aD (Bk [])),.ow (.aD (Cm [] λ_=>0)),.no,.no,.no])=.no:=rfl;unfold Bt;rw[Ph,hi];exact e
 unfold gI;unfold sV Al w_0;rw[Ba q1,Ba q2,Ba q3];cases e:Gv L.length io (Bc B L) (Cc (Bc B L) B mx mx) [] (λ_=>0) with
 |inl q=>
  rw[e]at hd;obtain⟨Δ',e2⟩:=hd;unfold Af;rw[hf _ e2]
 |inr p=>
  rw[e]at hd;obtain⟨b6,b7,b8,e2⟩:=hd;rw[Ba (hf _ e2)];rfl
abbrev La:List Str:=["how_many","many_buckets","by_bucket"]
def Cp(n B:Nat)(P:List Nat)(M:Nat->Nat):D:=.obj "Buckets" La [.int (n:Int),.int (B:Int),.aD (Cm P M)]
section
variable(n B:Nat)(P:List Nat)(M:Nat->Nat)(r:List (Option D))
def FP:Fu Lc "how_many" (Ab 0) (some (Cp n B P M)::r)=.ok (.sh (.int (n:Int))):=by rfl'
def DR:Fu ["Buckets"] "many_buckets" (Ab 0) (some (Cp n B P M)::r)=.ok (.sh (.int (B:Int))):=by rfl'
def TZ:Fu ["Buckets"] "by_bucket" (Ab 0) (some (Cp n B P M)::r)=.ok (.sh (.aD (Cm P M))):=by rfl'
end
def Sj(F:AF):([("Buckets",F)]:List (Str×(AF))).lookup ("Buckets" :Str)=some F:=by rfl'
def nO{n B:Nat}{P:List Nat}{M:Nat->Nat}(m:Str)(k:Nat)(F:AF)(fo:FE)(fa:FA)(δ:DE)(ds:List D)(hm:(La:List Str).contains m=false)(h1:fo δ=.ok (.sh (Cp n B P M)))(h2:fa δ=.ok ds)(h3:ds.length=k):Ft m k [("Buckets",F)] fo fa δ=F (Cp n B P M::ds):=by
 unfold Cp at h1⊢;simp only[Ft,h1,R.aI,W.dU,hm,C8,F3,Sj,h2,h3,if_true]
def qF(t:Tn):Sl.mB (.lt t)=none:=rfl
def qO{Δ:SE}{i:Nat}{cs:List Str}{f c:Str}{js:List Nat}{fe:FE}{ns:List Str}{ts:List Tn}{w:W}(hg:aC js Δ=Δ)(h0:Δ[i]? =some (.lt (.obj c ns ts)))(hc:cs.contains c=true/\ns.contains f=false/\ns.length < 1000)(he:fe (Bn Δ)=.ok w):
  fE i cs f js fe Δ=.nx (Δ.set i (.lt (.obj c (ns ++ [f]) (ts ++ [.sh w.d])))):=by
 unfold fE;rw[hg];simp only[h0,he,if_pos hc]
def Xz(d:D):yO [d]=.ok (["how_many"],[d]):=by
 rfl'
def Ik{Δ:SE}{i:Nat}{c:Str}{js:List Nat}{F:List D->R (List Str×List D)}{fe:FE}{w:W}{p:List Str×List D}(hg:aC js Δ=Δ)(h0:Δ[i]? =some (.lt (.obj c [] [])))(he:fe (Bn Δ)=.ok w)(hF:F [w.d]=.ok p):
  gS i c js F fe Δ=.nx (Δ.set i (.lt (.obj c p.1 (p.2.map .sh)))):=by
 unfold gS;rw[hg];simp only[h0,he,hF,if_true]
def KD:(La:List Str).contains "number_in" =false:=by decide +kernel
def VL:(La:List Str).contains "bucket" =false:=by decide +kernel
def Zz:(La:List Str).contains "number_of" =false:=by decide +kernel
def Si:(La:List Str).contains "room" =false:=by decide +kernel
def TY:(La:List Str).contains "rooms" =false:=by decide +kernel
def Xy:(La:List Str).contains "numbers" =false:=by decide +kernel
structure sZ(n B:Nat)(P:List Nat)(M:Nat->Nat):Prop where
 n1:1<=n
 n2:n<=1000
 b1:1<=B
 b2:B<=1000
 out:∀q,q∉P->M q=0
 bd:∀q,M q<=1000
def Eg(n B:Nat)(M:Nat->Nat)(d:D):Int:=Bs n (M (bk B (Ax d)):Int) (Ax d)
section
variable{n B:Nat}{P:List Nat}{M:Nat->Nat}
def TX(h:sZ n B P M)(d:D):0<=Eg n B M d/\Eg n B M d < (n:Int):=gQ _ _ h.n1
def Lq(h:sZ n B P M)(b:Nat):pq [Cp n B P M,.int (b:Int)]=.ok (.sh (.int (M b:Int))):=by
 have hf:=TZ n B P M [some (.int (b:Int))];have hg:qA (Cm P M) (.int (b:Int)) (.int 0)=.ok (.sh (.int (M b:Int))):=by
  unfold qA;simp only[Ec];unfold Cm;rw[vm (λb=>D.int (M b:Int)) b P]
  by_cases z:b∈P
  ·rw[if_pos z]
  ·rw[if_neg z,h.out b z];rfl
 generalize Cp n B P M=O at *
 simp![pq,w_1,Ak,vh,hf,hg]
def Xx(h:sZ n B P M){d:D}(hd:isKey d):qd [Cp n B P M,d]=.ok (.sh (.int ((bk B (Ax d):Nat):Int))):=by
 have hf:=DR n B P M [some d];have hb:=Ls (Ax d) h.b1;generalize Cp n B P M=O at *
 simp![qd,Mp,Ak,hf,nQ hd,hb]
def Xw(h:sZ n B P M){d:D}(hd:isKey d):sU [Cp n B P M,d]=.ok (.sh (.int (Eg n B M d))):=by
 have m1:=nO (n:=n) (B:=B) (P:=P) (M:=M) "bucket" 1 qd (Ab 0) #v[1] [some (Cp n B P M),some d] [d] VL rfl rfl rfl;rw[Xx h hd]at m1;have m2:=nO (n:=n) (B:=B) (P:=P) (M:=M) "number_in" 1 pq (Ab 0) #v[Ft "bucket" 1 [("Buckets",qd)] (Ab 0) #v[1]] [some (Cp n B P M),some d] [.int ((bk B (Ax d):Nat):Int)] KD rfl (by simp![Ak,m1]) rfl;rw[Lq h]at m2;have hf:=FP n B P M [some d];have e:=xm n (M (bk B (Ax d)):Int) (Ax d) () (by have:=h.bd (bk B (Ax d));lia) h.n1;generalize Cp n B P M=O at *
 unfold Eg
 simp![sU,w_2,Ak,nQ hd,m2,hf,e]
def TV(h:sZ n B P M){d:D}(hd:isKey d):sR [Cp n B P M,d]=.ok (.sh (.int (Eg n B M d))):=by
 have hm:=nO (n:=n) (B:=B) (P:=P) (M:=M) "number_of" 1 sU (Ab 0) #v[1] [some (Cp n B P M),some d] [d] Zz rfl rfl rfl;rw[Xw h hd]at hm;have hf:=FP n B P M [some d];have c:min (Eg n B M d) ((n:Int) - 1)=Eg n B M d:=by have:=TX h d;lia
 generalize Cp n B P M=O at *
 simp![sR,Md,Ak,hm,hf,gT,nt,c]
def VJ(h:sZ n B P M){ls:List D}(hk:∀k∈ls,isKey k)(hl:ls.length<=100000):uF [Cp n B P M,.lst ls]=.ok (.ow (.lst ((ls.map (Eg n B M)).map .int))):=by
 have q1:Ea [1] (At 1 qa #v[1]) (Av 2 [Cp n B P M,.lst ls])=.nx [.sh (Cp n B P M),.sh (.lst ls)]:=by
  generalize Cp n B P M=O
  simp![Ak,vO hk]
 have ec:=Ho (m:=1) (fi:=Bo (Ab 1)) (fg:=gC 2) (p:=λ_=> .ok true) (f:=z_9) (δ:=[some (Cp n B P M),some (.lst ls)]) (ds:=ls) (by simp![Ak]) ()
  (lX (λd=> .int (Eg n B M d)) ls λd hd=>⟨[some (Cp n B P M),some (.lst ls),some d],.sh (.int (Eg n B M d)),rfl,by
   have hm:=nO (n:=n) (B:=B) (P:=P) (M:=M) "room" 1 sR (Ab 0) #v[2] [some (Cp n B P M),some (.lst ls),some d] [d] Si rfl rfl rfl;rw[TV h (hk d hd)]at hm;exact hm,rfl⟩)
 have pR:(ls.map λd=>D.int (Eg n B M d))=(ls.map (Eg n B M)).map .int:=by rw[D7];rfl
 rw[pR]at ec;unfold uF Al Ml;rw[Ba q1];have hv:Az [.sh (Cp n B P M),.sh (.lst ls)]= [some (Cp n B P M),some (.lst ls)]:=rfl;unfold Ao;rw[hv,ec]
def YU(h:sZ n B P M):uJ [Cp n B P M]=.ok (.ow (.lst (jT B M))):=by
 have hf:=DR n B P M [];have hb2:=h.b2;have hz:Ca 0 B=(List.range B).map λ(t:Nat)=>D.int (t:Int):=by
  unfold Ca;exact D1 λk _=>by rw[V9]
 have hc:=lX (fg:=gC 1) (f:=OL) (δ:=[some (Cp n B P M),none]) (λd=>match d with| .int b=>D.int (M b.toNat:Int)|d=>d) (Ca 0 B) (λd hd=>by
  rw[hz]at hd;obtain⟨b,hb,rfl⟩:=D8.mp hd;refine⟨[some (Cp n B P M),some (.int (b:Int))],.sh (.int (M b:Int)),rfl, ?_,by simp only[W.dU,F7]⟩;have hm:=nO (n:=n) (B:=B) (P:=P) (M:=M) "number_in" 1 pq (Ab 0) #v[1] [some (Cp n B P M),some (.int (b:Int))] [.int (b:Int)] KD rfl rfl rfl;rw[Lq h]at hm;exact hm)
 have pR:(Ca 0 B).map (λd=>match d with| .int b=>D.int (M b.toNat:Int)|d=>d)=jT B M:=by
  rw[hz,D7];unfold jT;exact D1 λb _=>by simp
 rw[pR]at hc;have ec:=Ho (m:=1) (fi:=Aw Cn #v[Fu ["Buckets"] "many_buckets" (Ab 0)]) (fg:=gC 1) (p:=λ_=> .ok true) (f:=OL) (δ:=[some (Cp n B P M)]) (ds:=Ca 0 B) (by
  generalize Cp n B P M=O at *
  simp![Ak,hf,lU (show(-4611686018427387903:Int)<=(B:Int) by lia) (),F7]) (by rw[oS];lia) hc
 generalize Cp n B P M=O at *
 simp![uJ,z_8,Ak,ec]
end
def rn(vs:List Int):kB 1 (.lst (vs.map .int))=true:=by
 show(vs.map D.int).all (kB 0)=true;exact We 0 (λp:Int=>p) _
def Sh(Fp Gp:AF):([("Buckets",Fp),("Halved",Gp)]:List (Str×(AF))).lookup ("Buckets" :Str)=some Fp:=by rfl'
def Ij{n B:Nat}{P:List Nat}{M:Nat->Nat}(m:Str)(k:Nat)(Fq Gq:AF)(fo:FE)(fa:FA)(δ:DE)(ds:List D)(hm:(La:List Str).contains m=false)(h1:fo δ=.ok (.sh (Cp n B P M)))(h2:fa δ=.ok ds)(h3:ds.length=k):Ft m k [("Buckets",Fq),("Halved",Gq)] fo fa δ=Fq (Cp n B P M::ds):=by
 unfold Cp at h1⊢;simp only[Ft,h1,R.aI,W.dU,hm,C8,F3,Sh,h2,h3,if_true]
def xj(ks:List D):(ks.map λd=>D.int (Ax d))=(ks.map Ax).map .int:=by rw[D7];rfl
abbrev Lh:List Str:=["how_many","many_buckets"]
def TU{ks:List D}{B io mx:Nat}(hk:∀k∈ks,isKey k)(nd:ks.Nodup)(hB:1<=B)(mh:B<=60)(h1:1<=ks.length)(h2:ks.length<=60)(hm:io<=1000)(hx:∀b,b < B->(Bc B (ks.map Ax) b).length<=mx):
  sk [.lst ks,.int (B:Int),.int (io:Int)]=match gI B io (ks.map Ax) mx with
  | .inl q=> .ex (iF q)
  | .inr p=> .ok (La,[.int (ks.length:Int),.int (B:Int),.aD (Cm (Cc (Bc B (ks.map Ax)) B mx mx) p.2)]):=by
 have lk:=GB hk nd h1 ();have hs:=aax (L:=ks.map Ax) hB mh (by rw[A3];exact h1) (by rw[A3];exact h2) hm hx;unfold sk eP x_8;have q1:gS 0 "Buckets" [1] yO (At 1 sE #v[1]) (nv 4 "Buckets" [.lst ks,.int (B:Int),.int (io:Int)])=.nx [.lt (.obj "Buckets" ["how_many"] [.sh (.int (ks.length:Int))]),.sh (.lst ks),.sh (.int (B:Int)),.sh (.int (io:Int))]:=by
  refine Ik (w:=.sh (.int (ks.length:Int))) (p:=(["how_many"],[.int (ks.length:Int)])) rfl rfl ?_ (Xz _);exact lk
 have q2:fE 0 ["Buckets"] "many_buckets" [2] (Ab 2) [.lt (.obj "Buckets" ["how_many"] [.sh (.int (ks.length:Int))]),.sh (.lst ks),.sh (.int (B:Int)),.sh (.int (io:Int))]=.nx [.lt (.obj "Buckets" Lh [.sh (.int (ks.length:Int)),.sh (.int (B:Int))]),.sh (.lst ks),.sh (.int (B:Int)),.sh (.int (io:Int))]:=
  qO (w:=.sh (.int (B:Int))) (c:= "Buckets") (ns:=["how_many"]) (ts:=[.sh (.int (ks.length:Int))]) rfl rfl nofun rfl
 have ec:=Ho (m:=1) (fi:=Bo (Ab 1)) (fg:=gC 4) (p:=λ_=> .ok true) (f:=yI) (δ:=[none,some (.lst ks),some (.int (B:Int)),some (.int (io:Int))]) (ds:=ks) (by simp![Ak]) ()
  (lX (λd=> .int (Ax d)) ks λd hd=>⟨[none,some (.lst ks),some (.int (B:Int)),some (.int (io:Int)),some d],.sh (.int (Ax d)),rfl,by simp![yI,Ak,nQ (hk d hd)],rfl⟩)
 rw[xj]at ec;rw[Ba q1,Ba q2];cases e:gI B io (ks.map Ax) mx with
 |inr p=>
  rw[e]at hs;have q3:fE 0 ["Buckets"] "by_bucket" [1,2,3] (At 3 sV #v[(By 1 (Bo (Ab 1)) (gC 4) (λ_=> .ok true) yI),2,3]) [.lt (.obj "Buckets" Lh [.sh (.int (ks.length:Int)),.sh (.int (B:Int))]),.sh (.lst ks),.sh (.int (B:Int)),.sh (.int (io:Int))]=
    .nx [.lt (.obj "Buckets" La [.sh (.int (ks.length:Int)),.sh (.int (B:Int)),.sh (.aD (Cm (Cc (Bc B (ks.map Ax)) B mx mx) p.2))]),.sh (.lst ks),.sh (.int (B:Int)),.sh (.int (io:Int))]:=by
   refine qO (w:=.ow (.aD (Cm (Cc (Bc B (ks.map Ax)) B mx mx) p.2))) (c:= "Buckets") (ns:= Lh) (ts:=[.sh (.int (ks.length:Int)),.sh (.int (B:Int))]) rfl rfl nofun ?_
   simp![Ak,qF,ec,hs]
  rw[q3];simp only[R4,if_true,mq,L7]
 |inl q=>
  rw[e]at hs;have q3:fE 0 ["Buckets"] "by_bucket" [1,2,3] (At 3 sV #v[(By 1 (Bo (Ab 1)) (gC 4) (λ_=> .ok true) yI),2,3]) [.lt (.obj "Buckets" Lh [.sh (.int (ks.length:Int)),.sh (.int (B:Int))]),.sh (.lst ks),.sh (.int (B:Int)),.sh (.int (io:Int))]=
    .ex (iF q) [.lt (.obj "Buckets" Lh [.sh (.int (ks.length:Int)),.sh (.int (B:Int))]),.sh (.lst ks),.sh (.int (B:Int)),.sh (.int (io:Int))]:=by
   have he:At 3 sV #v[(By 1 (Bo (Ab 1)) (gC 4) (λ_=> .ok true) yI),2,3] (Bn (aC [1,2,3] [.lt (.obj "Buckets" Lh [.sh (.int (ks.length:Int)),.sh (.int (B:Int))]),.sh (.lst ks),.sh (.int (B:Int)),.sh (.int (io:Int))]))=.ex (iF q):=by
    simp![Ak,qF,ec,hs]
   unfold fE;rw[he];rfl
  rw[q3]
def TR(c:Int):∃io:Nat,1<=io/\io<=200/\Bw (.lst [.int (1 + c / 5 % 30),.int 200,.int 200,.int 100]) (.int (c % 4))=.ok (.sh (.int (io:Int))):=by
 rcases(show c % 4=0\/c % 4=1\/c % 4=2\/c % 4=3 by lia) with e|e|e|e
 ·refine⟨(1 + c / 5 % 30).toNat,by lia,by lia, ?_⟩;rw[e,show(((1 + c / 5 % 30).toNat:Nat):Int)=1 + c / 5 % 30 by lia];exact Gz (Hr (i:=0) rfl)
 ·exact⟨200,by lia,by lia,by rw[e];exact Gz (Hr (i:=1) rfl)⟩
 ·exact⟨200,by lia,by lia,by rw[e];exact Gz (Hr (i:=2) rfl)⟩
 ·exact⟨100,by lia,by lia,by rw[e];exact Gz (Hr (i:=3) rfl)⟩
def Sf(c:Int){n:Nat}(hn:n<=60):∃B:Nat,1<=B/\B<=60/\Bw (.lst [.int (1 + c / 120 % 8),.int (1 + c / 120 % 60),.int (max 1 ((n:Int) / 2)),.int (max 1 ((n:Int) / 4))]) (.int (c / 4 % 4))=.ok (.sh (.int (B:Int))):=by
 rcases(show c / 4 % 4=0\/c / 4 % 4=1\/c / 4 % 4=2\/c / 4 % 4=3 by lia) with e|e|e|e
 ·refine⟨(1 + c / 120 % 8).toNat,by lia,by lia, ?_⟩;rw[e,show(((1 + c / 120 % 8).toNat:Nat):Int)=1 + c / 120 % 8 by lia];exact Gz (Hr (i:=0) rfl)
 ·refine⟨(1 + c / 120 % 60).toNat,by lia,by lia, ?_⟩;rw[e,show(((1 + c / 120 % 60).toNat:Nat):Int)=1 + c / 120 % 60 by lia];exact Gz (Hr (i:=1) rfl)
 ·refine⟨(max 1 ((n:Int) / 2)).toNat,by lia,by lia, ?_⟩;rw[e,show(((max 1 ((n:Int) / 2)).toNat:Nat):Int)=max 1 ((n:Int) / 2) by lia];exact Gz (Hr (i:=2) rfl)
 ·refine⟨(max 1 ((n:Int) / 4)).toNat,by lia,by lia, ?_⟩;rw[e,show(((max 1 ((n:Int) / 4)).toNat:Nat):Int)=max 1 ((n:Int) / 4) by lia];exact Gz (Hr (i:=3) rfl)
def VI(c:Int){n:Nat}(hn:n<=60):∃(B io:Nat),1<=B/\B<=60/\1<=io/\io<=200/\yR [.int c,.int (n:Int)]=.ok (.sh (.tup [.int (B:Int),.int (io:Int)])):=by
 obtain⟨io,m1,m2,em⟩:=TR c;obtain⟨B,b1,b2,eb⟩:=Sf c hn;refine⟨B,io,b1,b2,m1,m2, ?_⟩;have a1:=ku (i:=c) (show(0:Int) < 5 by decide) ⋯;have a2:=Gy (i:=c / 5) (show(0:Int) < 30 by decide);have a3:=Gy (i:=c) (show(0:Int) < 4 by decide);have a4:=ku (i:=c) (show(0:Int) < 120 by decide) ⋯;have a5:=Gy (i:=c / 120) (show(0:Int) < 8 by decide);have a6:=Gy (i:=c / 120) (show(0:Int) < 60 by decide);have a7:=ku (i:=(n:Int)) (show(0:Int) < 2 by decide) ⋯;have a8:=ku (i:=(n:Int)) (show(0:Int) < 4 by decide) ⋯;have a9:=ku (i:=c) (show(0:Int) < 4 by decide) ⋯;have a10:=Gy (i:=c / 4) (show(0:Int) < 4 by decide)
 simp![yR,KR,Ak,a1,a2,a3,a4,a5,a6,a7,a8,a9,a10,Ee,nu,em,eb]
theorem Jo(B:Nat):∀(P:List Nat) (L:List Int),P.Nodup->(∀x∈L,bk B x∈P)->(P.flatMap (Bc B L)).Perm L
 | [],L,_,h=>by
  cases L with
  |nil=>exact List.Perm.refl _
  |cons x L=>exact absurd (h x (by simp)) (by simp)
 |b::P,L,nd,h=>by
  obtain⟨n1,n2⟩:=J8.mp nd;have e:P.flatMap (Bc B L)=P.flatMap (Bc B (L.filter λx=> !decide (bk B x=b))):=L8 List.flatten (D1 λq hq=>by
   unfold Bc;rw[List.filter_filter];refine W0 λx _=> ?_
   by_cases z:bk B x=q
   ·have:¬bk B x=b:=λy=>n1 (by rw[<-y,z];exact hq);simp[z,this];rw[<-z];exact this
   ·simp[z])
  rw[List.flatMap_cons,e];have ih:=Jo B P (L.filter λx=> !decide (bk B x=b)) n2 λx hx=>by
   obtain⟨x1,x2⟩:=J7.mp hx;rcases B8.mp (h x x1) with z|z
   ·rw[z]at x2;simp at x2
   ·exact z
  exact(ih.append_left _).trans (ZA8 _ _)
def FN{ks:List D}{B io mx:Nat}{T:List Int}{M:Nat->Nat}(hB:1<=B)(mh:B<=60)(hx:∀b,b < B->(Bc B (ks.map Ax) b).length<=mx)(d:ki ks.length io (Bc B (ks.map Ax)) (Cc (Bc B (ks.map Ax)) B mx mx) [] (λ_=>0) T M):T.Perm (ks.map (Eg ks.length B M)):=by
 have pm:=(Jo B (Cc (Bc B (ks.map Ax)) B mx mx) (ks.map Ax) (tN () ()) λx hxm=>by
  have hb:=vd x hB;have hm:x∈Bc B (ks.map Ax) (bk B x):=J7.mpr ⟨hxm,E8 rfl⟩;have hp:=List.length_pos_of_mem hm;have:=hx _ hb;exact(jA mx).mpr ⟨hb,mx - (Bc B (ks.map Ax) (bk B x)).length,by lia,by lia⟩).map (λx=>Bs ks.length (M (bk B x):Int) x)
 rw[D7]at pm;refine List.Perm.trans (Qp ?_) pm;rw[d.eq,O5,List.map_flatMap];refine L8 List.flatten (D1 λb _=> ?_);refine D1 λx hx=> ?_;rw[D3 (J7.mp hx).2]
def YT{ks:List D}{B io mx:Nat}{T:List Int}{M:Nat->Nat}(hB:1<=B)(mh:B<=60)(h1:1<=ks.length)(hx:∀b,b < B->(Bc B (ks.map Ax) b).length<=mx)(d:ki ks.length io (Bc B (ks.map Ax)) (Cc (Bc B (ks.map Ax)) B mx mx) [] (λ_=>0) T M):
  (ks.map (Eg ks.length B M)).Perm (Fe 0 ks.length):=by
 refine vM ks.length _ ((FN hB mh hx d).nodup_iff.mp (d.nd R5)) (λx hx=> ?_) (A3 _);obtain⟨k,_,rfl⟩:=D8.mp hx;exact gQ _ _ h1
def vb{l:List Int}{n:Nat}(hp:l.Perm (Fe 0 n))(hl:l.length < 64):jw [.lst (l.map .int)]=.ok (.ow (.lst ((Fe 0 n).map .int))):=by
 have h2:nh l=Fe 0 n:=IJ hp.symm (by
  unfold Fe;rw[Q4];exact List.pairwise_lt_range.imp λh=>by lia)
 simp only[jw,nD,hl,if_true,h2]
def mY(n:Nat):(Fe 0 n).map D.int=Ca 0 n:=by
 unfold Fe Ca;rw[D7];apply D1;intro k _;show D.int ((0 + k:Nat):Int)=.int (0 + (k:Int));rw[O7,V9]
def Ii(n:Nat):(uO:List (Str×Bool)).lookup (iF n).c=some true:=by
 show List.lookup (Str.ofString "NoFit") _=_;decide +kernel
def Bz(ks:List D)(B io:Nat)(g:Nat->List Int)(T:List Int)(h nm bd a9 a10 a11 a12:Sl):SE:=[.sh (.lst ks),.sh (.int (B:Int)),.sh (.int (io:Int)),.sh (.lst (Dp g B)),h,nm,bd,.no,.ow (.aD (Bk T)),a9,a10,a11,a12]
def FL{n k:Nat}{d:D}(h:(Ca 0 n)[k]? =some d):k < n/\d=.int (k:Int):=by
 unfold Ca at h;rw[B3]at h
 by_cases z:k < n
 ·rw[E9 z]at h;simp only[L7,V9,Option.some.injEq]at h;exact⟨z,h.symm⟩
 ·rw[F2 (by simp;lia)]at h;cases h
theorem xi{js:List Nat}{t:FT}{bd:FS}{st:Nat->SE}{p:Nat->Bool}{io:Nat}(ht:∀s,s < io->p s=false->t (Az (st s))=.ok true)(hf:∀s,s < io->p s=true->t (Az (st s))=.ok false)(he:t (Az (st io))=.ok false)(hb:∀s,bd (st s)=.nx (st (s + 1))):∀(k s:Nat),s + k=io->(∀t,t < s->p t=false)->∀m:Nat,k < m->Do js t bd m (st s)=.nx (st (((List.range io).find? p).getD io))
 |0,s,hs,jW,m,hk=>by
  obtain⟨m,rfl⟩:∃j,m=j + 1:=⟨m - 1,by lia⟩;have:s=io:=by lia
  subst this;rw[List.find?_eq_none.mpr λt ht=>by rw[jW t (K7.mp ht)];exact A6];exact nZ he
 |k + 1,s,hs,jW,m,hk=>by
  obtain⟨m,rfl⟩:∃j,m=j + 1:=⟨m - 1,by lia⟩;cases hp:p s with
  |true=>
   have e:(List.range io).find? p=some s:=by
    cases q:(List.range io).find? p with
    |none=>rw[Js q s ()]at hp;cases hp
    |some t=>
     obtain⟨a1,a2,a3⟩:=oQ q;rcases T3 s t with z|z|z
     ·rw[a3 s z]at hp;cases hp
     ·rw[z]
     ·rw[jW t z]at a2;cases a2
   rw[e];exact nZ (hf s () hp)
  |false=>
   rw[mD (ht s () hp) (hb s)];refine xi ht hf he hb k (s + 1) () (λt ht=> ?_) m ();rcases Nat.lt_succ_iff_lt_or_eq.mp ht with z|z
   ·exact jW t z
   ·subst z;exact hp
section
variable{B io:Nat}{g:Nat->List Int}{ks:List D}{T:List Int}{hs bd:Sl}
def V'(h1:1<=ks.length)(hn:ks.length<=1000)(hT:cA ks.length T){X:List Int}(hX:X.length<=1000){s:Nat}(hs:s<=1000)(jW:∀t,t < s->El T (X.map (Bs ks.length (t:Int)))=false):yQ [.lst (X.map .int),.int (s:Int),.aD (Bk T),.int (ks.length:Int)]=.ok (.sh (.bl true)):=by
 obtain⟨Δ',e,a4,rfl⟩:=pJ (gV 4) zx (λ_ Δ=>∃a4,Δ= [.sh (.lst (X.map .int)),.sh (.int (s:Int)),.sh (.aD (Bk T)),.sh (.int (ks.length:Int)),a4]) (ds:=Ca 0 s) (Δ:=[.sh (.lst (X.map .int)),.sh (.int (s:Int)),.sh (.aD (Bk T)),.sh (.int (ks.length:Int)),.no]) ⟨_,rfl⟩ (λk d Δ hd hI=>by
  obtain⟨a4,rfl⟩:=hI;obtain⟨k1,rfl⟩:=FL hd;have hf:=Oq h1 hn hT (s:=(k:Int)) () () X hX;rw[jW k k1]at hf;refine⟨[.sh (.lst (X.map .int)),.sh (.int (s:Int)),.sh (.aD (Bk T)),.sh (.int (ks.length:Int)),.sh (.int (k:Int))],rfl,[.sh (.lst (X.map .int)),.sh (.int (s:Int)),.sh (.aD (Bk T)),.sh (.int (ks.length:Int)),.sh (.int (k:Int))],.inl ?_,_,rfl⟩
  simp![zx,Ak,hf])
 have hf:Bt [1] (Aw Cn #v[1]) (gV 4) zx (Av 5 [.lst (X.map .int),.int (s:Int),.aD (Bk T),.int (ks.length:Int)])=.nx [.sh (.lst (X.map .int)),.sh (.int (s:Int)),.sh (.aD (Bk T)),.sh (.int (ks.length:Int)),a4]:=by
  show Bt [1] (Aw Cn #v[1]) (gV 4) zx [.sh (.lst (X.map .int)),.sh (.int (s:Int)),.sh (.aD (Bk T)),.sh (.int (ks.length:Int)),.no]=_;rw[<-e]
  simp![Bt,Ak,lU (show(-4611686018427387903:Int)<=(s:Int) by lia) (),F7]
 refine fR ?_;unfold KP;rw[Ba hf];rfl
def YS{b:Nat}(h1:1<=ks.length)(hn:ks.length<=1000)(hm:io<=1000)(hT:cA ks.length T)(hg:(g b).length<=1000){a9 a12:Sl}:Do [0,2,5,8,10,11] sS zH 3000 (Bz ks B io g T hs (.sh .aJ) bd a9 (.sh (.lst ((g b).map .int))) (.sh (.int ((0:Nat):Int))) a12)=.nx (Bz ks B io g T hs (.sh .aJ) bd a9 (.sh (.lst ((g b).map .int))) (.sh (.int (((fH ks.length io T (g b)).getD io:Nat):Int))) a12):=by
 have hl:=λ(s:Nat) (h:s < io)=>Oq h1 hn hT (s:=(s:Int)) () () (g b) hg;refine xi (st:=λs:Nat=>Bz ks B io g T hs (.sh .aJ) bd a9 (.sh (.lst ((g b).map .int))) (.sh (.int (s:Int))) a12) (λs h e=> ?_) (λs h e=> ?_) ?_ (λs=> ?_) io 0 () (λt ht=>absurd ht (Qq t)) 3000 ()
 ·simp![sS,Bz,Ak,Fz,NS.mpr h,F6,Cy,hl s h,e]
 ·simp![sS,Bz,Ak,Fz,NS.mpr h,F6,Cy,hl s h,e]
 ·simp![sS,Bz,Ak,Fz,Z5,K5]
 ·simp![zH,Bz,Ak,Ee]
  rfl
def VH{s:Nat}{nm a9 a10:Sl}(h1:1<=ks.length)(hn:ks.length<=1000)(hs:s<=1000){h:Sl}(T:List Int)(x:Int)(hT:cA ks.length T)(no:Bs ks.length (s:Int) x∉T)(hl:T.length < 100000):
  zG (Bz ks B io g T h nm bd a9 a10 (.sh (.int (s:Int))) (.sh (.int x)))=.nx (Bz ks B io g (T ++ [Bs ks.length (s:Int) x]) h nm bd a9 a10 (.sh (.int (s:Int))) (.sh (.int x))):=by
 have e1:kJ [.int x,.int ((s:Int) + 1),.int (ks.length:Int)]=.ok (.sh (.int (Bs ks.length (s:Int) x))):=(lW x ((s:Int) + 1) (ks.length:Int) () () ()).2;have hz:(Bk T).length < 16777216:=by rw[wM];lia
 have hp:=wN hT hn (gQ (s:Int) x h1) no
 simp![zG,Bz,Er,Ak,Cy,Ee,e1,Ec,hz,hp,if_true]
def CV(B:Nat)(nm:Sl)(b s:Nat):Prop:=nm=.sh .aJ\/∃M:Nat->Nat,nm=.ow (.lst (jT B M))/\M b=s
def Jn{b:Nat}{nm a10 a11 a12:Sl}(hb:b < B):Aj 10 [3,9] (Ah Bw (Ab 3) (Ab 9)) (Bz ks B io g T hs nm bd (.sh (.int (b:Int))) a10 a11 a12)=.nx (Bz ks B io g T hs nm bd (.sh (.int (b:Int))) (.sh (.lst ((g b).map .int))) a11 a12):=by
 simp![Bz,Ak,Rr hb]
def Jm{a9 a10 a11 a12 nm:Sl}:Aj 11 [] (eC (.int 0)) (Bz ks B io g T hs nm bd a9 a10 a11 a12)=.nx (Bz ks B io g T hs nm bd a9 a10 (.sh (.int ((0:Nat):Int))) a12):=rfl
def Ih{b s:Nat}{nm a12:Sl}(hb:b < B)(h1:1<=ks.length)(hn:ks.length<=1000)(hm:io<=1000)(hT:cA ks.length T)(hg:(g b).length<=1000)(hN:CV B nm b s)(e:(fH ks.length io T (g b)).getD io=s)(G:FS):
  Af (Bv [5] (An (Ah (Di true) (Ab 5) (eC .aJ))) (Aj 11 [5,9] (Ah Bw (Ab 5) (Ab 9))) Ay) (Af (Do [0,2,5,8,10,11] sS zH 3000) G) (Bz ks B io g T hs nm bd (.sh (.int (b:Int))) (.sh (.lst ((g b).map .int))) (.sh (.int ((0:Nat):Int))) a12)=G (Bz ks B io g T hs nm bd (.sh (.int (b:Int))) (.sh (.lst ((g b).map .int))) (.sh (.int (s:Int))) a12):=by
 rcases hN with rfl|⟨M,rfl,hM⟩
 ·have q1:Bv [5] (An (Ah (Di true) (Ab 5) (eC .aJ))) (Aj 11 [5,9] (Ah Bw (Ab 5) (Ab 9))) Ay (Bz ks B io g T hs (.sh .aJ) bd (.sh (.int (b:Int))) (.sh (.lst ((g b).map .int))) (.sh (.int ((0:Nat):Int))) a12)=.nx (Bz ks B io g T hs (.sh .aJ) bd (.sh (.int (b:Int))) (.sh (.lst ((g b).map .int))) (.sh (.int ((0:Nat):Int))) a12):=by
   simp![Bz,Ak]
  have q2:=YS (B:=B) (hs:=hs) (bd:=bd) (a9:=.sh (.int (b:Int))) (a12:=a12) h1 hn hm hT hg;rw[e]at q2;rw[Ba q1,Ba q2]
 ·have ix:Bw (.lst (jT B M)) (.int (b:Int))=.ok (.sh (.int (s:Int))):=Gz (Hr (by unfold jT;rw[B3,E9 hb,<-hM];rfl));generalize jT B M=SD at *
  have q1:Bv [5] (An (Ah (Di true) (Ab 5) (eC .aJ))) (Aj 11 [5,9] (Ah Bw (Ab 5) (Ab 9))) Ay (Bz ks B io g T hs (.ow (.lst SD)) bd (.sh (.int (b:Int))) (.sh (.lst ((g b).map .int))) (.sh (.int ((0:Nat):Int))) a12)=.nx (Bz ks B io g T hs (.ow (.lst SD)) bd (.sh (.int (b:Int))) (.sh (.lst ((g b).map .int))) (.sh (.int (s:Int))) a12):=by
   simp![Bz,Ak,ix,Bf,if_true]
  have q2:Do [0,2,5,8,10,11] sS zH 3000 (Bz ks B io g T hs (.ow (.lst SD)) bd (.sh (.int (b:Int))) (.sh (.lst ((g b).map .int))) (.sh (.int (s:Int))) a12)=.nx (Bz ks B io g T hs (.ow (.lst SD)) bd (.sh (.int (b:Int))) (.sh (.lst ((g b).map .int))) (.sh (.int (s:Int))) a12):=by
   refine nZ (n:=2999) ?_
   simp![sS,Bz,Ak]
  rw[Ba q1,Ba q2]
def Jl{b s:Nat}{nm a10 a11 a12:Sl}(hb:b < B)(h1:1<=ks.length)(hn:ks.length<=1000)(hm:io<=1000)(hT:cA ks.length T)(hTl:T.length < 90000)(hg:(g b).length<=1000)(hN:CV B nm b s)(e:fH ks.length io T (g b)=some s):
  ∃uK,pZ (Bz ks B io g T hs nm bd (.sh (.int (b:Int))) a10 a11 a12)=.nx (Bz ks B io g (T ++ (g b).map (Bs ks.length (s:Int))) hs nm bd (.sh (.int (b:Int))) (.sh (.lst ((g b).map .int))) (.sh (.int (s:Int))) uK):=by
 obtain⟨s1,s2,s3⟩:=oQ e;have s4:=D3 s2;have c:¬((s:Int)=(io:Int)):=by lia
 have c2:(0:Int)<=(s:Int):=by lia
 have c3:(s:Int) < (io:Int):=by lia
 have AK:=Oq h1 hn hT (s:=(s:Int)) () () (g b) hg;rw[s2]at AK;have hle:=V' h1 hn hT hg () s3;obtain⟨c12,e4⟩:=wo (n:=ks.length) (fg:=gV 12) (st:=λT a=>Bz ks B io g T hs nm bd (.sh (.int (b:Int))) (.sh (.lst ((g b).map .int))) (.sh (.int (s:Int))) a) (body:=zG) (s:=s) h1 hn (λ_ _ _=>rfl) (λT x hT no hl=>VH h1 hn () T x hT no hl) (g b) T a12 hT s4.1 s4.2 ();refine⟨c12, ?_⟩;unfold pZ;rw[Ba (Jn hb),Ba Jm,Ih hb h1 hn hm hT hg hN (by rw[e];rfl)];have q1:Bv [2,11] (An (Ah Dm (Ab 11) (Ab 2))) (Ao [6,9] (Ah Dm (Ab 6) (Ab 9))) Ay (Bz ks B io g T hs nm bd (.sh (.int (b:Int))) (.sh (.lst ((g b).map .int))) (.sh (.int (s:Int))) a12)=.nx (Bz ks B io g T hs nm bd (.sh (.int (b:Int))) (.sh (.lst ((g b).map .int))) (.sh (.int (s:Int))) a12):=by
  simp![Bz,Ak,Ht,c,K5]
 have q2:Bv [0,2,8,10,11] (Fa (Cg (An (gU lY mE (eC (.int 0)) (Ab 11) (Ab 2)))) (Cg (Bb (At 4 uj #v[10,11,8,Ag Bu #v[0]])))) (Ao [] (eC (.bl false))) Ay (Bz ks B io g T hs nm bd (.sh (.int (b:Int))) (.sh (.lst ((g b).map .int))) (.sh (.int (s:Int))) a12)=.nx (Bz ks B io g T hs nm bd (.sh (.int (b:Int))) (.sh (.lst ((g b).map .int))) (.sh (.int (s:Int))) a12):=by
  simp![Bz,Ak,gU,gK,Fz,c2,c3,F6,Cy,AK]
 have q3:Bv [0,8,10,11] (Cg (Bb (At 4 yQ #v[10,11,8,Ag Bu #v[0]]))) (Ao [] (eC (.bl false))) Ay (Bz ks B io g T hs nm bd (.sh (.int (b:Int))) (.sh (.lst ((g b).map .int))) (.sh (.int (s:Int))) a12)=.nx (Bz ks B io g T hs nm bd (.sh (.int (b:Int))) (.sh (.lst ((g b).map .int))) (.sh (.int (s:Int))) a12):=by
  simp![Bz,Ak,Cy,hle]
 have q4:Bt [10] (Bo (Ab 10)) (gV 12) zG (Bz ks B io g T hs nm bd (.sh (.int (b:Int))) (.sh (.lst ((g b).map .int))) (.sh (.int (s:Int))) a12)=.nx (Bz ks B io g (T ++ (g b).map (Bs ks.length (s:Int))) hs nm bd (.sh (.int (b:Int))) (.sh (.lst ((g b).map .int))) (.sh (.int (s:Int))) c12):=by
  unfold Bt;exact e4
 rw[Ba q1,Ba q2,Ba q3,q4]
end
section
variable{B io:Nat}{g:Nat->List Int}{ks:List D}{hs:Sl}
def Xv{b:Nat}{T:List Int}{a10 a11 a12:Sl}(hb:b < B)(h1:1<=ks.length)(hn:ks.length<=1000)(hm:io<=1000)(hT:cA ks.length T)(hg:(g b).length<=1000)(e:fH ks.length io T (g b)=none):
  pZ (Bz ks B io g T hs (.sh .aJ) (.sh (.int (b:Int))) (.sh (.int (b:Int))) a10 a11 a12)=.rt (.sh (.bl true)):=by
 unfold pZ;rw[Ba (Jn hb),Ba Jm,Ih (s:=io) hb h1 hn hm hT hg (.inl rfl) (by rw[e];rfl)]
 simp![Bz,Ak,Ht,F6]
theorem Jk(h1:1<=ks.length)(hn:ks.length<=1000)(hm:io<=1000)(hg:∀b,(g b).length<=1000){q:Nat}:∀(l:List Nat) (T:List Int) (M:Nat->Nat) (a9 a10 a11 a12:Sl),(∀b∈l,b < B)->cA ks.length T->T.length + 1001 * l.length < 90000->Gv ks.length io g l T M=.inl q->
  Cf (gV 9) pZ (Ek l) (Bz ks B io g T hs (.sh .aJ) (.sh (.int (q:Int))) a9 a10 a11 a12)=.rt (.sh (.bl true))
 | [],T,M,a9,a10,a11,a12,_,_,_,e=>by cases e
 |b::l,T,M,a9,a10,a11,a12,oX,hT,hl,e=>by
  rw[B5]at hl;have Nx:=hg b;rw[Gv]at e;cases z:fH ks.length io T (g b) with
  |none=>
   rw[z]at e;have e:b=q:=by injection e
   subst e;exact ve (Δ1:=Bz ks B io g T hs (.sh .aJ) (.sh (.int (b:Int))) (.sh (.int (b:Int))) a10 a11 a12) rfl (Xv (oX b (by simp)) h1 hn hm hT Nx z)
  |some s=>
   rw[z]at e;obtain⟨uK,eb⟩:=Jl (hs:=hs) (bd:=.sh (.int (q:Int))) (a10:=a10) (a11:=a11) (a12:=a12) (oX b (by simp)) h1 hn hm hT () Nx (.inl rfl) z;have ih:=Jk h1 hn hm hg l _ _ (.sh (.int (b:Int))) (.sh (.lst ((g b).map .int))) (.sh (.int (s:Int))) uK (λr hr=>oX r (by simp[hr])) (hT.app (cA.rm h1 _ _)) (by rw[A7,A3];lia) e;exact(Hh (Δ1:=Bz ks B io g T hs (.sh .aJ) (.sh (.int (q:Int))) (.sh (.int (b:Int))) a10 a11 a12) rfl eb).trans ih
theorem Ig(h1:1<=ks.length)(hn:ks.length<=1000)(hm:io<=1000)(hg:∀b,(g b).length<=1000){bd:Sl}{T':List Int}{M':Nat->Nat}:∀(l:List Nat) (T:List Int) (M:Nat->Nat) (a9 a10 a11 a12:Sl),(∀b∈l,b < B)->l.Nodup->cA ks.length T->T.length + 1001 * l.length < 90000->Gv ks.length io g l T M=.inr (T',M')->
  ∃b9 b10 b11 uK,Cf (gV 9) pZ (Ek l) (Bz ks B io g T hs (.ow (.lst (jT B M'))) bd a9 a10 a11 a12)=.nx (Bz ks B io g T' hs (.ow (.lst (jT B M'))) bd b9 b10 b11 uK)
 | [],T,M,a9,a10,a11,a12,_,_,_,_,e=>by cases e;exact⟨a9,a10,a11,a12,rfl⟩
 |b::l,T,M,a9,a10,a11,a12,oX,nd,hT,hl,e=>by
  rw[B5]at hl;have Nx:=hg b;obtain⟨n1,n2⟩:=J8.mp nd;rw[Gv]at e;cases z:fH ks.length io T (g b) with
  |none=>rw[z]at e;cases e
  |some s=>
   rw[z]at e;have d:=qP l _ _ T' M' n2 e;have mb:M' b=s:=by rw[d.out b n1,if_pos rfl]
   obtain⟨uK,eb⟩:=Jl (hs:=hs) (bd:=bd) (a10:=a10) (a11:=a11) (a12:=a12) (oX b (by simp)) h1 hn hm hT () Nx (.inr ⟨M',rfl,mb⟩) z;obtain⟨c9,c10,c11,c12,ih⟩:=Ig h1 hn hm hg l _ _ (.sh (.int (b:Int))) (.sh (.lst ((g b).map .int))) (.sh (.int (s:Int))) uK (λr hr=>oX r (by simp[hr])) n2 (hT.app (cA.rm h1 _ _)) (by rw[A7,A3];lia) e;exact⟨c9,c10,c11,c12,(Hh (Δ1:=Bz ks B io g T hs (.ow (.lst (jT B M'))) bd (.sh (.int (b:Int))) a10 a11 a12) rfl eb).trans ih⟩
end
def VG{B io mx:Nat}{L:List Int}(mh:B<=60)(hm1:1<=io):Gv L.length io (Bc B L) (Cc (Bc B L) B mx (mx + 1)) [] (λ_=>0)=gI B io L mx:=by
 unfold gI;rw[Cc,VN];have hn0:∀b∈ky (Bc B L) B (mx - mx),Bc B L b= []:=λb hb=>by
  have:=(eZ.mp hb).2;exact R6 ()
 cases e:Gv L.length io (Bc B L) (Cc (Bc B L) B mx mx) [] (λ_=>0) with
 |inl q=>rfl
 |inr p=>
  have d:=qP _ _ _ p.1 p.2 (tN () ()) e;refine(Il hm1 _ p.1 p.2 λb hb=>⟨hn0 b hb,d.out b λz=> ?_⟩);obtain⟨_,j,j1,j2⟩:=(jA mx).mp z;rw[hn0 b hb,K3]at j2;lia
def YR(T:List Int)(h:∀r∈T,0<=r):vi [.aD (Bk T)]=.ok (.ow (.lst (T.map .int))):=by
 show R.ok (W.ow (D.lst ((Bk T).map λp=>kD p.1)))=_;refine L8 (λl=>R.ok (W.ow (D.lst l))) ?_;unfold Bk fN;rw[D7,D7];exact D1 λr hr=>rfl
def U'{ks:List D}{B io:Nat}(hk:∀k∈ks,isKey k)(nd:ks.Nodup)(b1:1<=B)(b2:B<=60)(h1:1<=ks.length)(h2:ks.length<=60)(m1:1<=io)(hm:io<=1000):MP [.lst ks,.int (B:Int),.int (io:Int)]=.ok (.sh (.bl true)):=by
 have Nq:(ks.map Ax).length=ks.length:=A3 _;obtain⟨mx,hmx,hx,ht⟩:=YV (g:=Bc B (ks.map Ax)) b1 () (wm ());have ah:=TU (io:=io) hk nd b1 b2 h1 h2 hm hx;have ur:=VG (B:=B) (io:=io) (mx:=mx) (L:=ks.map Ax) b2 m1;rw[Nq]at ur;have e1:=aay b1 () hk ();have hol:=FQ (g:=Bc B (ks.map Ax)) (mx:=mx) (k:=mx + 1) b2 (A9 _);have yA:∀b,(Bc B (ks.map Ax) b).length<=1000:=wm ();have fL:∀b∈Cc (Bc B (ks.map Ax)) B mx (mx + 1),b < B:=λb hb=>((jA _).mp hb).1;have hR0:cA ks.length []:=λ_ h=>by simp at h
 have cf:([]:List Int).length + 1001 * (Cc (Bc B (ks.map Ax)) B mx (mx + 1)).length < 90000:=by simp;lia
 have t1:Aj 3 [0,1] (At 2 zK #v[0,1]) (Av 13 [.lst ks,.int (B:Int),.int (io:Int)])=.nx [.sh (.lst ks),.sh (.int (B:Int)),.sh (.int (io:Int)),.tr (.lst (Eu (Bc B (ks.map Ax)) B)),.no,.no,.no,.no,.no,.no,.no,.no,.no]:=by
  simp![Ak,e1]
 let Δ:Sl->Sl->Sl->Sl->SE:=λa4 a5 a6 a8=> [.sh (.lst ks),.sh (.int (B:Int)),.sh (.int (io:Int)),.tr (.lst (Eu (Bc B (ks.map Ax)) B)),a4,a5,a6,.no,a8,.no,.no,.no,.no]
 have t2:Aj 4 [] (eC .aJ) (Δ .no .no .no .no)=.nx (Δ (.sh .aJ) .no .no .no):=rfl;have t3:Aj 5 [] (eC .aJ) (Δ (.sh .aJ) .no .no .no)=.nx (Δ (.sh .aJ) (.sh .aJ) .no .no):=rfl;have t4:Aj 6 [] (eC .aJ) (Δ (.sh .aJ) (.sh .aJ) .no .no)=.nx (Δ (.sh .aJ) (.sh .aJ) (.sh .aJ) .no):=rfl;have t6:∀a4 a5 a6,Aj 8 [] Eo (Δ a4 a5 a6 .no)=.nx (Δ a4 a5 a6 (.ow (.aD (Bk [])))):=λ_ _ _=>rfl;have hf:∀a4 a5 a6 r,Cf (gV 9) pZ (Ek (Cc (Bc B (ks.map Ax)) B mx (mx + 1))) (Bz ks B io (Bc B (ks.map Ax)) [] a4 a5 a6 .no .no .no .no)=r->Bt [3] (Bo (At 1 yt #v[3])) (gV 9) pZ (Δ a4 a5 a6 (.ow (.aD (Bk []))))=r:=λa4 a5 a6 r e=>by
  have Ph:aC [3] (Δ a4 a5 a6 (.ow (.aD (Bk []))))=Bz ks B io (Bc B (ks.map Ax)) [] a4 a5 a6 .no .no .no .no:=by
   show [.sh (.lst ks),.sh (.int (B:Int)),.sh (.int (io:Int)),Sl.sh ((Tn.lst (Eu (Bc B (ks.map Ax)) B)).d),a4,a5,a6,.no,.ow (.aD (Bk [])),.no,.no,.no,.no]=_;rw[QT];rfl
  have hi:Bo (At 1 yt #v[3]) (Bn (Bz ks B io (Bc B (ks.map Ax)) [] a4 a5 a6 .no .no .no .no))=.ok (Ek (Cc (Bc B (ks.map Ax)) B mx (mx + 1))):=by
   simp![Bz,Ak,ht]
  unfold Bt;rw[Ph,hi];exact e
 have ha:∀δ:DE,Aa (Ag Gi #v[0]) #v[1,2] (some (.lst ks)::some (.int (B:Int))::some (.int (io:Int))::δ)=.ok [.lst ks,.int (B:Int),.int (io:Int)]:=λ δ=>by simp![Ak,Gi]
 have lk:∀δ:DE,Aa (Ag Gi #v[0]) Ac (some (.lst ks)::δ)=.ok [.lst ks]:=λ δ=>by simp![Ak,Gi]
 refine fR ?_;unfold LK;rw[Ba t1];show Af _ _ (Δ .no .no .no .no)=_;rw[Ba t2,Ba t3,Ba t4];cases e:gI B io (ks.map Ax) mx with
 |inl q=>
  rw[e]at ah ur;simp only at ah;have hw:=Jk (hs:=.sh .aJ) h1 () hm yA _ _ _ .no .no .no .no fL hR0 cf ur;have eI:∀δ:DE,Gb "Buckets" 3 sk #v[Ag Gi #v[0],1,2] (some (.lst ks)::some (.int (B:Int))::some (.int (io:Int))::δ)=.ex (iF q):=λ δ=>by
   unfold Gb;rw[ha,R.aI,if_pos (show [D.lst ks,.int (B:Int),.int (io:Int)].length=3 from rfl),ah];rfl
  have t5:Hf zI [⟨some 7, uO,Ot⟩] (Δ (.sh .aJ) (.sh .aJ) (.sh .aJ) .no)=.nx (Δ (.sh .aJ) (.sh .aJ) (.sh (.int (q:Int))) .no):=by
   simp![Δ,Hf,zI,Ak,eI,fX,Ii,mT,qy]
   rfl
  rw[Ba t5,Ba (t6 _ _ _)];unfold Af;rw[hf _ _ _ _ hw]
 |inr p=>
  obtain⟨T,M⟩:=p;rw[e]at ah ur;simp only at ah;have dl:ki ks.length io (Bc B (ks.map Ax)) (Cc (Bc B (ks.map Ax)) B mx mx) [] (λ_=>0) T M:=by
   unfold gI at e;rw[Nq]at e;exact qP _ _ _ _ _ (tN () ()) e
  have ar:=YT b1 b2 h1 hx dl;have OY:T.Perm (Fe 0 ks.length):=(FN b1 b2 hx dl).trans ar;have hTl:T.length < 64:=by have:=OY.length_eq;simp only[Fe,A3,K4]at this;lia
  have hT0:∀r∈T,0<=r:=λr hr=>by
   have:=OY.mem_iff.mp hr;obtain⟨k,_,rfl⟩:=D8.mp this;lia
  obtain⟨c9,c10,c11,c12,hw⟩:=Ig (hs:=.sh (Cp ks.length B (Cc (Bc B (ks.map Ax)) B mx mx) M)) (bd:=.sh .aJ) h1 () hm yA _ _ _ .no .no .no .no fL (tN () (A9 _)) hR0 cf ur;generalize hP:Cc (Bc B (ks.map Ax)) B mx mx=P at *
  have ft:sZ ks.length B P M:=⟨by lia,by lia,b1,by lia,λq hq=>dl.out q hq,λq=>by
   by_cases z:q∈P
   ·have:=dl.bd q z;lia
   ·rw[dl.out q z];lia⟩
  have zP:=vb ar (by rw[A3];lia);rw[mY]at zP;have hsT:=vb OY hTl;rw[mY]at hsT;have hli:=YR T hT0;have rk:=VJ ft hk ();have nb:=YU ft;have m2:=λ(fo:FE) (δ:DE) (h1:fo δ=.ok (.sh (Cp ks.length B P M))) (h2:Aa (Ag Gi #v[0]) Ac δ=.ok [.lst ks])=>Ij (n:=ks.length) (B:=B) (P:=P) (M:=M) "rooms" 1 uF uC fo #v[Ag Gi #v[0]] δ [.lst ks] TY h1 h2 rfl;have m3:=λ(fo:FE) (δ:DE) (h1:fo δ=.ok (.sh (Cp ks.length B P M)))=>Ij (n:=ks.length) (B:=B) (P:=P) (M:=M) "numbers" 0 uJ uG fo Ac δ [] Xy h1 rfl rfl;have zQ:(jT B M).length=B:=Ua M;have Pq:∃oc on ov,Cp ks.length B P M=.obj oc on ov:=⟨_,_,_,rfl⟩;have mkO:∀δ:DE,Gb "Buckets" 3 sk #v[Ag Gi #v[0],1,2] (some (.lst ks)::some (.int (B:Int))::some (.int (io:Int))::δ)=.ok (.sh (Cp ks.length B P M)):=λ δ=>by
   unfold Gb;rw[ha,R.aI,if_pos (show [D.lst ks,.int (B:Int),.int (io:Int)].length=3 from rfl),ah];rfl
  generalize Cp ks.length B P M=O at *
  obtain⟨oc,on,ov,hO⟩:=Pq;generalize jT B M=SD at *
  have t5:Hf zI [⟨some 7, uO,Ot⟩] (Δ (.sh .aJ) (.sh .aJ) (.sh .aJ) .no)=.nx (Δ (.sh O) (.ow (.lst SD)) (.sh .aJ) .no):=by
   have zX:∀a0 a1 a2 a3 δ,_:=λa0 a1 a2 a3 δ=>m3 (Ab 4) (a0::a1::a2::a3::some O::δ) rfl;rw[nb]at zX
   simp![Δ,Hf,zI,Ak,mkO,zX]
  rw[Ba t5,Ba (t6 _ _ _),Ba (hf _ _ _ _ hw)];refine(Ba (by simp![Bz,Ak,Cy,zQ,GX,F6];rfl)).trans ?_;have hr:∀δ:DE,gE Cn #v[Ag Bu #v[0]] (some (.lst ks)::δ)=.ok (.ow (.lst (Ca 0 ks.length))):=λ δ=>by
   simp![Ak,gE,Cy,lU (show(-4611686018427387903:Int)<=(ks.length:Int) by lia) (),F7]
   rw[if_pos (by rw[oS];lia)]
  have hz:Dm (.lst (Ca 0 ks.length)) (.lst (Ca 0 ks.length))=.ok (.sh (.bl true)):=by
   rw[<-mY];exact IA 1 (rn _)
  have zS:∀a1 a2 a3 δ,_:=λa1 a2 a3 δ=>m2 (Ab 4) (some (.lst ks)::a1::a2::a3::some O::δ) rfl (lk _);rw[rk]at zS
  simp![Ak,hr,zS,zP,hsT,hli,hz]
def Bm(b:Int)(L:List Int)(s:Int):List Int:=L.filter λx=>decide (Ck x s 2=b)
def Ie(b s:Int)(L:List Int):((L.map D.int).filter λd=>match d with| .int x=>decide (Ck x s 2=b)|_=>false).map (λd=>d)=(Bm b L s).map .int:=by
 rw[V8,U3];rfl
def vL(L:List Int)(s:Int)(s0:0<=s)(s1:s < 1000)(hl:L.length<=1000):tY [.lst (L.map .int),.int s]=.ok (.ow (.lst ((Bm 0 L s).map .int))):=by
 have hc:=su (fg:=gC 2) (p:=ML) (f:=Ab 2) (δ:=[some (.lst (L.map .int)),some (.int s),none]) (λd=>match d with| .int x=>decide (Ck x s 2=0)|_=>false) (λd=>d) (L.map .int) (λd hd=>by
  obtain⟨x,hx,rfl⟩:=D8.mp hd;refine⟨[some (.lst (L.map .int)),some (.int s),some (.int x)],rfl, ?_,λ_=>⟨_,rfl,rfl⟩⟩
  simp![ML,Ak,(lW x s 2 () () ⋯).2,Ht])
 rw[Ie]at hc;have ec:=Ho (m:=1) (fi:=Bo (Ab 0)) (fg:=gC 2) (p:=ML) (f:=Ab 2) (δ:=[some (.lst (L.map .int)),some (.int s)]) (ds:=L.map .int) (by simp![Ak]) (by rw[A3];lia) hc
 simp![tY,Kf,Ak,ec]
def vK(L:List Int)(s b:Int)(s0:0<=s)(s1:s < 1000)(hl:L.length<=1000):tO [.lst (L.map .int),.int s,.int b]=.ok (.ow (.lst ((Bm b L s).map .int))):=by
 have hc:=su (fg:=gC 3) (p:=rG) (f:=Ab 3) (δ:=[some (.lst (L.map .int)),some (.int s),some (.int b),none]) (λd=>match d with| .int x=>decide (Ck x s 2=b)|_=>false) (λd=>d) (L.map .int) (λd hd=>by
  obtain⟨x,hx,rfl⟩:=D8.mp hd;refine⟨[some (.lst (L.map .int)),some (.int s),some (.int b),some (.int x)],rfl, ?_,λ_=>⟨_,rfl,rfl⟩⟩
  simp![rG,Ak,(lW x s 2 () () ⋯).1,Ht])
 rw[Ie]at hc;have ec:=Ho (m:=1) (fi:=Bo (Ab 0)) (fg:=gC 3) (p:=rG) (f:=Ab 3) (δ:=[some (.lst (L.map .int)),some (.int s),some (.int b)]) (ds:=L.map .int) (by simp![Ak]) (by rw[A3];lia) hc
 simp![tO,Jv,Ak,ec]
def Fj(L:List Int)(s:Int):List Int:=L.map λx=>Ck x s (L.length:Int)
def MN(L:List Int)(s:Int):Bool:=decide (((met (Fj L s)).length:Int)=(L.length:Int))
def FK(L:List Int)(s:Int):(L.map D.int).map (λd=>match d with| .int x=>D.int (Ck x s (L.length:Int))|d=>d)=(Fj L s).map .int:=by
 unfold Fj;rw[D7,D7];rfl
def nN(L:List Int)(s:Int):(Fj L s).length=L.length:=A3 _
def Xu(L:List Int)(s:Int)(s0:0<=s)(s1:s < 1000)(h1:1<=L.length)(hl:L.length<=1000):yY [.lst (L.map .int),.int s]=.ok (.sh (.bl (MN L s))):=by
 have hc:=lX (fg:=gC 2) (f:=MU) (δ:=[some (.lst (L.map .int)),some (.int s),none]) (λd=>match d with| .int x=>D.int (Ck x s (L.length:Int))|d=>d) (L.map .int) (λd hd=>by
  obtain⟨x,hx,rfl⟩:=D8.mp hd;refine⟨[some (.lst (L.map .int)),some (.int s),some (.int x)],.sh (.int (Ck x s (L.length:Int))),rfl, ?_,rfl⟩
  simp![MU,Ak,Cy,A3,(lW x s (L.length:Int) () () ()).2])
 rw[FK]at hc;have ec:=Ho (m:=1) (fi:=Bo (Ab 0)) (fg:=gC 2) (p:=λ_=> .ok true) (f:=MU) (δ:=[some (.lst (L.map .int)),some (.int s)]) (ds:=L.map .int) (by simp![Ak]) (by rw[A3];lia) hc
 simp![yY,LA,Ak,ec,oJ,wq (l:=Fj L s) (by rw[nN];lia),Cy,A3,Ht,MN]
def Fv(leaf:Int)(L:List Int)(s:Int):Bool:=if(L.length:Int)<=leaf then MN L s else decide (((Bm 0 L s).length:Int)=((L.length:Int) + 1) / 2)
def vJ(leaf:Int)(L:List Int)(s:Int)(s0:0<=s)(s1:s < 1000)(h1:1<=L.length)(hl:L.length<=1000):pM [.lst (L.map .int),.int leaf,.int s]=.ok (.sh (.bl (Fv leaf L s))):=by
 by_cases c:(L.length:Int)<=leaf
 ·simp![pM,xn,Ak,Cy,A3,gK,c,F6,Xu L s s0 s1 h1 hl,Fv,if_true]
 ·simp![pM,xn,Ak,Cy,A3,gK,c,K5,vL L s s0 s1 hl,Ee,ku (show(0:Int) < 2 by decide) ⋯,Ht,Fv,F3]
def sy(z leaf:Int)(hf:1<=leaf):si [.int z,.int leaf]=.ok (.sh (.bl (decide (z<=leaf)))):=by
 have e:max leaf 1=leaf:=by lia
 simp![si,Jw,Ak,nu,e,gK]
def qN(z:Int):ub [.int z]=.ok (.sh (.int ((z + 1) / 2))):=by
 simp![ub,KJ,Ak,Ee,ku (show(0:Int) < 2 by decide) ⋯]
def xG(leaf:Int)(hf:1<=leaf)(L:List Int)(s:Int)(s0:0<=s)(s1:s < 1000)(h1:1<=L.length)(hl:L.length<=1000):yp [.lst (L.map .int),.int s,.int leaf]=.ok (.sh (.bl (Fv leaf L s))):=by
 have hc:=lX (fg:=gC 4) (f:=MO) (δ:=[some (.lst (L.map .int)),some (.int s),some (.int leaf),some (.int (L.length:Int)),none]) (λd=>match d with| .int x=>D.int (Ck x s (L.length:Int))|d=>d) (L.map .int) (λd hd=>by
  obtain⟨x,hx,rfl⟩:=D8.mp hd;refine⟨[some (.lst (L.map .int)),some (.int s),some (.int leaf),some (.int (L.length:Int)),some (.int x)],.sh (.int (Ck x s (L.length:Int))),rfl, ?_,rfl⟩
  simp![MO,Ak,(lW x s (L.length:Int) () () ()).1])
 rw[FK]at hc;have ec:=Ho (m:=1) (fi:=Bo (Ab 0)) (fg:=gC 4) (p:=λ_=> .ok true) (f:=MO) (δ:=[some (.lst (L.map .int)),some (.int s),some (.int leaf),some (.int (L.length:Int))]) (ds:=L.map .int) (by simp![Ak]) (by rw[A3];lia) hc
 by_cases c:(L.length:Int)<=leaf
 ·simp![yp,xw,Ak,Cy,A3,sy _ leaf hf,c,F6,ec,oJ,wq (l:=Fj L s) (by rw[nN];lia),Ht,Fv,MN,if_true]
 ·simp![yp,xw,Ak,Cy,A3,sy _ leaf hf,c,K5,vK L s 0 s0 s1 hl,qN,Ht,Fv,F3]
def mj(leaf:Int)(io:Nat)(L:List Int):Option Nat:=(List.range io).find? λs=>Fv leaf L (s:Int)
def mX:Option Nat->D
 |some s=> .int (s:Int)
 |none=> .aJ
def Xt(leaf:Int)(hf:1<=leaf)(io:Nat)(hm:io<=1000)(L:List Int)(h1:1<=L.length)(hl:L.length<=1000):yX [.lst (L.map .int),.int leaf,.int (io:Int)]=.ok (.sh (mX (mj leaf io L))):=by
 have hi:Aw Cn #v[2] [some (.lst (L.map .int)),some (.int leaf),some (.int (io:Int)),none]=.ok (Ca 0 io):=by
  simp![Ak,lU (show(-4611686018427387903:Int)<=(io:Int) by lia) (),F7]
 have hz:∀{k:Nat} {d:D},(Ca 0 io)[k]? =some d->d=.int (k:Int)/\k < io:=λ{k d} e=>by
  unfold Ca at e;rw[B3]at e
  by_cases hk:k < io
  ·rw[E9 hk]at e;simp only[L7,V9,Option.some.injEq]at e;exact⟨e.symm,hk⟩
  ·rw[F2 (by simp;lia)]at e;cases e
 cases e:mj leaf io L with
 |none=>
  have jW:=Js e;obtain⟨Δ',e1,a3,rfl⟩:=pJ (gV 3) pj (λ_ Δ=>∃a3,Δ= [.sh (.lst (L.map .int)),.sh (.int leaf),.sh (.int (io:Int)),a3]) (ds:=Ca 0 io) (Δ:=[.sh (.lst (L.map .int)),.sh (.int leaf),.sh (.int (io:Int)),.no]) ⟨_,rfl⟩
   (λk d Δ hd hI=>by
    obtain⟨a3,rfl⟩:=hI;obtain⟨rfl,hk⟩:=hz hd;refine⟨_,rfl,[.sh (.lst (L.map .int)),.sh (.int leaf),.sh (.int (io:Int)),.sh (.int (k:Int))],.inl ?_,_,rfl⟩
    simp![pj,Ak,xG leaf hf L (k:Int) () () h1 hl,jW k hk])
  refine fR ?_;unfold xH;have AL:Bt [2] (Aw Cn #v[2]) (gV 3) pj (Av 4 [.lst (L.map .int),.int leaf,.int (io:Int)])=.nx [.sh (.lst (L.map .int)),.sh (.int leaf),.sh (.int (io:Int)),a3]:=by
   show Bt [2] (Aw Cn #v[2]) (gV 3) pj [.sh (.lst (L.map .int)),.sh (.int leaf),.sh (.int (io:Int)),.no]=_;have h2:Aw Cn #v[2] (Bn [.sh (.lst (L.map .int)),.sh (.int leaf),.sh (.int (io:Int)),.no])=.ok (Ca 0 io):=hi;have h3:aC [2] [.sh (.lst (L.map .int)),.sh (.int leaf),.sh (.int (io:Int)),.no]= [.sh (.lst (L.map .int)),.sh (.int leaf),.sh (.int (io:Int)),.no]:=rfl;unfold Bt;simp only[h3,h2];exact e1
  rw[Ba AL];rfl
 |some s=>
  obtain⟨hs,hfs,jW⟩:=oQ e;have hd:(Ca 0 io)[s]? =some (.int (s:Int)):=by
   unfold Ca;rw[B3,E9 hs];simp
  have e1:=VW (gV 3) pj (λ_ Δ=>∃a3,Δ= [.sh (.lst (L.map .int)),.sh (.int leaf),.sh (.int (io:Int)),a3]) (ds:=Ca 0 io) (Δ:=[.sh (.lst (L.map .int)),.sh (.int leaf),.sh (.int (io:Int)),.no]) (n:=s) (r:=.rt (.sh (.int (s:Int)))) ⟨_,rfl⟩ hd
   (λk d Δ hk hd hI=>by
    obtain⟨a3,rfl⟩:=hI;obtain⟨rfl,hkm⟩:=hz hd;refine⟨_,rfl,[.sh (.lst (L.map .int)),.sh (.int leaf),.sh (.int (io:Int)),.sh (.int (k:Int))],.inl ?_,_,rfl⟩
    simp![pj,Ak,xG leaf hf L (k:Int) () () h1 hl,jW k hk])
   (λ Δ hI=>by
    obtain⟨a3,rfl⟩:=hI;refine⟨_,rfl, ?_⟩
    simp![pj,Ak,xG leaf hf L (s:Int) () () h1 hl,hfs]) rfl
  refine fR ?_;unfold xH;have AL:Bt [2] (Aw Cn #v[2]) (gV 3) pj (Av 4 [.lst (L.map .int),.int leaf,.int (io:Int)])=.rt (.sh (.int (s:Int))):=by
   show Bt [2] (Aw Cn #v[2]) (gV 3) pj [.sh (.lst (L.map .int)),.sh (.int leaf),.sh (.int (io:Int)),.no]=_;have h2:Aw Cn #v[2] (Bn [.sh (.lst (L.map .int)),.sh (.int leaf),.sh (.int (io:Int)),.no])=.ok (Ca 0 io):=hi;have h3:aC [2] [.sh (.lst (L.map .int)),.sh (.int leaf),.sh (.int (io:Int)),.no]= [.sh (.lst (L.map .int)),.sh (.int leaf),.sh (.int (io:Int)),.no]:=rfl;unfold Bt;simp only[h3,h2];exact e1
  unfold Af;rw[AL];rfl
section
variable(leaf:Int)(io:Nat)
def Dg:Nat->List Int->List Int->Bool×List Int
 |0,_,zn=>(false,zn)
 |n + 1,L,zn=>match mj leaf io L with
  |none=>(false,zn)
  |some s=>if(L.length:Int)<=leaf then(true,zn ++ [(s:Int)]) else
   match Dg n (Bm 0 L (s:Int)) (zn ++ [(s:Int)]) with
   |(true,r)=>Dg n (Bm 1 L (s:Int)) r
   |(false,r)=>(false,r)
end
def Xs(L:List Int)(s:Int):(Bm 0 L s).length + (Bm 1 L s).length=L.length:=by
 unfold Bm
 induction L with
 |nil=>rfl
 |cons x L ih=>
  have hb:=jY x s 2 ⋯;simp only[Qw];rcases(show Ck x s 2=0\/Ck x s 2=1 by lia) with e|e
  ·simp only[e,F6,if_true,B5,show decide ((0:Int)=1)=false from rfl,C8,F3];lia
  ·simp only[e,F6,if_true,B5,show decide ((1:Int)=0)=false from rfl,C8,F3];lia
def lJ{leaf:Int}{io:Nat}{L:List Int}{s:Nat}(hf:1<=leaf)(e:mj leaf io L=some s)(c:¬(L.length:Int)<=leaf):
  (Bm 0 L (s:Int)).length=(L.length + 1) / 2/\(Bm 1 L (s:Int)).length=L.length - (L.length + 1) / 2/\s < io:=by
 obtain⟨h1,h2,_⟩:=oQ e;unfold Fv at h2;rw[if_neg c]at h2;have h2:=D3 h2;have h3:=Xs L (s:Int);lia
def FJ(L:List Int)(s:Int):L.filter (λx=> !decide (x∈Bm 0 L s))=Bm 1 L s:=by
 unfold Bm;apply W0;intro x hx;have hb:=jY x s 2 ⋯;rcases(show Ck x s 2=0\/Ck x s 2=1 by lia) with e|e
 ·simp[J7,hx,e]
 ·simp[J7,e]
theorem Ic(x:Int):∀l:List Int,Ds (.int x) (l.map .int)=decide (x∈l)
 | []=>rfl
 |y::l=>by
  have ih:=Ic x l;unfold Ds at ih⊢;rw[B1,Q6,ih];have:PO (D.int y) (D.int x)=decide (y=x):=rfl;simp only[B8];rw[this]
  by_cases h:y=x
  ·subst h;simp
  ·have h':¬x=y:=λz=>h z.symm;simp[h,h']
def Xr(l:List Int):(l.map D.int).all Bf=true:=by
 rw[List.all_map];exact F8.mpr λ_ _=>rfl
def Jj(x:Int)(l:List Int):inD true (.int x) (.lst (l.map .int))=.ok (.sh (.bl (!decide (x∈l)))):=by
 have:=Ic x l;have hf:=Xr l;simp only[inD,hf,show Bf (.int x)=true from rfl,and_self,if_true,this];rfl
theorem yP{leaf:Int}{io:Nat}(hf:1<=leaf):∀(n:Nat) (L zn:List Int),1<=L.length->(Dg leaf io n L zn).2.length<=zn.length + (2 * L.length - 1)
 |0,_,_,_=>by show _<=_;simp[Dg]
 |n + 1,L,zn,h1=>by
  unfold Dg;cases e:mj leaf io L with
  |none=>simp
  |some s=>
   by_cases c:(L.length:Int)<=leaf
   ·simp only[c,if_true,A7,B5,K3];lia
   ·obtain⟨e0,e1,_⟩:=lJ hf e c;have i0:=yP (io:=io) hf n (Bm 0 L (s:Int)) (zn ++ [(s:Int)]) ();rw[A7]at i0;simp only[c,F3];rcases hp:Dg leaf io n (Bm 0 L (s:Int)) (zn ++ [(s:Int)]) with⟨b,r⟩
    rw[hp]at i0;simp only[B5,K3]at i0;cases b with
    |false=>simp only;lia
    |true=>
     have i1:=yP (io:=io) hf n (Bm 1 L (s:Int)) r ();simp only;lia
def Ib(W:List D)(d:D):(W ++ [d])[(W ++ [d]).length - 1]? =some d/\(W ++ [d]).dropLast=W:=by
 constructor
 ·simp
 ·simp
section
variable{leaf:Int}{io:Nat}{L0:D}
noncomputable abbrev Gh(leaf:Int)(io:Nat)(L0:D)(zn:List Int)(W:List D)(a5 a6:Sl):SE:=[.sh L0,.sh (.int leaf),.sh (.int (io:Int)),.ow (.lst (zn.map .int)),.ow (.lst W),a5,a6]
def Ka(zn:List Int)(W:List D)(a5 a6:Sl):sH (Az (Gh leaf io L0 zn W a5 a6))=.ok (decide (0 < (W.length:Int))):=by
 have:Az (Gh leaf io L0 zn W a5 a6)= [some L0,some (.int leaf),some (.int (io:Int)),some (.lst (zn.map .int)),some (.lst W),a5.any,a6.any]:=rfl;rw[this]
 simp![sH,Ak,Cy,kW]
theorem wL(hf:1<=leaf)(hm:io<=1000):∀(n:Nat) (L zn:List Int) (W:List D) (a5 a6:Sl),1<=L.length->L.length<=n->n<=100->zn.length + 2 * L.length<=10000->W.length + 2 * L.length<=10000->
  ((Dg leaf io n L zn).1=true->∃(k:Nat) (b5 b6:Sl),k<=2 * L.length - 1/\∀m,Do [4] sH pe (m + k) (Gh leaf io L0 zn (W ++ [.lst (L.map .int)]) a5 a6)=Do [4] sH pe m (Gh leaf io L0 (Dg leaf io n L zn).2 W b5 b6))/\
  ((Dg leaf io n L zn).1=false->∃(k:Nat),k<=2 * L.length - 1/\∀m,∃Δ,Do [4] sH pe (m + k) (Gh leaf io L0 zn (W ++ [.lst (L.map .int)]) a5 a6)=.ex (iF (Dg leaf io n L zn).2.length) Δ)
 |0,L,zn,W,a5,a6,h1,h2,_,_,_=>by lia
 |n + 1,L,zn,W,a5,a6,h1,h2,h3,h4,h5=>by
  have ht:sH (Az (Gh leaf io L0 zn (W ++ [.lst (L.map .int)]) a5 a6))=.ok true:=by
   rw[Ka,E8 (by rw[A7];simp)]
  have hle:=Xt leaf hf io hm L h1 ();obtain⟨p1,p2⟩:=Ib W (.lst (L.map .int));have u1:gL 5 4 (Gh leaf io L0 zn (W ++ [.lst (L.map .int)]) a5 a6)=.nx (Gh leaf io L0 zn W (.sh (.lst (L.map .int))) a6):=by
   unfold gL;show(match(W ++ [D.lst (L.map .int)])[(W ++ [D.lst (L.map .int)]).length - 1]? with|some d=>Fl.nx _|none=> .no)=_;rw[p1];show Fl.nx [_,_,_,_,Sl.ow (.lst (W ++ [D.lst (L.map .int)]).dropLast),_,_]=_;rw[p2]
  have u2:Aj 6 [1,2,5] (At 3 yX #v[5,1,2]) (Gh leaf io L0 zn W (.sh (.lst (L.map .int))) a6)=.nx (Gh leaf io L0 zn W (.sh (.lst (L.map .int))) (.sh (mX (mj leaf io L)))):=by
   simp![Ak,hle]
  unfold Dg;cases e:mj leaf io L with
  |none=>
   refine⟨λz=>absurd z A6,λ_=>⟨1,by lia,λm=> ?_⟩⟩;rw[e]at u2;have hb:∃Δ,pe (Gh leaf io L0 zn (W ++ [.lst (L.map .int)]) a5 a6)=.ex (iF zn.length) Δ:=by
    unfold pe;rw[Ba u1,Ba u2];refine⟨[.sh L0,.sh (.int leaf),.sh (.int (io:Int)),.sh (.lst (zn.map .int)),.ow (.lst W),.sh (.lst (L.map .int)),.sh .aJ], ?_⟩
    simp![Ak,mX,lQ,Cy,A3,iF]
   obtain⟨Δ,hb⟩:=hb;refine⟨Δ, ?_⟩;unfold Do;rw[ht];simp only[if_true,hb]
  |some s=>
   obtain⟨hs,_,_⟩:=oQ e;rw[e]at u2;have u3:Bv [6] (An (Ah (Di false) (Ab 6) (eC .aJ))) (lQ "NoFit" "at" [3] (Ag Bu #v[3])) Ay (Gh leaf io L0 zn W (.sh (.lst (L.map .int))) (.sh (mX (some s))))=.nx (Gh leaf io L0 zn W (.sh (.lst (L.map .int))) (.sh (.int (s:Int)))):=by
    simp![Ak,mX]
   have sQ:(zn.map D.int).length < 16777216:=by rw[A3];lia
   have u4:Em 3 (Ab 6) (Gh leaf io L0 zn W (.sh (.lst (L.map .int))) (.sh (.int (s:Int))))=.nx (Gh leaf io L0 (zn ++ [(s:Int)]) W (.sh (.lst (L.map .int))) (.sh (.int (s:Int)))):=by
    simp![Em,Ak,sQ]
    unfold Gh;rw[E7];rfl
   by_cases c:(L.length:Int)<=leaf
   ·simp only[c,if_true];refine⟨λ_=>⟨1,_,_,by lia,λm=>mD ht (Δ':=Gh leaf io L0 (zn ++ [(s:Int)]) W (.sh (.lst (L.map .int))) (.sh (.int (s:Int)))) ?_⟩,λz=>by cases z⟩;unfold pe;rw[Ba u1,Ba u2,Ba u3,Ba u4]
    simp![Ak,Cy,A3,sy _ leaf hf,c,F6]
   ·obtain⟨e0,e1,_⟩:=lJ hf e c;have g1:=vK L (s:Int) 1 () () ();have g0:=vK L (s:Int) 0 () () ();have hW:W.length < 16777216:=by lia
    have Po:(W ++ [D.lst ((Bm 1 L (s:Int)).map .int)]).length < 16777216:=by rw[A7];simp;lia
    have hb:pe (Gh leaf io L0 zn (W ++ [.lst (L.map .int)]) a5 a6)=.nx (Gh leaf io L0 (zn ++ [(s:Int)]) ((W ++ [.lst ((Bm 1 L (s:Int)).map .int)]) ++ [.lst ((Bm 0 L (s:Int)).map .int)]) (.sh (.lst (L.map .int))) (.sh (.int (s:Int)))):=by
     unfold pe;rw[Ba u1,Ba u2,Ba u3,Ba u4]
     simp![Ak,Cy,A3,sy _ leaf hf,c,K5,Em,hW,g1,Po,g0]
    simp only[c,F3];obtain⟨r0,r1⟩:=wL hf hm n (Bm 0 L (s:Int)) (zn ++ [(s:Int)]) (W ++ [.lst ((Bm 1 L (s:Int)).map .int)]) (.sh (.lst (L.map .int))) (.sh (.int (s:Int))) () () () (by rw[A7];simp;lia) (by rw[A7];simp;lia);have il:=yP (io:=io) hf n (Bm 0 L (s:Int)) (zn ++ [(s:Int)]) ();rw[A7]at il;rcases hp:Dg leaf io n (Bm 0 L (s:Int)) (zn ++ [(s:Int)]) with⟨b,r⟩
    rw[hp]at r0 r1 il;simp only[B5,K3]at il;cases b with
    |false=>
     obtain⟨k,hk,w⟩:=r1 rfl;refine⟨λz=>absurd (show(false:Bool)=true from z) A6,λ_=>⟨k + 1,by lia,λm=> ?_⟩⟩;obtain⟨Δ,w⟩:=w m;exact⟨Δ,(mD (n:=m + k) ht hb).trans w⟩
    |true=>
     obtain⟨k,b5,b6,hk,w⟩:=r0 rfl;obtain⟨s0,s1⟩:=wL hf hm n (Bm 1 L (s:Int)) r W b5 b6 () () () () ();refine⟨λz=> ?_,λz=> ?_⟩
     ·obtain⟨j,c5,c6,hj,w'⟩:=s0 z;refine⟨j + k + 1,c5,c6,by lia,λm=> ?_⟩;rw[show m + (j + k + 1)=(m + j + k) + 1 by lia];exact((mD ht hb).trans (w (m + j))).trans (w' m)
     ·obtain⟨j,hj,w'⟩:=s1 z;refine⟨j + k + 1,by lia,λm=> ?_⟩;obtain⟨Δ,w'⟩:=w' m;refine⟨Δ, ?_⟩;rw[show m + (j + k + 1)=(m + j + k) + 1 by lia];exact((mD ht hb).trans (w (m + j))).trans w'
end
def VF{leaf:Int}{io:Nat}(hf:1<=leaf)(hm:io<=1000)(n:Nat)(L:List Int)(h1:1<=L.length)(h2:L.length<=n)(h3:n<=100):
  sC [.lst (L.map .int),.int leaf,.int (io:Int)]=if(Dg leaf io n L []).1=true then .ok (.ow (.lst ((Dg leaf io n L []).2.map .int))) else .ex (iF (Dg leaf io n L []).2.length):=by
 have t1:Aj 3 [] (Ci Ac) (Av 7 [.lst (L.map .int),.int leaf,.int (io:Int)])=.nx [.sh (.lst (L.map .int)),.sh (.int leaf),.sh (.int (io:Int)),.ow (.lst []),.no,.no,.no]:=by
  simp![Ak]
 have t2:Aj 4 [0] (Ci #v[0]) [.sh (.lst (L.map .int)),.sh (.int leaf),.sh (.int (io:Int)),.ow (.lst []),.no,.no,.no]=.nx (Gh leaf io (.lst (L.map .int)) [] ([] ++ [.lst (L.map .int)]) .no .no):=by
  simp![Ak]
  rfl
 obtain⟨r0,r1⟩:=wL (L0:=.lst (L.map .int)) hf hm n L [] [] .no .no h1 h2 h3 (by simp;lia) (by simp;lia);cases hb:(Dg leaf io n L []).1 with
 |true=>
  obtain⟨k,b5,b6,hk,w⟩:=r0 hb;have w:=w (3000 - k);rw[show 3000 - k + k=3000 by lia]at w;have we:Do [4] sH pe (3000 - k) (Gh leaf io (.lst (L.map .int)) (Dg leaf io n L []).2 [] b5 b6)=.nx (Gh leaf io (.lst (L.map .int)) (Dg leaf io n L []).2 [] b5 b6):=by
   rw[show 3000 - k=(2999 - k) + 1 by lia];exact nZ (by rw[Ka];rfl)
  rw[if_pos rfl];refine fR ?_;unfold xu;rw[Ba t1,Ba t2,Ba (w.trans we)];rfl
 |false=>
  obtain⟨k,hk,w⟩:=r1 hb;obtain⟨Δ,w⟩:=w (3000 - k);rw[show 3000 - k + k=3000 by lia]at w;rw[if_neg A6];unfold sC Al xu;rw[Ba t1,Ba t2];unfold Af;rw[w]
noncomputable def jR(leaf:Int):Nat->Nat->Nat
 |0,_=>1
 |n + 1,z=>if(z:Int)<=leaf then 1 else 1 + jR leaf n ((z + 1) / 2) + jR leaf n (z - (z + 1) / 2)
def vI(leaf:Int):∀n z,1<=jR leaf n z
 |0,_=>A9 _
 |n + 1,z=>by
  unfold jR
  split
  ·exact A9 _
  ·lia
theorem qE{leaf:Int}(hf:1<=leaf):∀(n m z:Nat),z<=n->z<=m->jR leaf n z=jR leaf m z
 |0,0,z,_,_=>rfl
 |0,m + 1,z,h1,h2=>by
  have:(z:Int)<=leaf:=by lia
  simp only[jR,this,if_true]
 |n + 1,0,z,h1,h2=>by
  have:(z:Int)<=leaf:=by lia
  simp only[jR,this,if_true]
 |n + 1,m + 1,z,h1,h2=>by
  unfold jR
  by_cases c:(z:Int)<=leaf
  ·simp only[c,if_true]
  ·simp only[c,F3];rw[qE hf n m ((z + 1) / 2) () (),qE hf n m (z - (z + 1) / 2) () ()]
def pc(leaf:Int)(z:Nat):Nat:=jR leaf z z
def vH{leaf:Int}(hf:1<=leaf){z:Nat}(h:(z:Int)<=leaf):pc leaf z=1:=by
 unfold pc;cases z with
 |zero=>rfl
 |succ z=>simp only[jR,h,if_true]
def vG{leaf:Int}(hf:1<=leaf){z:Nat}(h:¬(z:Int)<=leaf):pc leaf z=1 + pc leaf ((z + 1) / 2) + pc leaf (z - (z + 1) / 2):=by
 unfold pc;obtain⟨y,rfl⟩:∃y,z=y + 1:=⟨z - 1,by lia⟩;rw[show jR leaf (y + 1) (y + 1)=1 + jR leaf y ((y + 1 + 1) / 2) + jR leaf y (y + 1 - (y + 1 + 1) / 2) from if_neg h];rw[qE hf y ((y + 1 + 1) / 2) _ () (),qE hf y (y + 1 - (y + 1 + 1) / 2) _ () ()]
theorem wk{leaf:Int}(hf:1<=leaf):∀(n z:Nat),z < n->uh n [.int (z:Int),.int leaf]=.ok (.sh (.int (pc leaf z:Nat)))
 |0,z,h=>by lia
 |n + 1,z,h=>by
  show Al 3 (MV (uh n)) _=_
  by_cases c:(z:Int)<=leaf
  ·rw[vH hf c]
   simp![MV,Ak,sy _ leaf hf,c,F6];rfl
  ·have a2:=wk hf n ((z + 1) / 2) ();have b2:=wk hf n (z - (z + 1) / 2) ();have e1:((z:Int) + 1) / 2=(((z + 1) / 2:Nat):Int):=by lia
   have e2:(z:Int) - (((z + 1) / 2:Nat):Int)=((z - (z + 1) / 2:Nat):Int):=by lia
   have e3:(1:Int) + (pc leaf ((z + 1) / 2):Nat) + (pc leaf (z - (z + 1) / 2):Nat)=(pc leaf z:Nat):=by rw[vG hf c];lia
   simp![MV,Ak,sy _ leaf hf,c,K5,qN,e1,gT,e2,a2,b2,Ee,e3]
def Dn(leaf:Int)(S:List Int)(x:Int):Nat->Nat->Nat->Nat->Int
 |0,_,_,_=>0
 |n + 1,z,a,p=>if(z:Int)<=leaf then(p:Int) + Ck x (S.getD a 0) (z:Int) else
  if Ck x (S.getD a 0) 2=0 then Dn leaf S x n ((z + 1) / 2) (a + 1) p else Dn leaf S x n (z - (z + 1) / 2) (a + 1 + pc leaf ((z + 1) / 2)) (p + (z + 1) / 2)
theorem qD{leaf:Int}(hf:1<=leaf)(S:List Int)(x:Int):∀(n z a p:Nat),1<=z->z<=n->(p:Int)<=Dn leaf S x n z a p/\Dn leaf S x n z a p < ((p + z:Nat):Int)
 |0,z,a,p,h1,h2=>by lia
 |n + 1,z,a,p,h1,h2=>by
  unfold Dn
  by_cases c:(z:Int)<=leaf
  ·simp only[c,if_true];have:=jY x (S.getD a 0) (z:Int) ();lia
  ·simp only[c,F3]
   by_cases d:Ck x (S.getD a 0) 2=0
   ·simp only[d,if_true];have:=qD hf S x n ((z + 1) / 2) (a + 1) p () ();lia
   ·simp only[d,F3];have:=qD hf S x n (z - (z + 1) / 2) (a + 1 + pc leaf ((z + 1) / 2)) (p + (z + 1) / 2) () ();lia
section
variable{leaf:Int}{S:List Int}{x:Int}
def vF{a:Nat}(h:a < S.length):Bw (.lst (S.map .int)) (.int (a:Int))=.ok (.sh (.int (S.getD a 0))):=by
 refine Gz (Hr ?_);rw[B3,B6 h];simp[List.getD,h]
def FH(hS:∀s∈S,0<=s/\s < 1000){a:Nat}(h:a < S.length):0<=S.getD a 0/\S.getD a 0 < 1000:=by
 have:S.getD a 0=S[a]:=by simp[List.getD,h]
 rw[this];exact hS _ (R1 h)
end
def DQ{l:List Int}(h:(met l).length=l.length):l.Nodup:=(GA l).2.mp h
def YQ(p n:Nat):(Fe 0 n).map (λy=>(p:Int) + y)=Fe p n:=by
 unfold Fe;rw[D7];apply D1;intro k _;simp
def VE(p a b:Nat):Fe p (a + b)=Fe p a ++ Fe (p + a) b:=by
 unfold Fe;rw[List.range_add,E7,D7]
 congr 1
 apply D1;intro k _;simp;lia
def YO(L:List Int)(s:Int):(Bm 0 L s ++ Bm 1 L s).Perm L:=by
 have:Bm 1 L s=L.filter λx=> !decide (Ck x s 2=0):=by
  unfold Bm;apply W0;intro x _;have hb:=jY x s 2 ⋯;rcases(show Ck x s 2=0\/Ck x s 2=1 by lia) with e|e <;> simp[e]
 rw[this];exact ZA8 _ _
def wj(a:List Int)(s:Int)(r:List Int):(a ++ s::r).getD a.length 0=s:=by
 simp[List.getD]
theorem se{leaf:Int}{io:Nat}(hf:1<=leaf):∀(n:Nat) (L zn R:List Int),1<=L.length->L.length<=n->Dg leaf io n L zn=(true,R)->
  ∃T,R=zn ++ T/\T.length=pc leaf L.length/\(∀t∈T,0<=t/\t < (io:Int))/\∀(U:List Int) (p:Nat),(L.map λx=>Dn leaf (R ++ U) x n L.length zn.length p).Perm (Fe p L.length)
 |0,L,zn,R,h1,h2,_=>by lia
 |n + 1,L,zn,R,h1,h2,h=>by
  unfold Dg at h;cases e:mj leaf io L with
  |none=>rw[e]at h;cases h
  |some s=>
   rw[e]at h;simp only at h;obtain⟨hs,az,_⟩:=oQ e
   by_cases c:(L.length:Int)<=leaf
   ·rw[if_pos c]at h;cases h;refine⟨[(s:Int)],rfl,by rw[vH hf c];rfl,λt ht=>by rw[J9.mp ht];lia,λU p=> ?_⟩;unfold Fv at az;rw[if_pos c]at az;have hu:=D3 az;have Pa:(Fj L (s:Int)).Nodup:=DQ (by rw[nN];lia);have hp:=(vM L.length (Fj L (s:Int)) Pa (λx hx=>by
     obtain⟨y,_,rfl⟩:=D8.mp hx;exact jY y (s:Int) _ ()) (nN L _)).map (λy=>(p:Int) + y)
    rw[YQ]at hp;have hm:(L.map λx=>Dn leaf (zn ++ [(s:Int)] ++ U) x (n + 1) L.length zn.length p)=(Fj L (s:Int)).map (λy=>(p:Int) + y):=by
     unfold Fj;rw[D7];apply D1;intro x _;have g:(zn ++ [(s:Int)] ++ U).getD zn.length 0=(s:Int):=by rw[K9];exact wj zn (s:Int) U
     simp only[Dn,c,if_true,g];rfl
    rw[hm];exact hp
   ·rw[if_neg c]at h;obtain⟨e0,e1,_⟩:=lJ hf e c;rcases hp:Dg leaf io n (Bm 0 L (s:Int)) (zn ++ [(s:Int)]) with⟨b,r⟩
    rw[hp]at h;cases b with
    |false=>cases h
    |true=>
     simp only at h;obtain⟨T1,t1,t2,t3,t4⟩:=se hf n (Bm 0 L (s:Int)) (zn ++ [(s:Int)]) r () () hp;obtain⟨T2,u1,u2,u3,u4⟩:=se hf n (Bm 1 L (s:Int)) r R () () h;refine⟨[(s:Int)] ++ T1 ++ T2,by rw[u1,t1];simp, ?_, ?_,λU p=> ?_⟩
     ·rw[vG hf c,A7,A7,t2,u2,e0,e1];rfl
     ·intro t ht;rcases F9.mp ht with ht|ht
      ·rcases F9.mp ht with ht|ht
       ·rw[J9.mp ht];lia
       ·exact t3 t ht
      ·exact u3 t ht
     ·have g:(R ++ U).getD zn.length 0=(s:Int):=by
       rw[u1,t1];simp only[K9];exact wj zn (s:Int) _
      have p1:=t4 (T2 ++ U) p;have p2:=u4 U (p + (L.length + 1) / 2);rw[<-K9,<-u1]at p1;have m1:((Bm 0 L (s:Int)).map λx=>Dn leaf (R ++ U) x (n + 1) L.length zn.length p)=(Bm 0 L (s:Int)).map λx=>Dn leaf (R ++ U) x n (Bm 0 L (s:Int)).length (zn ++ [(s:Int)]).length p:=by
       apply D1;intro x hx;have d:=D3 (J7.mp hx).2;simp only[Dn,c,F3,g,d,if_true,e0,A7,B5,K3]
      have m2:((Bm 1 L (s:Int)).map λx=>Dn leaf (R ++ U) x (n + 1) L.length zn.length p)=(Bm 1 L (s:Int)).map λx=>Dn leaf (R ++ U) x n (Bm 1 L (s:Int)).length r.length (p + (L.length + 1) / 2):=by
       apply D1;intro x hx;have d:=D3 (J7.mp hx).2;have d':¬Ck x (s:Int) 2=0:=by lia
       have hr:r.length=zn.length + 1 + pc leaf ((L.length + 1) / 2):=by rw[t1,A7,A7,t2,e0];rfl
       simp only[Dn,c,F3,g,d',e1,hr]
      have hL:L.length=(Bm 0 L (s:Int)).length + (Bm 1 L (s:Int)).length:=by lia
      have bw:(L.map λx=>Dn leaf (R ++ U) x (n + 1) L.length zn.length p).Perm ((Bm 0 L (s:Int) ++ Bm 1 L (s:Int)).map λx=>Dn leaf (R ++ U) x (n + 1) L.length zn.length p):=((YO L (s:Int)).symm.map _);rw[E7,m1,m2]at bw;refine bw.trans ?_;have hE:Fe p L.length=Fe p (Bm 0 L (s:Int)).length ++ Fe (p + (L.length + 1) / 2) (Bm 1 L (s:Int)).length:=by
       rw[<-e0,<-VE,<-hL]
      rw[hE];exact p1.append p2
noncomputable abbrev Lb:List Str:=["how_many","leaf","salts"]
def Dy(n leaf:Int)(S:List Int):D:=.obj "Halved" Lb [.int n,.int leaf,.lst (S.map .int)]
section
variable(n leaf:Int)(S:List Int)(r:List (Option D))
def Ia:Fu Lc "how_many" (Ab 0) (some (Dy n leaf S)::r)=.ok (.sh (.int n)):=by rfl'
def TQ:Fu ["Halved"] "leaf" (Ab 0) (some (Dy n leaf S)::r)=.ok (.sh (.int leaf)):=by rfl'
def wg:Fu ["Halved"] "salts" (Ab 0) (some (Dy n leaf S)::r)=.ok (.sh (.lst (S.map .int))):=by rfl'
end
def luH(F:AF):([("Halved",F)]:List (Str×(AF))).lookup ("Halved" :Str)=some F:=by rfl'
def CU{n leaf:Int}{S:List Int}(m:Str)(k:Nat)(F:AF)(fo:FE)(fa:FA)(δ:DE)(ds:List D)(hm:(Lb:List Str).contains m=false)(h1:fo δ=.ok (.sh (Dy n leaf S)))(h2:fa δ=.ok ds)(h3:ds.length=k):Ft m k [("Halved",F)] fo fa δ=F (Dy n leaf S::ds):=by
 unfold Dy at h1⊢;simp only[Ft,h1,R.aI,W.dU,hm,C8,F3,luH,h2,h3,if_true]
def YN(d:D):yN [d]=.ok (["how_many"],[d]):=by
 rfl'
section
variable{leaf:Int}{S:List Int}{x:Int}{d M:D}
theorem vE(fl:∀r,Fu ["Halved"] "leaf" (Ab 0) (some M::r)=.ok (.sh (.int leaf)))(fs:∀r,Fu ["Halved"] "salts" (Ab 0) (some M::r)=.ok (.sh (.lst (S.map .int))))(hf:1<=leaf)(hS:∀s∈S,0<=s/\s < 1000):∀(n z a p:Nat) (a6:Sl),1<=z->z<=n->n<=69->a + pc leaf z<=S.length->∀m,n < m->∃(z' a' p':Nat) (b6:Sl),(z':Int)<=leaf/\1<=z'/\a' < S.length/\Dn leaf S x n z a p=(p':Int) + Ck x (S.getD a' 0) (z':Int)/\
  Do [0,3] AU yH m [.sh M,.sh d,.sh (.int x),.sh (.int (z:Int)),.sh (.int (a:Int)),.sh (.int (p:Int)),a6]=.nx [.sh M,.sh d,.sh (.int x),.sh (.int (z':Int)),.sh (.int (a':Int)),.sh (.int (p':Int)),b6]
 |0,z,a,p,a6,h1,h2,_,_,_,_=>by lia
 |n + 1,z,a,p,a6,h1,h2,h3,h4,m,hm=>by
  obtain⟨m,rfl⟩:∃j,m=j + 1:=⟨m - 1,by lia⟩;have hv:∀q:Sl,Az [.sh M,.sh d,.sh (.int x),.sh (.int (z:Int)),.sh (.int (a:Int)),.sh (.int (p:Int)),q]= [some M,some d,some (.int x),some (.int (z:Int)),some (.int (a:Int)),some (.int (p:Int)),q.any]:=λ_=>rfl
  by_cases c:(z:Int)<=leaf
  ·rw[vH hf c]at h4;refine⟨z,a,p,a6,c,h1,by lia,by simp only[Dn,c,if_true],nZ ?_⟩;rw[hv]
   simp![AU,Ak,fl,sy _ leaf hf,c,F6]
  ·have ht:AU (Az [.sh M,.sh d,.sh (.int x),.sh (.int (z:Int)),.sh (.int (a:Int)),.sh (.int (p:Int)),a6])=.ok true:=by
    rw[hv]
    simp![AU,Ak,fl,sy _ leaf hf,c,K5]
   have hp:=vG hf c;have q1:=vI leaf ((z + 1) / 2) ((z + 1) / 2);have q2:=vI leaf (z - (z + 1) / 2) (z - (z + 1) / 2);unfold pc at hp h4;have ha:a < S.length:=by lia
   obtain⟨s0,s1⟩:=FH hS ha;have e1:((z:Int) + 1) / 2=(((z + 1) / 2:Nat):Int):=by lia
   have mx:=(lW x (S.getD a 0) 2 () () ⋯).1
   by_cases dd:Ck x (S.getD a 0) 2=0
   ·have hb:yH [.sh M,.sh d,.sh (.int x),.sh (.int (z:Int)),.sh (.int (a:Int)),.sh (.int (p:Int)),a6]=.nx [.sh M,.sh d,.sh (.int x),.sh (.int (((z + 1) / 2:Nat):Int)),.sh (.int ((a + 1:Nat):Int)),.sh (.int (p:Int)),.sh (.int (((z + 1) / 2:Nat):Int))]:=by
     simp![yH,Ak,qN,e1,fs,vF ha,mx,dd,Ht,F6,Ee]
     rfl
    obtain⟨z',a',p',b6,g1,g2,g3,g4,g5⟩:=vE fl fs hf hS n ((z + 1) / 2) (a + 1) p (.sh (.int (((z + 1) / 2:Nat):Int))) () () () (by unfold pc;lia) m ();exact⟨z',a',p',b6,g1,g2,g3,by simp only[Dn,c,dd,if_true,F3];exact g4,(mD ht hb).trans g5⟩
   ·have e2:(z:Int) - (((z + 1) / 2:Nat):Int)=((z - (z + 1) / 2:Nat):Int):=by lia
    have mp:=wk hf 70 ((z + 1) / 2) ();have hb:yH [.sh M,.sh d,.sh (.int x),.sh (.int (z:Int)),.sh (.int (a:Int)),.sh (.int (p:Int)),a6]=.nx [.sh M,.sh d,.sh (.int x),.sh (.int ((z - (z + 1) / 2:Nat):Int)),.sh (.int ((a + 1 + pc leaf ((z + 1) / 2):Nat):Int)),.sh (.int ((p + (z + 1) / 2:Nat):Int)),.sh (.int (((z + 1) / 2:Nat):Int))]:=by
     simp![yH,Ak,qN,e1,fs,fl,vF ha,mx,dd,Ht,K5,Ee,mp,gT,e2]
     rfl
    obtain⟨z',a',p',b6,g1,g2,g3,g4,g5⟩:=vE fl fs hf hS n (z - (z + 1) / 2) (a + 1 + pc leaf ((z + 1) / 2)) (p + (z + 1) / 2) (.sh (.int (((z + 1) / 2:Nat):Int))) () () () (by unfold pc;lia) m ();exact⟨z',a',p',b6,g1,g2,g3,by simp only[Dn,c,dd,F3];exact g4,(mD ht hb).trans g5⟩
end
structure CC(leaf:Int)(S:List Int)(z:Nat):Prop where
 f:1<=leaf
 b:∀s∈S,0<=s/\s < 1000
 h1:1<=z
 h2:z<=69
 len:pc leaf z<=S.length
def Ge(leaf:Int)(S:List Int)(z:Nat)(d:D):Int:=Dn leaf S (Ax d) z z 0 0
def HZ{leaf:Int}{S:List Int}{z:Nat}(h:CC leaf S z)(d:D):0<=Ge leaf S z d/\Ge leaf S z d < (z:Int):=by
 have:=qD h.f S (Ax d) z z 0 0 h.h1 (A9 _);unfold Ge;lia
def YM{leaf:Int}{S:List Int}{z:Nat}(h:CC leaf S z){d:D}(hd:isKey d):uB [Dy (z:Int) leaf S,d]=.ok (.sh (.int (Ge leaf S z d))):=by
 obtain⟨z',a',p',b6,g1,g2,g3,g4,g5⟩:=vE (x:=Ax d) (d:=d) (TQ (z:Int) leaf S) (wg (z:Int) leaf S) h.f h.b z z 0 0 .no h.h1 (A9 _) h.h2 (by have:=h.len;lia) 3000 (by have:=h.h2;lia);obtain⟨s0,s1⟩:=FH h.b g3;have mx:=(lW (Ax d) (S.getD a' 0) (z':Int) () () ()).1;have fm:=Ia (z:Int) leaf S;have fs:=wg (z:Int) leaf S;unfold Ge;rw[g4];generalize Dy (z:Int) leaf S=M at *
 have t1:Aj 2 [1] (At 1 mw #v[1]) (Av 7 [M,d])=.nx [.sh M,.sh d,.sh (.int (Ax d)),.no,.no,.no,.no]:=by
  simp![Ak,nQ hd]
 have t2:Aj 3 [0] (Fu Lc "how_many" (Ab 0)) [.sh M,.sh d,.sh (.int (Ax d)),.no,.no,.no,.no]=.nx [.sh M,.sh d,.sh (.int (Ax d)),.sh (.int (z:Int)),.no,.no,.no]:=by
  simp![Ak,fm]
 have t3:Aj 4 [] (eC (.int 0)) [.sh M,.sh d,.sh (.int (Ax d)),.sh (.int (z:Int)),.no,.no,.no]=.nx [.sh M,.sh d,.sh (.int (Ax d)),.sh (.int (z:Int)),.sh (.int ((0:Nat):Int)),.no,.no]:=by
  simp![Ak];rfl
 have t4:Aj 5 [] (eC (.int 0)) [.sh M,.sh d,.sh (.int (Ax d)),.sh (.int (z:Int)),.sh (.int ((0:Nat):Int)),.no,.no]=.nx [.sh M,.sh d,.sh (.int (Ax d)),.sh (.int (z:Int)),.sh (.int ((0:Nat):Int)),.sh (.int ((0:Nat):Int)),.no]:=by
  simp![Ak];rfl
 refine fR ?_;unfold x_9;rw[Ba t1,Ba t2,Ba t3,Ba t4,Ba g5];have hv:Az [.sh M,.sh d,.sh (.int (Ax d)),.sh (.int (z':Int)),.sh (.int (a':Int)),.sh (.int (p':Int)),b6]= [some M,some d,some (.int (Ax d)),some (.int (z':Int)),some (.int (a':Int)),some (.int (p':Int)),b6.any]:=rfl;unfold Ao;rw[hv]
 simp![Ak,fs,vF g3,mx,Ee]
def Xq:(Lb:List Str).contains "number_of" =false:=by decide +kernel
def TN:(Lb:List Str).contains "room" =false:=by decide +kernel
def VD:(Lb:List Str).contains "rooms" =false:=by decide +kernel
def YL:(Lb:List Str).contains "numbers" =false:=by decide +kernel
def VC{leaf:Int}{S:List Int}{z:Nat}(h:CC leaf S z){d:D}(hd:isKey d):sI [Dy (z:Int) leaf S,d]=.ok (.sh (.int (Ge leaf S z d))):=by
 have hm:=CU (n:=(z:Int)) (leaf:=leaf) (S:=S) "number_of" 1 uB (Ab 0) #v[1] [some (Dy (z:Int) leaf S),some d] [d] Xq rfl rfl rfl;rw[YM h hd]at hm;have hf:=Ia (z:Int) leaf S [some d];have c:min (Ge leaf S z d) ((z:Int) - 1)=Ge leaf S z d:=by have:=HZ h d;lia
 generalize Dy (z:Int) leaf S=M at *
 simp![sI,LL,Ak,hm,hf,gT,nt,c]
def Xp{leaf:Int}{S:List Int}{z:Nat}(h:CC leaf S z){ls:List D}(hk:∀k∈ls,isKey k)(hl:ls.length<=100000):uC [Dy (z:Int) leaf S,.lst ls]=.ok (.ow (.lst ((ls.map (Ge leaf S z)).map .int))):=by
 have q1:Ea [1] (At 1 qa #v[1]) (Av 2 [Dy (z:Int) leaf S,.lst ls])=.nx [.sh (Dy (z:Int) leaf S),.sh (.lst ls)]:=by
  generalize Dy (z:Int) leaf S=M
  simp![Ak,vO hk]
 have ec:=Ho (m:=1) (fi:=Bo (Ab 1)) (fg:=gC 2) (p:=λ_=> .ok true) (f:=Mo) (δ:=[some (Dy (z:Int) leaf S),some (.lst ls)]) (ds:=ls) (by simp![Ak]) ()
  (lX (λd=> .int (Ge leaf S z d)) ls λd hd=>⟨[some (Dy (z:Int) leaf S),some (.lst ls),some d],.sh (.int (Ge leaf S z d)),rfl,by
   have hm:=CU (n:=(z:Int)) (leaf:=leaf) (S:=S) "room" 1 sI (Ab 0) #v[2] [some (Dy (z:Int) leaf S),some (.lst ls),some d] [d] TN rfl rfl rfl;rw[VC h (hk d hd)]at hm;exact hm,rfl⟩)
 have pR:(ls.map λd=>D.int (Ge leaf S z d))=(ls.map (Ge leaf S z)).map .int:=by rw[D7];rfl
 rw[pR]at ec;unfold uC Al Mc;rw[Ba q1];have hv:Az [.sh (Dy (z:Int) leaf S),.sh (.lst ls)]= [some (Dy (z:Int) leaf S),some (.lst ls)]:=rfl;unfold Ao;rw[hv,ec]
def Zy(n leaf:Int)(S:List Int):uG [Dy n leaf S]=.ok (.ow (.lst (S.map .int))):=by
 have hf:=wg n leaf S [];generalize Dy n leaf S=M at *
 simp![uG,Mq,Ak,hf,Gi]
abbrev Ly:List Str:=["how_many","leaf"]
def VB{ks:List D}{leaf:Int}{io:Nat}(hk:∀k∈ks,isKey k)(nd:ks.Nodup)(h1:1<=ks.length)(h2:ks.length<=100)(hf:1<=leaf)(hm:io<=1000){b:Bool}{S:List Int}(hp:Dg leaf io 100 (ks.map Ax) []=(b,S)):
  rY [.lst ks,.int leaf,.int (io:Int)]=if b=true then .ok (Lb,[.int (ks.length:Int),.int leaf,.lst (S.map .int)]) else .ex (iF S.length):=by
 have lk:=GB hk nd h1 ();have hs:=VF hf hm 100 (ks.map Ax) (by rw[A3];exact h1) (by rw[A3];exact h2) ⋯;rw[hp]at hs;simp only at hs;unfold rY eP Ms;have q1:gS 0 "Halved" [1] yN (At 1 sE #v[1]) (nv 4 "Halved" [.lst ks,.int leaf,.int (io:Int)])=.nx [.lt (.obj "Halved" ["how_many"] [.sh (.int (ks.length:Int))]),.sh (.lst ks),.sh (.int leaf),.sh (.int (io:Int))]:=by
  refine Ik (w:=.sh (.int (ks.length:Int))) (p:=(["how_many"],[.int (ks.length:Int)])) rfl rfl ?_ (YN _);exact lk
 have q2:fE 0 ["Halved"] "leaf" [2] (Ab 2) [.lt (.obj "Halved" ["how_many"] [.sh (.int (ks.length:Int))]),.sh (.lst ks),.sh (.int leaf),.sh (.int (io:Int))]=.nx [.lt (.obj "Halved" Ly [.sh (.int (ks.length:Int)),.sh (.int leaf)]),.sh (.lst ks),.sh (.int leaf),.sh (.int (io:Int))]:=
  qO (w:=.sh (.int leaf)) (c:= "Halved") (ns:=["how_many"]) (ts:=[.sh (.int (ks.length:Int))]) rfl rfl nofun rfl
 have ec:=Ho (m:=1) (fi:=Bo (Ab 1)) (fg:=gC 4) (p:=λ_=> .ok true) (f:=yG) (δ:=[none,some (.lst ks),some (.int leaf),some (.int (io:Int))]) (ds:=ks) (by simp![Ak]) ()
  (lX (λd=> .int (Ax d)) ks λd hd=>⟨[none,some (.lst ks),some (.int leaf),some (.int (io:Int)),some d],.sh (.int (Ax d)),rfl,by simp![yG,Ak,nQ (hk d hd)],rfl⟩)
 rw[xj]at ec;rw[Ba q1,Ba q2];cases b with
 |true=>
  rw[if_pos rfl]at hs;have q3:fE 0 ["Halved"] "salts" [1,2,3] (At 3 sC #v[(By 1 (Bo (Ab 1)) (gC 4) (λ_=> .ok true) yG),2,3]) [.lt (.obj "Halved" Ly [.sh (.int (ks.length:Int)),.sh (.int leaf)]),.sh (.lst ks),.sh (.int leaf),.sh (.int (io:Int))]=
    .nx [.lt (.obj "Halved" Lb [.sh (.int (ks.length:Int)),.sh (.int leaf),.sh (.lst (S.map .int))]),.sh (.lst ks),.sh (.int leaf),.sh (.int (io:Int))]:=by
   refine qO (w:=.ow (.lst (S.map .int))) (c:= "Halved") (ns:= Ly) (ts:=[.sh (.int (ks.length:Int)),.sh (.int leaf)]) rfl rfl nofun ?_
   simp![Ak,qF,ec,hs]
  rw[q3];simp only[R4,if_true,mq,L7]
 |false=>
  rw[if_neg A6]at hs;have q3:fE 0 ["Halved"] "salts" [1,2,3] (At 3 sC #v[(By 1 (Bo (Ab 1)) (gC 4) (λ_=> .ok true) yG),2,3]) [.lt (.obj "Halved" Ly [.sh (.int (ks.length:Int)),.sh (.int leaf)]),.sh (.lst ks),.sh (.int leaf),.sh (.int (io:Int))]=
    .ex (iF S.length) [.lt (.obj "Halved" Ly [.sh (.int (ks.length:Int)),.sh (.int leaf)]),.sh (.lst ks),.sh (.int leaf),.sh (.int (io:Int))]:=by
   have he:At 3 sC #v[(By 1 (Bo (Ab 1)) (gC 4) (λ_=> .ok true) yG),2,3] (Bn (aC [1,2,3] [.lt (.obj "Halved" Ly [.sh (.int (ks.length:Int)),.sh (.int leaf)]),.sh (.lst ks),.sh (.int leaf),.sh (.int (io:Int))]))=.ex (iF S.length):=by
    simp![Ak,qF,ec,hs]
   unfold fE;rw[he];rfl
  rw[q3];rfl
theorem rj{leaf:Int}(hf:1<=leaf)(S:List Int)(x:Int):∀(n m z a p:Nat),1<=z->z<=n->z<=m->Dn leaf S x n z a p=Dn leaf S x m z a p
 |0,_,z,_,_,h1,h2,_=>by lia
 |_,0,z,_,_,h1,_,h3=>by lia
 |n + 1,m + 1,z,a,p,h1,h2,h3=>by
  unfold Dn
  by_cases q:(z:Int)<=leaf
  ·simp only[q,if_true]
  ·simp only[q,F3];rw[rj hf S x n m _ _ _ () () (),rj hf S x n m _ _ _ () () ()]
def YK{leaf:Int}{io n:Nat}(hf:1<=leaf){ks:List D}{S:List Int}(h1:1<=ks.length)(h2:ks.length<=n)(hp:Dg leaf io n (ks.map Ax) []=(true,S)):
  S.length=pc leaf ks.length/\(∀s∈S,0<=s/\s < (io:Int))/\(ks.map (Ge leaf S ks.length)).Perm (Fe 0 ks.length):=by
 have bH:(ks.map Ax).length=ks.length:=A3 _;obtain⟨T,g1,g2,g3,g4⟩:=se hf n (ks.map Ax) [] S () () hp;rw[O5]at g1;subst g1;rw[bH]at g2;refine⟨g2,g3, ?_⟩;have ar:=g4 [] 0;rw[bH,D9,D7]at ar;refine List.Perm.trans (Qp ?_) ar;apply D1;intro d _;simp only[Function.comp_apply,K3];unfold Ge;exact rj hf S (Ax d) ks.length n ks.length 0 0 h1 (A9 _) h2
noncomputable abbrev Gf(leaf:Int)(io:Nat)(L0:D)(z:Int)(c:Nat)(W:List D)(a6 a7 a8:Sl):SE:=[.sh L0,.sh (.int leaf),.sh (.int (io:Int)),.sh (.int z),.ow (.lst W),.sh (.int (c:Int)),a6,a7,a8]
section
variable{leaf:Int}{io:Nat}{L0:D}{z:Int}
def Zx(hm:io<=1000){L:List Int}(h1:1<=L.length)(hl:L.length<=1000){c:Nat}{W:List D}{a8:Sl}:Do [1,2,6,7] zu xK 3000 (Gf leaf io L0 z c W (.sh (.lst (L.map .int))) (.sh (.int ((0:Nat):Int))) a8)=.nx (Gf leaf io L0 z c W (.sh (.lst (L.map .int))) (.sh (.int (((mj leaf io L).getD io:Nat):Int))) a8):=by
 have hl:=λ(s:Nat) (h:s < io)=>vJ leaf L (s:Int) () () h1 hl;refine xi (st:=λs:Nat=>Gf leaf io L0 z c W (.sh (.lst (L.map .int))) (.sh (.int (s:Int))) a8) (λs h e=> ?_) (λs h e=> ?_) ?_ (λs=> ?_) io 0 () (λt ht=>absurd ht (Qq t)) 3000 ()
 ·simp![zu,Ak,Fz,NS.mpr h,F6,hl s h,e]
 ·simp![zu,Ak,Fz,NS.mpr h,F6,hl s h,e]
 ·simp![zu,Ak,Fz,Z5,K5]
 ·simp![xK,Ak,Ee]
  rfl
def YJ(c:Nat)(W:List D)(d:D)(a6 a7 a8:Sl)(hW:fP (.lst (W ++ [d])) (.lst [])=.ok (.sh (.bl true))):ug (Az (Gf leaf io L0 z c (W ++ [d]) a6 a7 a8))=.ok true:=by
 have:Az (Gf leaf io L0 z c (W ++ [d]) a6 a7 a8)= [some L0,some (.int leaf),some (.int (io:Int)),some (.int z),some (.lst (W ++ [d])),some (.int (c:Int)),a6.any,a7.any,a8.any]:=rfl;rw[this]
 simp![ug,Ak,hW]
end
def WL(W:List D):Prop:=∀d∈W,∃l:List Int,d=.lst (l.map .int)
def WL.ok{W:List D}(h:WL W):kB 2 (.lst W)=true:=by
 show W.all (kB 1)=true;refine F8.mpr λd hd=> ?_;obtain⟨l,rfl⟩:=h d hd;exact rn l
def WL.snoc{W:List D}(h:WL W)(l:List Int):WL (W ++ [.lst (l.map .int)]):=λd hd=>by
 rcases F9.mp hd with hd|hd
 ·exact h d hd
 ·exact⟨l,J9.mp hd⟩
def WL.ne{W:List D}(h:WL W)(hW:W≠ []):fP (.lst W) (.lst [])=.ok (.sh (.bl true)):=by
 obtain⟨a1,a2,_⟩:=IC 2 (.lst W) h.ok;obtain⟨w,r,rfl⟩:=List.exists_cons_of_ne_nil hW;have hc:ka (.lst (w::r)) (.lst [])=true:=by
  unfold ka;rw[a1,E8 (D4 a2 ⋯)];rfl
 rw[GG,if_pos hc];rfl
section
variable{leaf:Int}{io:Nat}{L0:D}{z:Int}
theorem wK(hf:1<=leaf)(hm:io<=1000):∀(n:Nat) (L zn:List Int) (W:List D) (a6 a7 a8:Sl),WL W->1<=L.length->L.length<=n->n<=100->zn.length + 2 * L.length<=10000->W.length + 2 * L.length<=10000->
  ((Dg leaf io n L zn).1=true->∃(k:Nat) (b6 b7 b8:Sl),k<=2 * L.length - 1/\∀m,Do [4] ug pX (m + k) (Gf leaf io L0 z zn.length (W ++ [.lst (L.map .int)]) a6 a7 a8)=Do [4] ug pX m (Gf leaf io L0 z (Dg leaf io n L zn).2.length W b6 b7 b8))/\
  ((Dg leaf io n L zn).1=false->∃(k:Nat),k<=2 * L.length - 1/\∀m,Do [4] ug pX (m + k) (Gf leaf io L0 z zn.length (W ++ [.lst (L.map .int)]) a6 a7 a8)=.rt (.sh (.bl (decide (((Dg leaf io n L zn).2.length:Int)=z)))))
 |0,L,zn,W,a6,a7,a8,_,h1,h2,_,_,_=>by lia
 |n + 1,L,zn,W,a6,a7,a8,hW,h1,h2,h3,h4,h5=>by
  have ht:ug (Az (Gf leaf io L0 z zn.length (W ++ [.lst (L.map .int)]) a6 a7 a8))=.ok true:=YJ _ _ _ _ _ _ ((hW.snoc L).ne (by simp));obtain⟨p1,p2⟩:=Ib W (.lst (L.map .int));have u1:gL 6 4 (Gf leaf io L0 z zn.length (W ++ [.lst (L.map .int)]) a6 a7 a8)=.nx (Gf leaf io L0 z zn.length W (.sh (.lst (L.map .int))) a7 a8):=by
   unfold gL;show(match(W ++ [D.lst (L.map .int)])[(W ++ [D.lst (L.map .int)]).length - 1]? with|some d=>Fl.nx _|none=> .no)=_;rw[p1];show Fl.nx [_,_,_,_,Sl.ow (.lst (W ++ [D.lst (L.map .int)]).dropLast),_,_,_,_]=_;rw[p2]
  have u2:Aj 7 [] (eC (.int 0)) (Gf leaf io L0 z zn.length W (.sh (.lst (L.map .int))) a7 a8)=.nx (Gf leaf io L0 z zn.length W (.sh (.lst (L.map .int))) (.sh (.int ((0:Nat):Int))) a8):=rfl;have u3:=Zx (leaf:=leaf) (L0:=L0) (z:=z) (c:=zn.length) (W:=W) (a8:=a8) hm h1 ();unfold Dg;cases e:mj leaf io L with
  |none=>
   refine⟨λz=>absurd z A6,λ_=>⟨1,by lia,λm=> ?_⟩⟩;rw[e,Option.getD_none]at u3;have hb:pX (Gf leaf io L0 z zn.length (W ++ [.lst (L.map .int)]) a6 a7 a8)=.rt (.sh (.bl (decide ((zn.length:Int)=z)))):=by
    unfold pX;rw[Ba u1,Ba u2,Ba u3]
    simp![Ak,Ht,F6]
   unfold Do;rw[ht];simp only[if_true,hb]
  |some s=>
   obtain⟨hs,_,_⟩:=oQ e;rw[e,Option.getD_some]at u3;have cs:¬((s:Int)=(io:Int)):=by lia
   have u4:Bv [2,7] (An (Ah Dm (Ab 7) (Ab 2))) (Ao [3,5] (Ah Dm (Ab 5) (Ab 3))) Ay (Gf leaf io L0 z zn.length W (.sh (.lst (L.map .int))) (.sh (.int (s:Int))) a8)=.nx (Gf leaf io L0 z zn.length W (.sh (.lst (L.map .int))) (.sh (.int (s:Int))) a8):=by
    simp![Ak,Ht,cs,K5]
   have sQ:(zn ++ [(s:Int)]).length=zn.length + 1:=by simp
   have u5:Aj 5 [5] (Ah Bq (Ab 5) (eC (.int 1))) (Gf leaf io L0 z zn.length W (.sh (.lst (L.map .int))) (.sh (.int (s:Int))) a8)=.nx (Gf leaf io L0 z (zn ++ [(s:Int)]).length W (.sh (.lst (L.map .int))) (.sh (.int (s:Int))) a8):=by
    simp![Ak,Ee]
    rw[sQ];rfl
   by_cases c:(L.length:Int)<=leaf
   ·have c':¬((L.length:Int) > leaf):=by lia
    simp only[c,if_true];refine⟨λ_=>⟨1,.sh (.lst (L.map .int)),.sh (.int (s:Int)),a8,by lia,λm=>mD ht (Δ':=Gf leaf io L0 z (zn ++ [(s:Int)]).length W (.sh (.lst (L.map .int))) (.sh (.int (s:Int))) a8) ?_⟩,λz=>by cases z⟩;unfold pX;rw[Ba u1,Ba u2,Ba u3,Ba u4,Ba u5]
    simp![Ak,Cy,A3,kW,c',K5]
   ·obtain⟨e0,e1,_⟩:=lJ hf e c;have g0:=vL L (s:Int) () () ();have hWl:W.length < 16777216:=by lia
    have Po:(W ++ [D.lst ((Bm 1 L (s:Int)).map .int)]).length < 16777216:=by rw[A7];simp;lia
    have c':(L.length:Int) > leaf:=by lia
    have ec:By 1 (Bo (Ab 6)) (gC 9) xJ (Ab 9) [some L0,some (.int leaf),some (.int (io:Int)),some (.int z),none,some (.int ((zn ++ [(s:Int)]).length:Int)),some (.lst (L.map .int)),some (.int (s:Int)),some (.lst ((Bm 0 L (s:Int)).map .int))]=.ok (.ow (.lst ((Bm 1 L (s:Int)).map .int))):=by
     refine Ho (m:=1) (ds:=L.map .int) (by simp![Ak]) (by rw[A3];lia) ((su (λd=>match d with| .int x=> !decide (x∈Bm 0 L (s:Int))|_=>false) (λd=>d) (L.map .int) λd hd=> ?_).trans ?_)
     ·obtain⟨x,hx,rfl⟩:=D8.mp hd;refine⟨_,rfl, ?_,λ_=>⟨_,rfl,rfl⟩⟩
      simp![xJ,Ak,Jj]
     ·rw[V8,U3,show(L.filter ((λd=>match d with| .int x=> !decide (x∈Bm 0 L (s:Int))|_=>false) ∘ D.int))=Bm 1 L (s:Int) from FJ L (s:Int)]
    have hb:pX (Gf leaf io L0 z zn.length (W ++ [.lst (L.map .int)]) a6 a7 a8)=.nx (Gf leaf io L0 z (zn ++ [(s:Int)]).length ((W ++ [.lst ((Bm 1 L (s:Int)).map .int)]) ++ [.lst ((Bm 0 L (s:Int)).map .int)]) (.sh (.lst (L.map .int))) (.sh (.int (s:Int))) (.sh (.lst ((Bm 0 L (s:Int)).map .int)))):=by
     unfold pX;rw[Ba u1,Ba u2,Ba u3,Ba u4,Ba u5]
     simp![Ak,Cy,A3,kW,c',F6,kM,g0,Em,hWl,ec,Po]
    simp only[c,F3];obtain⟨r0,r1⟩:=wK hf hm n (Bm 0 L (s:Int)) (zn ++ [(s:Int)]) (W ++ [.lst ((Bm 1 L (s:Int)).map .int)]) (.sh (.lst (L.map .int))) (.sh (.int (s:Int))) (.sh (.lst ((Bm 0 L (s:Int)).map .int))) (hW.snoc _) () () () (by rw[A7];simp;lia) (by rw[A7];simp;lia);have il:=yP (io:=io) hf n (Bm 0 L (s:Int)) (zn ++ [(s:Int)]) ();rw[A7]at il;rcases hp:Dg leaf io n (Bm 0 L (s:Int)) (zn ++ [(s:Int)]) with⟨b,r⟩
    rw[hp]at r0 r1 il;simp only[B5,K3]at il;cases b with
    |false=>
     obtain⟨k,hk,w⟩:=r1 rfl;refine⟨λz=>absurd (show(false:Bool)=true from z) A6,λ_=>⟨k + 1,by lia,λm=> ?_⟩⟩;exact(mD (n:=m + k) ht hb).trans (w m)
    |true=>
     obtain⟨k,b6,b7,b8,hk,w⟩:=r0 rfl;obtain⟨s0,s1⟩:=wK hf hm n (Bm 1 L (s:Int)) r W b6 b7 b8 hW () () () () ();refine⟨λz=> ?_,λz=> ?_⟩
     ·obtain⟨j,c6,c7,c8,hj,w'⟩:=s0 z;refine⟨j + k + 1,c6,c7,c8,by lia,λm=> ?_⟩;rw[show m + (j + k + 1)=(m + j + k) + 1 by lia];exact((mD ht hb).trans (w (m + j))).trans (w' m)
     ·obtain⟨j,hj,w'⟩:=s1 z;refine⟨j + k + 1,by lia,λm=> ?_⟩;rw[show m + (j + k + 1)=(m + j + k) + 1 by lia];exact((mD ht hb).trans (w (m + j))).trans (w' m)
end
def VA{leaf:Int}{io:Nat}(hf:1<=leaf)(hm:io<=1000)(n:Nat)(L:List Int)(h1:1<=L.length)(h2:L.length<=n)(h3:n<=100)(hp:(Dg leaf io n L []).1=false):rH [.lst (L.map .int),.int leaf,.int (io:Int),.int ((Dg leaf io n L []).2.length:Int)]=.ok (.sh (.bl true)):=by
 generalize hz:((Dg leaf io n L []).2.length:Int)=z;have t1:Aj 4 [0] (Ci #v[0]) (Av 9 [.lst (L.map .int),.int leaf,.int (io:Int),.int z])=.nx [.sh (.lst (L.map .int)),.sh (.int leaf),.sh (.int (io:Int)),.sh (.int z),.ow (.lst [.lst (L.map .int)]),.no,.no,.no,.no]:=by
  simp![Ak]
 have t2:Aj 5 [] (eC (.int 0)) [.sh (.lst (L.map .int)),.sh (.int leaf),.sh (.int (io:Int)),.sh (.int z),.ow (.lst [.lst (L.map .int)]),.no,.no,.no,.no]=.nx (Gf leaf io (.lst (L.map .int)) z ([]:List Int).length ([] ++ [.lst (L.map .int)]) .no .no .no):=rfl;obtain⟨_,r1⟩:=wK (L0:=.lst (L.map .int)) (z:=z) hf hm n L [] [] .no .no .no (λd hd=>by simp at hd) h1 h2 h3 (by simp;lia) (by simp;lia);obtain⟨k,hk,w⟩:=r1 hp;have w:=w (3000 - k);rw[show 3000 - k + k=3000 by lia,hz,E8 rfl]at w;refine fR ?_;unfold KI;rw[Ba t1,Ba t2];unfold Af;rw[w]
noncomputable def Gm(f:Int->Nat)(X:List Int)(RS:List Int):List Int:=X.foldl (λr x=>r.set (f x) x) RS
theorem Ji(f:Int->Nat):∀(X RS:List Int),(Gm f X RS).length=RS.length
 | [],_=>rfl
 |x::X,RS=>by
  show(Gm f X (RS.set (f x) x)).length=_;rw[Ji f X,F4]
theorem Jh(f:Int->Nat):∀(X RS:List Int) (i:Nat),(∀x∈X,f x≠i)->(Gm f X RS)[i]? =RS[i]?
 | [],_,_,_=>rfl
 |x::X,RS,i,h=>by
  show(Gm f X (RS.set (f x) x))[i]? =_;rw[Jh f X _ i λy hy=>h y (by simp[hy]),C6 (h x (by simp))]
theorem HY(f:Int->Nat):∀(X RS:List Int),(X.map f).Nodup->(∀x∈X,f x < RS.length)->∀x∈X,(Gm f X RS)[f x]? =some x
 | [],_,_,_,x,hx=>by simp at hx
 |y::X,RS,nd,hb,x,hx=>by
  rw[B1,J8]at nd;show(Gm f X (RS.set (f y) y))[f x]? =_;rcases B8.mp hx with rfl|hx
  ·rw[Jh f X _ _ λz hz e=>nd.1 (by rw[<-e];exact T5 hz),G6 (hb x (by simp))]
  ·exact HY f X _ nd.2 (λz hz=>by rw[F4];exact hb z (by simp[hz])) x hx
section
variable{leaf:Int}{L S:List Int}{a:Nat}
noncomputable def Ew(leaf:Int)(L S:List Int)(a:Nat)(a4 a5 a6 a7 a8 a9:Sl):SE:=[.sh (.lst (L.map .int)),.sh (.int leaf),.sh (.lst (S.map .int)),.sh (.int (a:Int)),a4,a5,a6,a7,a8,a9]
theorem JZ{s:Int}(s0:0<=s)(s1:s < 1000)(ix:Bw (.lst (S.map .int)) (.int (a:Int))=.ok (.sh (.int s)))(h1:1<=L.length){a4 a5 a6 a7:Sl}:∀(X RS:List Int) (a9:Sl),RS.length=L.length->∃b9,Cf (gV 9) yu (X.map .int) (Ew leaf L S a a4 a5 a6 a7 (.ow (.lst (RS.map .int))) a9)=.nx (Ew leaf L S a a4 a5 a6 a7 (.ow (.lst ((Gm (λx=>(Ck x s (L.length:Int)).toNat) X RS).map .int))) b9)
 | [],RS,a9,_=>⟨a9,rfl⟩
 |x::X,RS,a9,hR=>by
  have mx:=(lW x s (L.length:Int) () () ()).2;have mb:=jY x s (L.length:Int) ();have hi:kF (RS.map D.int).length (Ck x s (L.length:Int))=some (Ck x s (L.length:Int)).toNat:=by
   have e:Ck x s (L.length:Int)=(((Ck x s (L.length:Int)).toNat:Nat):Int):=by lia
   rw[e,F7];exact CZ (by rw[A3];lia)
  have hb:yu (Ew leaf L S a a4 a5 a6 a7 (.ow (.lst (RS.map .int))) (.sh (.int x)))=.nx (Ew leaf L S a a4 a5 a6 a7 (.ow (.lst ((RS.set (Ck x s (L.length:Int)).toNat x).map .int))) (.sh (.int x))):=by
   rw[List.map_set]
   simp![yu,Ew,qB,Ak,Bf,ix,Cy,A3,mx,if_true]at hi⊢
   rw[hi]
  obtain⟨b9,e⟩:=JZ s0 s1 ix h1 X (RS.set (Ck x s (L.length:Int)).toNat x) (.sh (.int x)) (by rw[F4];exact hR);exact⟨b9,(Hh (Δ1:=Ew leaf L S a a4 a5 a6 a7 (.ow (.lst (RS.map .int))) (.sh (.int x))) rfl hb).trans e⟩
def Xo{s:Nat}(hs:s<=999)(ix:Bw (.lst (S.map .int)) (.int (a:Int))=.ok (.sh (.int (s:Int))))(h1:1<=L.length)(hl:L.length<=1000)(jW:∀t,t < s->Fv leaf L (t:Int)=false):∃a4,Bt [2,3] (Aw Cn #v[Ah Bw (Ab 2) (Ab 3)]) (gV 4) MT (Ew leaf L S a .no .no .no .no .no .no)=.nx (Ew leaf L S a a4 .no .no .no .no .no):=by
 obtain⟨Δ',e,a4,rfl⟩:=pJ (gV 4) MT (λ_ Δ=>∃a4,Δ=Ew leaf L S a a4 .no .no .no .no .no) (ds:=Ca 0 s) (Δ:=Ew leaf L S a .no .no .no .no .no .no) ⟨_,rfl⟩ (λk d Δ hd hI=>by
  obtain⟨a4,rfl⟩:=hI;obtain⟨k1,rfl⟩:=FL hd;refine⟨Ew leaf L S a (.sh (.int (k:Int))) .no .no .no .no .no,rfl,Ew leaf L S a (.sh (.int (k:Int))) .no .no .no .no .no,.inl ?_,_,rfl⟩
  simp![MT,Ew,Ak,vJ leaf L (k:Int) () () h1 hl,jW k k1])
 refine⟨a4, ?_⟩;rw[<-e];unfold Bt;have:Aw Cn #v[Ah Bw (Ab 2) (Ab 3)] (Bn (Ew leaf L S a .no .no .no .no .no .no))=.ok (Ca 0 s):=by
  simp![Ew,Ak,ix,lU (show(-4611686018427387903:Int)<=(s:Int) by lia) (),F7]
 rw[this]
end
def DP{g h:FS}{Δ:SE}{w:W}(e:g Δ=.rt w):Af g h Δ=.rt w:=by
 unfold Af;rw[e]
theorem wJ{leaf:Int}{io:Nat}(hf:1<=leaf)(hm:io<=999):∀(n m:Nat) (L zn R U:List Int),1<=L.length->L.length<=n->L.length < m->L.length<=1000->Dg leaf io n L zn=(true,R)->
  ∃rs:List Int,rs.length=L.length/\pP m [.lst (L.map .int),.int leaf,.lst ((R ++ U).map .int),.int (zn.length:Int)]=.ok (.ow (.lst [.lst (rs.map .int),.int (R.length:Int)]))/\∀x∈L,∀p:Nat,rs[(Dn leaf (R ++ U) x n L.length zn.length p - (p:Int)).toNat]? =some x
 |0,_,L,zn,R,U,h1,h2,_,_,_=>by lia
 |n + 1,0,L,zn,R,U,_,_,h3,_,_=>by lia
 |n + 1,m + 1,L,zn,R,U,h1,h2,h3,h4,h=>by
  obtain⟨T0,g1,g2,g3,g4⟩:=se hf (n + 1) L zn R h1 h2 h;unfold Dg at h;cases e:mj leaf io L with
  |none=>rw[e]at h;cases h
  |some s=>
   rw[e]at h;simp only at h;obtain⟨hs,az,cu⟩:=oQ e
   
   have gm:∃V,R ++ U=zn ++ (s:Int)::V:=by
    by_cases c:(L.length:Int)<=leaf
    ·rw[if_pos c]at h;cases h;exact⟨U,by simp⟩
    ·rw[if_neg c]at h;obtain⟨e0,e1,_⟩:=lJ hf e c;rcases hp:Dg leaf io n (Bm 0 L (s:Int)) (zn ++ [(s:Int)]) with⟨b,r⟩
     rw[hp]at h;cases b with
     |false=>cases h
     |true=>
      simp only at h;obtain⟨T1,t1,_⟩:=se hf n (Bm 0 L (s:Int)) (zn ++ [(s:Int)]) r () () hp;obtain⟨T2,u1,_⟩:=se hf n (Bm 1 L (s:Int)) r R () () h;exact⟨T1 ++ T2 ++ U,by rw[u1,t1];simp⟩
   obtain⟨V,hV⟩:=gm;have bp:(R ++ U).getD zn.length 0=(s:Int):=by rw[hV];exact wj zn (s:Int) V
   have ix:Bw (.lst ((R ++ U).map .int)) (.int (zn.length:Int))=.ok (.sh (.int (s:Int))):=Gz (Hr (by rw[hV];simp));have hle:zn.length < (R ++ U).length:=by rw[hV];simp
   have oY:¬((zn.length:Int)≥((R ++ U).length:Int)):=by lia
   have AK:=vJ leaf L (s:Int) () () h1 h4;rw[az]at AK;obtain⟨a4,q2⟩:=Xo (leaf:=leaf) (L:=L) (S:=R ++ U) (a:=zn.length) () ix h1 h4 cu;have q1:Bv [0,1,2,3] (Fa (An (Ah BB (Ab 3) (Ag Bu #v[2]))) (Cg (Bb (At 3 pM #v[0,1,Ah Bw (Ab 2) (Ab 3)])))) (Ao [] (eC .aJ)) Ay (Av 10 [.lst (L.map .int),.int leaf,.lst ((R ++ U).map .int),.int (zn.length:Int)])=.nx (Ew leaf L (R ++ U) zn.length .no .no .no .no .no .no):=by
    simp![Ak,Cy,A3,DH,oY,K5,ix,AK]
    rfl
   show∃rs:List Int,_/\Al 10 (MK (pP m)) _=_/\_
   by_cases c:(L.length:Int)<=leaf
   ·rw[if_pos c]at h;have hR:R=zn ++ [(s:Int)]:=by injection h with _ h;exact h.symm
    have hRl:(R.length:Int)=(zn.length:Int) + 1:=by rw[hR];simp
    unfold Fv at az;rw[if_pos c]at az;have Pa:(Fj L (s:Int)).Nodup:=DQ (by have:=D3 az;rw[nN];lia);have gq:(L.map λx=>(Ck x (s:Int) (L.length:Int)).toNat).Nodup:=by
     refine Q4.mpr ?_;have:=Q4.mp Pa;refine this.imp λ{x y} hxy z=>hxy ?_;have b1:=jY x (s:Int) (L.length:Int) ();have b2:=jY y (s:Int) (L.length:Int) ();lia
    have ij:qm [.int 0] (.int (L.length:Int))=.ok (.ow (.lst ((List.replicate L.length (0:Int)).map .int))):=by
     unfold qm;simp only[B5,K3];rw[if_pos ⟨by lia,by lia⟩,F7];have:(List.replicate L.length [D.int 0]).flatten=(List.replicate L.length (0:Int)).map .int:=by simp
     rw[this]
    obtain⟨b9,q4⟩:=JZ (leaf:=leaf) (S:=R ++ U) (a:=zn.length) (a4:=a4) (a5:=.no) (a6:=.no) (a7:=.no) () () ix h1 L (List.replicate L.length 0) .no (by simp);refine⟨Gm (λx=>(Ck x (s:Int) (L.length:Int)).toNat) L (List.replicate L.length 0),by rw[Ji];simp,fR ?_,λx hx p=> ?_⟩
    ·unfold MK;rw[Ba q1,Ba q2];have htt:An (Ah lY (Ag Bu #v[0]) (Ab 1)) (Az (Ew leaf L (R ++ U) zn.length a4 .no .no .no .no .no))=.ok true:=by
      simp![Ew,Ak,Cy,A3,gK,c,F6]
     have v1:Aj 8 [0] (mU #v[eC (.int 0)] (Ag Bu #v[0])) (Ew leaf L (R ++ U) zn.length a4 .no .no .no .no .no)=.nx (Ew leaf L (R ++ U) zn.length a4 .no .no .no (.ow (.lst ((List.replicate L.length (0:Int)).map .int))) .no):=by
      simp![Ew,Ak,mU,Cy,A3,ij]
     have v2:Bt [0] (Bo (Ab 0)) (gV 9) yu (Ew leaf L (R ++ U) zn.length a4 .no .no .no (.ow (.lst ((List.replicate L.length (0:Int)).map .int))) .no)=.nx (Ew leaf L (R ++ U) zn.length a4 .no .no .no (.ow (.lst ((Gm (λx=>(Ck x (s:Int) (L.length:Int)).toNat) L (List.replicate L.length 0)).map .int))) b9):=by
      rw[<-q4];rfl
     have hif:Bv [0,1] (An (Ah lY (Ag Bu #v[0]) (Ab 1))) (Af (Aj 8 [0] (mU #v[eC (.int 0)] (Ag Bu #v[0]))) (Af (Bt [0] (Bo (Ab 0)) (gV 9) yu) (Ao [3,8] (Ci #v[8,Ah Bq (Ab 3) (eC (.int 1))])))) Ay (Ew leaf L (R ++ U) zn.length a4 .no .no .no .no .no)=.rt (.ow (.lst [.lst ((Gm (λx=>(Ck x (s:Int) (L.length:Int)).toNat) L (List.replicate L.length 0)).map .int),.int (R.length:Int)])):=by
      unfold Bv;rw[htt];show Af _ _ _=_;rw[Ba v1,Ba v2,hRl]
      simp![Ew,Ak,Ee]
     exact DP hif
    ·have b1:=jY x (s:Int) (L.length:Int) ();have hr:(Dn leaf (R ++ U) x (n + 1) L.length zn.length p - (p:Int)).toNat=(Ck x (s:Int) (L.length:Int)).toNat:=by
      simp only[Dn,c,if_true,bp];lia
     rw[hr];exact HY (λx=>(Ck x (s:Int) (L.length:Int)).toNat) L _ gq (λy hy=>by
      have b2:=jY y (s:Int) (L.length:Int) ();rw[J6];lia) x hx
   ·rw[if_neg c]at h;obtain⟨e0,e1,_⟩:=lJ hf e c;rcases hp:Dg leaf io n (Bm 0 L (s:Int)) (zn ++ [(s:Int)]) with⟨b,r⟩
    rw[hp]at h;cases b with
    |false=>cases h
    |true=>
     simp only at h;obtain⟨T1,t1,t2,t3,t4⟩:=se hf n (Bm 0 L (s:Int)) (zn ++ [(s:Int)]) r () () hp;obtain⟨T2,u1,u2,u3,u4⟩:=se hf n (Bm 1 L (s:Int)) r R () () h;obtain⟨tX,l1,w1,x1⟩:=wJ hf hm n m (Bm 0 L (s:Int)) (zn ++ [(s:Int)]) r (T2 ++ U) () () () () hp;obtain⟨mz,l2,w2,x2⟩:=wJ hf hm n m (Bm 1 L (s:Int)) r R U () () () () h;rw[<-K9,<-u1]at w1 x1;have ha1:((zn ++ [(s:Int)]).length:Int)=(zn.length:Int) + 1:=by simp
     rw[ha1]at w1;have g0:=vL L (s:Int) () () ();refine⟨tX ++ mz,by rw[A7,l1,l2];lia,fR ?_,λx hx p=> ?_⟩
     ·generalize pP m=FW at w1 w2⊢;have sN:∀a4 a6:Option D,By 1 (Bo (Ab 0)) (gC 10) Om (Ab 10) [some (.lst (L.map .int)),some (.int leaf),some (.lst ((R ++ U).map .int)),some (.int (zn.length:Int)),a4,some (.lst ((Bm 0 L (s:Int)).map .int)),a6,none,none,none]=.ok (.ow (.lst ((Bm 1 L (s:Int)).map .int))):=λa4 a6=>by
       refine Ho (m:=1) (ds:=L.map .int) (by simp![Ak]) (by rw[A3];lia) ((su (λd=>match d with| .int x=> !decide (x∈Bm 0 L (s:Int))|_=>false) (λd=>d) (L.map .int) λd hd=> ?_).trans ?_)
       ·obtain⟨x,hx,rfl⟩:=D8.mp hd;refine⟨_,rfl, ?_,λ_=>⟨_,rfl,rfl⟩⟩
        simp![Om,Ak,Jj]
       ·rw[V8,U3,show(L.filter ((λd=>match d with| .int x=> !decide (x∈Bm 0 L (s:Int))|_=>false) ∘ D.int))=Bm 1 L (s:Int) from FJ L (s:Int)]
      have i1:Bw (.lst [.lst (tX.map .int),.int (r.length:Int)]) (.int 1)=.ok (.sh (.int (r.length:Int))):=Gz (Hr (i:=1) rfl);have i0:Bw (.lst [.lst (tX.map .int),.int (r.length:Int)]) (.int 0)=.ok (.sh (.lst (tX.map .int))):=Gz (Hr (i:=0) rfl);have j1:Bw (.lst [.lst (mz.map .int),.int (R.length:Int)]) (.int 1)=.ok (.sh (.int (R.length:Int))):=Gz (Hr (i:=1) rfl);have j0:Bw (.lst [.lst (mz.map .int),.int (R.length:Int)]) (.int 0)=.ok (.sh (.lst (mz.map .int))):=Gz (Hr (i:=0) rfl);have gj:Bq (.lst (tX.map .int)) (.lst (mz.map .int))=.ok (.ow (.lst ((tX ++ mz).map .int))):=by
       rw[E7];exact UN (by simp;lia)
      unfold MK;rw[Ba q1,Ba q2];refine(Ba (by simp![Ew,Ak,Cy,A3,gK,c,K5];rfl)).trans ?_;refine(Ba (by simp![Ak,ix,g0];rfl)).trans ?_;refine(Ba (by simp![Ak,Ee,w1,Bf,C8,F3,Du];rfl)).trans ?_;refine(Ba (by simp![Ak];rfl)).trans ?_;refine(Ba (by simp![Ak,sN,i1,w2,Bf,C8,F3,Du];rfl)).trans ?_;refine(Ba (by simp![Ak];rfl)).trans ?_
      simp![Ak,i0,j0,j1,gj]
     ·have r1:r.length=zn.length + 1 + pc leaf ((L.length + 1) / 2):=by rw[t1,A7,A7,t2,e0];rfl
      by_cases d:Ck x (s:Int) 2=0
      ·have OP:x∈Bm 0 L (s:Int):=J7.mpr ⟨hx,E8 d⟩;have hr:Dn leaf (R ++ U) x (n + 1) L.length zn.length p=Dn leaf (R ++ U) x n (Bm 0 L (s:Int)).length (zn ++ [(s:Int)]).length p:=by
        simp only[Dn,c,F3,bp,d,if_true,e0,A7,B5,K3]
       rw[hr];have hx1:=x1 x OP p;have:=(B4.mp hx1).1;rw[B7 this];exact hx1
      ·have hb:=jY x (s:Int) 2 ⋯;have OP:x∈Bm 1 L (s:Int):=J7.mpr ⟨hx,E8 ()⟩;have hr:Dn leaf (R ++ U) x (n + 1) L.length zn.length p=Dn leaf (R ++ U) x n (Bm 1 L (s:Int)).length r.length (p + (L.length + 1) / 2):=by
        simp only[Dn,c,F3,bp,d,e1,r1]
       have hx2:=x2 x OP (p + (L.length + 1) / 2);have hbd:=(qD hf (R ++ U) x n (Bm 1 L (s:Int)).length r.length (p + (L.length + 1) / 2) () ()).1;rw[hr];generalize Dn leaf (R ++ U) x n (Bm 1 L (s:Int)).length r.length (p + (L.length + 1) / 2)=y at *
       have fz:(y - (p:Int)).toNat=tX.length + (y - ((p + (L.length + 1) / 2:Nat):Int)).toNat:=by rw[l1];lia
       rw[fz,D2 (),Nat.add_sub_cancel_left];exact hx2
def TM(Fr Gr:AF):([("Buckets",Fr),("Halved",Gr)]:List (Str×(AF))).lookup ("Halved" :Str)=some Gr:=by rfl'
def HW{n leaf:Int}{S:List Int}(m:Str)(k:Nat)(Fs Gs:AF)(fo:FE)(fa:FA)(δ:DE)(ds:List D)(hm:(Lb:List Str).contains m=false)(h1:fo δ=.ok (.sh (Dy n leaf S)))(h2:fa δ=.ok ds)(h3:ds.length=k):Ft m k [("Buckets",Fs),("Halved",Gs)] fo fa δ=Gs (Dy n leaf S::ds):=by
 unfold Dy at h1⊢;simp only[Ft,h1,R.aI,W.dU,hm,C8,F3,TM,h2,h3,if_true]
def Zw{ks:List D}{leaf:Int}{io:Nat}(hk:∀k∈ks,isKey k)(nd:ks.Nodup)(h1:1<=ks.length)(h2:ks.length<=60)(hf:1<=leaf)(hm:io<=999):MJ [.lst ks,.int leaf,.int (io:Int)]=.ok (.sh (.bl true)):=by
 have Nq:(ks.map Ax).length=ks.length:=A3 _;rcases hp:Dg leaf io 100 (ks.map Ax) [] with⟨b,S⟩
 have ah:=VB hk nd h1 () hf (show io<=1000 by lia) hp;have ec:=Ho (m:=1) (fi:=Bo (Ab 0)) (fg:=gC 10) (p:=λ_=> .ok true) (f:=Ol) (δ:=[some (.lst ks),some (.int leaf),some (.int (io:Int)),none,none,none,none,none,none,none]) (ds:=ks) (by simp![Ak]) ()
  (lX (λd=> .int (Ax d)) ks λd hd=>⟨[some (.lst ks),some (.int leaf),some (.int (io:Int)),none,none,none,none,none,none,none,some d],.sh (.int (Ax d)),rfl,by simp![Ol,Ak,Lu (hk d hd)],rfl⟩)
 rw[xj]at ec;have ha:∀δ:DE,Aa (Ag Gi #v[0]) #v[1,2] (some (.lst ks)::some (.int leaf)::some (.int (io:Int))::δ)=.ok [.lst ks,.int leaf,.int (io:Int)]:=λ δ=>by
  simp![Ak,Gi]
 refine fR ?_;unfold Lx;refine(Ba (by simp![Mb,Ak,ec];rfl)).trans ?_;refine(Ba (by simp![Ma,Ak];rfl)).trans ?_;refine(Ba (by simp![LZ,Ak,mV,uV,Int.reduceNeg];rfl)).trans ?_;cases b with
 |false=>
  rw[if_neg A6]at ah;have Nm:(Dg leaf io 100 (ks.map Ax) []).1=false:=by rw[hp]
  have Nr:=VA hf (show io<=1000 by lia) 100 (ks.map Ax) () () () Nm;rw[hp]at Nr;simp only at Nr;have eI:∀δ:DE,Gb "Halved" 3 rY #v[Ag Gi #v[0],1,2] (some (.lst ks)::some (.int leaf)::some (.int (io:Int))::δ)=.ex (iF S.length):=λ δ=>by
   unfold Gb;rw[ha,R.aI,if_pos (show [D.lst ks,.int leaf,.int (io:Int)].length=3 from rfl),ah];rfl
  refine(Ba (by simp![Oh,Hf,Oj,Ak,eI,fX,Ii,mT,qy];rfl)).trans ?_;refine DP ?_
  simp![Og,Ak,Nr]
 |true=>
  rw[if_pos rfl]at ah;obtain⟨g2,g3,ar⟩:=YK hf h1 () hp;have dz:CC leaf S ks.length:=⟨hf,λs hs=>by have:=g3 s hs;lia,h1,by lia,O6 g2.symm⟩;have hSl:S.length<=10000:=by
   have:=yP (io:=io) hf 100 (ks.map Ax) [] ();rw[hp]at this;simp only[K3]at this;lia
  have ei:1<=S.length:=by rw[g2];exact vI _ _ _
  obtain⟨rs,rl,ew,hrs⟩:=wJ hf hm 100 70 (ks.map Ax) [] S [] () () () () hp;rw[D9]at ew hrs;have ew:pP 70 [.lst ((ks.map Ax).map .int),.int leaf,.lst (S.map .int),.int 0]=.ok (.ow (.lst [.lst (rs.map .int),.int (S.length:Int)])):=ew;have mf:∀d∈ks,rs[(Ge leaf S ks.length d).toNat]? =some (Ax d):=λd hd=>by
   have:=hrs (Ax d) (T5 hd) 0;rw[Nq,show(([]:List Int).length)=0 from rfl,rj hf S (Ax d) 100 ks.length ks.length 0 0 h1 () (A9 _)]at this;unfold Ge;rw[<-this]
   congr 1
   lia
  have zP:=vb ar (by rw[A3];lia);rw[mY]at zP;have rk:=Xp dz hk ();have nb:=Zy (ks.length:Int) leaf S;have m2:=λ(fo:FE) (δ:DE) (h1:fo (some (.lst ks)::δ)=.ok (.sh (Dy (ks.length:Int) leaf S)))=>HW (n:=(ks.length:Int)) (leaf:=leaf) (S:=S) "rooms" 1 uF uC fo #v[Ag Gi #v[0]] (some (.lst ks)::δ) [.lst ks] VD h1 (by simp![Ak,Gi]) rfl;have m3:=λ(fo:FE) (δ:DE) (h1:fo δ=.ok (.sh (Dy (ks.length:Int) leaf S)))=>HW (n:=(ks.length:Int)) (leaf:=leaf) (S:=S) "numbers" 0 uJ uG fo Ac δ [] YL h1 rfl rfl;have Pq:∃oc on ov,Dy (ks.length:Int) leaf S=.obj oc on ov:=⟨_,_,_,rfl⟩;have jd:∀δ:DE,Gb "Halved" 3 rY #v[Ag Gi #v[0],1,2] (some (.lst ks)::some (.int leaf)::some (.int (io:Int))::δ)=.ok (.sh (Dy (ks.length:Int) leaf S)):=λ δ=>by
   unfold Gb;rw[ha,R.aI,if_pos (show [D.lst ks,.int leaf,.int (io:Int)].length=3 from rfl),ah];rfl
  obtain⟨s0,sr,hS⟩:∃s0 sr,S=s0::sr:=by
   cases S with
   |nil=>simp at ei
   |cons a b=>exact⟨a,b,rfl⟩
  have jf:Es [.lst (S.map .int)]=.ok (.sh (.int (Dx s0 sr))):=by
   unfold Es;simp only[nD,hS]
  have gz:mS [.lst (S.map .int)]=.ok (.sh (.int (Fc s0 sr))):=by
   unfold mS;simp only[nD,hS]
  have gr:¬((io:Int)<=Dx s0 sr):=by
   have:=g3 (Dx s0 sr) (by rw[hS];exact rA sr s0);lia
  have ib:¬(Fc s0 sr < 0):=by
   have:=g3 (Fc s0 sr) (by rw[hS];exact wy sr s0);lia
  generalize Dy (ks.length:Int) leaf S=O at *
  obtain⟨oc,on,ov,hO⟩:=Pq;generalize cM:(ks.map Ax).map D.int=st at *
  generalize OX:(ks.map (Ge leaf S ks.length)).map D.int=rm at *
  have i1:Bw (.lst [.lst (rs.map .int),.int (S.length:Int)]) (.int 1)=.ok (.sh (.int (S.length:Int))):=Gz (Hr (i:=1) rfl);have i0:Bw (.lst [.lst (rs.map .int),.int (S.length:Int)]) (.int 0)=.ok (.sh (.lst (rs.map .int))):=Gz (Hr (i:=0) rfl);have hr:∀δ:DE,gE Cn #v[Ag Bu #v[0]] (some (.lst ks)::δ)=.ok (.ow (.lst (Ca 0 ks.length))):=λ δ=>by
   simp![Ak,gE,Cy,lU (show(-4611686018427387903:Int)<=(ks.length:Int) by lia) (),F7]
   rw[if_pos (by rw[oS];lia)]
  have hz:fP (.lst (Ca 0 ks.length)) (.lst (Ca 0 ks.length))=.ok (.sh (.bl false)):=by
   rw[<-mY];exact Wf 1 (rn _)
  have zX:∀a0 a1 a2 a3 δ,_:=λa0 a1 a2 a3 δ=>m3 (Ab 4) (a0::a1::a2::a3::some O::δ) rfl;have zS:∀a1 a2 a3 δ,_:=λa1 a2 a3 δ=>m2 (Ab 4) (a1::a2::a3::some O::δ) rfl;rw[nb]at zX;rw[rk]at zS;refine(Ba (by simp![Oh,Hf,Oj,Ak,jd];rfl)).trans ?_;have hOn:kP O=false:=by rw[hO];rfl
  refine(Ba (by simp![Og,Ak,hOn,C8,F3];rfl)).trans ?_;refine(Ba (by simp![LY,Ak,zX];rfl)).trans ?_;refine(Ba (by simp![LX,Ak,ew,Bf,C8,F3,Du];rfl)).trans ?_;refine(Ba (by simp![LW,Ak,i1,Cy,A3,GX,F6,jf,DH,gr,K5,gz,Fz,ib];rfl)).trans ?_;refine(Ba (by simp![LV,Ak,zS];rfl)).trans ?_;refine(Ba (by simp![Mj,Ak,hr,zP,hz];rfl)).trans ?_;have NI:=Ho (m:=1) (fi:=Bo (Ab 9)) (fg:=gC 10) (p:=λ_=> .ok true) (f:=Oi) (δ:=[some (.lst ks),some (.int leaf),some (.int (io:Int)),some (.lst st),some O,some (.int (-1)),none,some (.lst (S.map .int)),some (.lst [.lst (rs.map .int),.int (S.length:Int)]),some (.lst rm)]) (ds:=rm) (by simp![Ak]) (by rw[<-OX,A3,A3];lia)
   (lX (λd=>match d with| .int r=>D.int (rs.getD r.toNat 0)|d=>d) rm λd hd=>by
    rw[<-OX]at hd;obtain⟨r,hr,rfl⟩:=D8.mp hd;obtain⟨k,yz,rfl⟩:=D8.mp hr;have hbd:=HZ dz k;have hx:=mf k yz;have Nv:Bw (.lst (rs.map .int)) (.int (Ge leaf S ks.length k))=.ok (.sh (.int (Ax k))):=by
     rw[show Ge leaf S ks.length k=(((Ge leaf S ks.length k).toNat:Nat):Int) by lia];exact Gz (Hr (by rw[B3,hx];rfl))
    refine⟨[some (.lst ks),some (.int leaf),some (.int (io:Int)),some (.lst st),some O,some (.int (-1)),none,some (.lst (S.map .int)),some (.lst [.lst (rs.map .int),.int (S.length:Int)]),some (.lst rm),some (.int (Ge leaf S ks.length k))],.sh (.int (Ax k)),rfl, ?_, ?_⟩
    ·simp![Oi,Ak,i0,Nv]
    ·simp[List.getD,hx])
  have pR:rm.map (λd=>match d with| .int r=>D.int (rs.getD r.toNat 0)|d=>d)=st:=by
   rw[<-OX,<-cM,D7,D7,D7];refine D1 λk yz=> ?_;have hx:=mf k yz;simp[List.getD,hx]
  rw[pR]at NI;have hes:Dm (.lst st) (.lst st)=.ok (.sh (.bl true)):=by
   rw[<-cM];exact IA 1 (rn _)
  simp![Mi,Ak,NI,hes]
def Vz(ns:List Int)(hn:ns.length<=63):∃v,DA [.lst (ns.map .int)]=.ok v/\v.d=.bl true:=by
 obtain⟨ks,zW,hl,hk,hd,ek⟩:=Ud ns 2 60 hn ⋯ ⋯ ⋯ ⋯;have ei:0 < ks.length:=List.length_pos_iff.mpr zW;have er:=lj ns 1 ⋯;generalize ns.getD (1:Int).toNat 0=c at er;obtain⟨B,io,b1,b2,m1,m2,esh⟩:=VI (c / 6) (n:=ks.length) ();have hB:=U' hk hd b1 b2 () () m1 ();have hH:=Zw (leaf:=1 + c % 6) (io:=min 100 io) hk hd () () () ();rw[show(((min 100 io:Nat)):Int)=min 100 (io:Int) by lia]at hH;generalize zV:D.lst (ns.map .int)=yr at *
 have t1:vR (Av 5 [yr])=.nx [.sh yr,.ow (.lst ks),.no,.no,.no]:=by
  simp![vR,Ak,ek]
 have t2:vQ [.sh yr,.ow (.lst ks),.no,.no,.no]=.nx [.sh yr,.ow (.lst ks),.sh (.int c),.no,.no]:=by
  simp![vQ,Ak,er]
 have t3:vP [.sh yr,.ow (.lst ks),.sh (.int c),.no,.no]=.nx [.sh yr,.sh (.lst ks),.sh (.int c),.sh (.int (B:Int)),.sh (.int (io:Int))]:=by
  simp![vP,Ak,kM,ku (show(0:Int) < 6 by decide) ⋯,Cy,esh,gP]
 refine⟨.sh (.bl true), ?_,rfl⟩;refine fR ?_;unfold DB;rw[Ba t1,Ba t2,Ba t3]
 simp![GJ,Ak,hB,Gy (show(0:Int) < 6 by decide),Ee,nt,hH]
end My
set_option maxHeartbeats 20000000
namespace My
open PySem PyProof.Rows L2 L3
local macro_rules|`(#v[])=>`(Am)|`(#v[$n:num])=>`(Ae (Ad $n) Am)|`(#v[$x])=>`(Ae $x Am)|`(#v[$n:num,$xs,*])=>`(Ae (Ad $n) #v[$xs,*])|`(#v[$x,$xs,*])=>`(Ae $x #v[$xs,*])
noncomputable def Bj(i:Nat):Stmt:=PySem.Challenge.pw_lodge_k83_whole_least_numbers.main.body.getD i (.Pass ⟨0,0,0,0⟩)
noncomputable def rC:Stmt->List Stmt
 | .ClassDef (body:=b) .. =>b
 |_=> []
def Eh(i j:Nat):Stmt:=(rC (Bj i)).getD j (.Pass ⟨0,0,0,0⟩)
abbrev AH(P:Program)(w:World)(K:Frag)(r:Str->Option Value)(u:Heap)(f:Addr)(B:FuncData)(x:Str)(i k:Nat)(ps:List Str)(n:Nat)(g:List D->R W):Prop:=bI K x x (Bj i) f B->bO P w K r u true k f B ps (Br K n g)
abbrev AI(P:Program)(w:World)(K:Frag)(r:Str->Option Value)(u:Heap)(f:Addr)(B:FuncData)(x:Str)(q:Str)(i j k:Nat)(ps:List Str)(n:Nat)(g:List D->R W):Prop:=bI K x q (Eh i j) f B->bO P w K r u true k f B ps (Br K n g)
section
variable{P:Program}{w:World}{K:Frag}{r:AB}{u:Heap}{f:Addr}{B:FuncData}
abbrev TF(c:Bool)(x:Str)(k:Nat)(ps:List Str)(F:AF)(P:Program)(w:World)(K:Frag)(r:AB)(u:Heap):Prop:=uQ P w K r u c x k ps F
abbrev Lo:List Str:=["_law_script","_law_k"]
abbrev Jg:=TF true "_law_raw" 1 Lo mG
abbrev Jf:=TF true "_law_mix" 1 ["_law_cell_here","_law_k"] mF
abbrev JY:=TF true "_law_cell" 2 Lo pN
abbrev KC:=TF true "_law_great" 2 ["_law_cell_here"] ue
abbrev Li:List Str:=["_law_script","_law_start","_law_most"]
abbrev KA:=TF true "_law_cells" 3 Li yq
abbrev Je:=TF true "_law_key" 1 ["_law_cell_here"] sq
abbrev JX:=TF true "_law_keys" 4 Li yk
abbrev Kz:=TF true "_law_shape" 1 ["_law_cell_here","_law_many"] yR
abbrev L24:List Str:=["_law_number","_law_salt","_law_size"]
abbrev xt:=TF true "_law_mixed" 1 L24 kJ
abbrev Ky:=TF true "_law_stamp" 1 ["_law_key_here"] mL
abbrev L29:List Str:=["_law_keys_here","_law_many_buckets"]
abbrev Mn:=TF true "_law_sorted_out" 2 L29 zK
abbrev LJ:=TF true "_law_in_turn" 1 ["_law_stamps_of"] yt
abbrev Le:List Str:=["_law_stamps","_law_number","_law_taken","_law_many"]
abbrev LU:=TF true "_law_has_room" 2 Le uj
abbrev Kx:=TF true "_law_least" 3 Le yQ
abbrev LI:=TF true "is_key_text" 1 ["text"] zw
abbrev HV:=TF true "is_key" 2 ["thing"] tJ
abbrev Mh:=TF true "look_each_key" 3 ["keys"] qa
abbrev LH:=TF true "look_unlike" 3 ["keys"] zv
abbrev Kw:=TF true "look_keys" 4 ["keys"] sE
abbrev FF:=TF true "mixed" 1 ["number","salt","size"] oH
abbrev QF:List Str:=["number","many_buckets"]
abbrev Kv:=TF true "bucket_of" 2 QF ud
abbrev y_8:=TF true "stamps_by_bucket" 3 ["stamps","many_buckets"] zM
abbrev Lz:List Str:=["number","bucket_number","how_many"]
abbrev Jd:=TF true "room_by" 2 Lz tP
abbrev L15:List Str:=["stamps","bucket_number","how_many","taken"]
abbrev Ku:=TF true "rooms_fit" 3 L15 MH
abbrev L31:List Str:=["stamps","how_many","taken","most"]
abbrev LS:=TF true "least_number" 4 L31 yv
abbrev w_3:=TF true "numbers_by_bucket" 5 ["stamps","many_buckets","most"] sV
abbrev FD:=TF true "worth" 1 ["text"] nF
abbrev FC:=TF true "stamp" 3 ["key"] mw
abbrev uP:List Str:=["size","leaf"]
abbrev wI:=TF true "is_last" 1 uP si
abbrev xr:=TF true "left_size" 1 ["size"] ub
abbrev LR:=TF true "parts_within" 71 uP (uh 70)
abbrev L12:List Str:=["_law_keys_here","_law_many_buckets","_law_most"]
abbrev LG:=TF true "_law_buckets" 75 L12 MP
abbrev Lj:List Str:=["_law_stamps","_law_salt"]
abbrev Lp:=TF true "_law_unlike" 2 Lj yY
abbrev xh:=TF true "_law_goes" 2 Lj tY
abbrev Lw:List Str:=["_law_stamps","_law_leaf","_law_salt"]
abbrev xg:=TF true "_law_fits" 3 Lw pM
abbrev L13:List Str:=["_law_stamps","_law_leaf","_law_most","_law_at"]
abbrev Kt:=TF true "_law_lacks" 4 L13 rH
abbrev Lf:List Str:=["_law_stamps","_law_leaf","_law_salts","_law_at"]
abbrev Ln:=TF true "_law_walked" 73 Lf (pP 70)
abbrev QE:List Str:=["stamps","salt","side"]
abbrev Jc:=TF true "on_side" 2 QE tO
abbrev Ks:=TF true "salt_fits" 3 ["stamps","salt","leaf"] yp
abbrev Oa:List Str:=["stamps","leaf","most"]
abbrev Lm:=TF true "least_salt" 4 Oa yX
abbrev Kr:=TF true "salts_for" 5 Oa sC
abbrev L19:List Str:=["_law_keys_here","_law_leaf","_law_most"]
abbrev Lg:=TF true "_law_halves" 75 L19 MJ
def kb:= @bI.yf
def Fg:= @bI.ye
def kK:= @bI.yd
def qh:= @bI.yc
abbrev xF:Stmt:=(rC (Bj 6)).getD 0 (.Pass ⟨0,0,0,0⟩)
abbrev Lv:List Str:=["self","at"]
def aaw:bA Lv Lv (Cr xF):=⟨rfl,rfl,rfl,by decide +kernel,rfl,by decide +kernel,by decide +kernel⟩
def aav{C f:Addr}{B:FuncData}(F:bI K "__init__" "NoFit.__init__" xF f B)(xc:dW K C)(hn:findIn K (.ref C) "at" =some none):bO P w K r u false 1 f B Lv (jx C "at"):=
 vV (k:=0) F aaw λzp A outer s H E=>rh (vW xc hn (iJ rfl (.inl rfl)) (iJ rfl (.inl rfl)))
abbrev xE:Stmt:=(rC (Bj 5)).getD 0 (.Pass ⟨0,0,0,0⟩)
def aau:bA Lv Lv (Cr xE):=⟨rfl,rfl,rfl,by decide +kernel,rfl,by decide +kernel,by decide +kernel⟩
def aat{C f:Addr}{B:FuncData}(F:bI K "__init__" "Twice.__init__" xE f B)(xc:dW K C)(hn:findIn K (.ref C) "at" =some none):bO P w K r u false 1 f B Lv (jx C "at"):=
 vV (k:=0) F aau λzp A outer s H E=>rh (vW xc hn (iJ rfl (.inl rfl)) (iJ rfl (.inl rfl)))
abbrev xD:Stmt:=(rC (Bj 4)).getD 0 (.Pass ⟨0,0,0,0⟩)
def aas:bA Lv Lv (Cr xD):=⟨rfl,rfl,rfl,by decide +kernel,rfl,by decide +kernel,by decide +kernel⟩
def aar{C f:Addr}{B:FuncData}(F:bI K "__init__" "NoKey.__init__" xD f B)(xc:dW K C)(hn:findIn K (.ref C) "at" =some none):bO P w K r u false 1 f B Lv (jx C "at"):=
 vV (k:=0) F aas λzp A outer s H E=>rh (vW xc hn (iJ rfl (.inl rfl)) (iJ rfl (.inl rfl)))
variable(aF:r "len" =none)
def YI:AH P w K r u f B "_law_raw" 43 1 Lo 2 mG:=λF=>Cd (N:= Lo) F λzq o m d p=>(Ar (Cq [0,1] (Cl lB (Ad 1) (Bx Df rfl aF B9 #v[0]) (Ch _))
   (As (Bp [0,1] (Hl (Ad 0) (Ad 1))))
   Ct)
  (As (Bp [] Aq)))
def YH:AH P w K r u f B "_law_mix" 42 1 ["_law_cell_here","_law_k"] 2 mF:=λF=>Cd (N:=["_law_cell_here","_law_k","_law_first"]) F λzq o m d p=>(Ar (Bl (i:=2) [0,1] (Au Ex (Au Fm (Au Cb (Ad 0) Aq) (Au Cb Aq (Au Fm Aq (Ad 1)))) Aq) d)
  (As (Bp [1,2] (Au Ex (Au Cb (Au Cb (Au Fm (Au iU (Ad 2) Aq) Aq) (Au Fm (Ad 2) (Au Cb (Au Fm (Ad 1) (Ad 1)) Aq))) (Ad 1)) Aq))))
variable(j3:Jf P w K r u)(i7:Jg P w K r u)
def Zv:AH P w K r u f B "_law_cell" 44 2 Lo 2 pN:=λF=>Cd (N:= Lo) F λzq o m d p=>(As (Bp [0,1] (Bh o p j3 #v[Au Ex (Bh o p i7 #v[0,1]) Aq,Au Cb (Ad 1) Aq])))
def R':AH P w K r u f B "_law_great" 46 2 ["_law_cell_here"] 1 ue:=λF=>Cd (N:=["_law_cell_here"]) F λzq o m d p=>(As (Bp [0] (Au Cb (Au Fm (Au Cb (Au Fm (Bh o p j3 #v[0,Aq]) Aq) (Bh o p j3 #v[0,Aq])) Aq) (Bh o p j3 #v[0,Aq]))))
variable(q8:JY P w K r u)(u9:KC P w K r u)(n8:r "max" =none)(aL:r "range" =none)(r9:r "min" =none)
noncomputable abbrev Ll:List Str:=["_law_script","_law_start","_law_most","_law_cells_here","_law_many","_law_k"]
def L':AH P w K r u f B "_law_cells" 47 3 Li 3 yq:=λF=>Cd (N:=["_law_script","_law_start","_law_most","_law_cells_here","_law_many"]) F λzq o m d p=>(Ar (Bl (i:=3) [0,1] (Bx (yi zq) rfl n8 M0 #v[Aq,Au jB (Bx Df rfl aF B9 #v[0]) (Ad 1)]) d)
  (Ar (Cq [0] (Cl (Gg m) (Au Ex (Bh o p i7 #v[0,Aq]) Aq) Aq (Ch _))
   (As (Bp [0,1,2,3] (fJ (N':= Ll) zq (Cs (oR aL #v[Bx (og (Ww zq)) rfl r9 N7 #v[2,3]])) ⟨rfl,by rfl',rfl,λC s0 H0 fp pn=>⟨(Gx (i:=5)),jP,(Bh (iY o) iT i7 #v[0,Au Cb (Ad 1) (Ad 5)])⟩⟩)))
   Ct)
  (Ar (Bl (i:=4) [0,2,3] (Bx (og zq) rfl r9 N7 #v[2,Bx (yi zq) rfl n8 M0 #v[3,Au Cb Aq (Au Ex (Bh o p q8 #v[0,Aq]) (Ad 2))]]) d)
  (As (Bp [0,1,3,4] (fJ (N':= Ll) zq (Cs (oR aL #v[4])) ⟨rfl,by rfl',rfl,λC s0 H0 fp pn=>⟨(Gx (i:=5)),jP,(Bh (iY o) iT u9 #v[Bh (iY o) iT j3 #v[Bh (iY o) iT q8 #v[0,Au Cb (Ad 1) (Au Ex (Ad 5) (Bx (yi (Yf zq)) rfl n8 M0 #v[Aq,3]))],5]])⟩⟩))))))
variable(uM:r "int" =none)
def YG:AH P w K r u f B "_law_key" 45 1 ["_law_cell_here"] 1 sq:=λF=>Cd (N:=["_law_cell_here","_law_signs","_law_rest","_law_found","_law_size","_law_k"]) F λzq o m d p=>(Ar (Bl (i:=1) [] vz d)
  (Ar (Bl (i:=2) [0] (Au iU (Ad 0) Aq) d)
  (Ar (Cq [0] (Cl (Gg m) (Au Ex (Ad 0) Aq) Aq (Ch _))
   (As (Bp [2] (Au Ex (Ad 2) (Au Ve Aq Aq))))
   Ct)
  (Ar (Cq [0] (Cl (Gg m) (Au Ex (Ad 0) Aq) Aq (Ch _))
   (As (Bp [2] (Au Ex (Ad 2) Aq)))
   Ct)
  (Ar (Bl (i:=3) [] vz d)
  (Ar (Bl (i:=4) [2] (Au Ex (Ad 2) Aq) d)
  (Ar (eE [4] Fh zq (oR aL #v[4]) (fK (i:=5) d)
   (Ar (Bl (i:=2) [2,5] (Au iU (Ad 2) (Hl (iR #v[Aq,Aq]) (tQ Zg rfl uM W6 #v[jQ qK (Ad 5) Aq (Ch _)]))) d)
  (As (Bl (i:=3) [1,2,3] (Au Cb (Ad 3) (Hl (Ad 1) (Au Ex (Ad 2) Aq))) d))))
  (As (oK 3)))))))))
variable(t9:KA P w K r u)(y2:Je P w K r u)
def Zu:AH P w K r u f B "_law_keys" 48 4 Li 3 yk:=λF=>Cd (N:=["_law_script","_law_start","_law_most","_law_found","_law_cell_here","_law_key_here"]) F λzq o m d p=>(Ar (Bl (i:=3) [] (iR Am) d)
  (Ar (eE [0,1,2] Fh zq (Ep (Bh o p t9 #v[0,1,2])) (fK (i:=4) d)
   (Ar (Bl (i:=5) [4] (Bh o p y2 #v[4]) d)
  (As (Cq [3,5] (Cl wZ (Ad 5) (Ad 3) (by with_unfolding_all rfl))
   (As (lz (i:=3) (Ad 5)))
   Ct))))
  (Ar (Cq [3] (Cl (Gg m) (Ad 3) (iR Am) (Ch _))
   (As (Bl (i:=3) [0] (iR #v[Bh o p y2 #v[Au iU (Bh o p i7 #v[0,Aq]) Aq]]) d))
   Ct)
  (As (oK 3)))))
def K':AH P w K r u f B "_law_shape" 51 1 ["_law_cell_here","_law_many"] 2 yR:=λF=>Cd (N:=["_law_cell_here","_law_many","_law_most","_law_buckets_here"]) F λzq o m d p=>(@Ar _ _ _ _ _ _ (Bl (i:=2) [0] (@Hl _ _ _ _ _ _ _ (@iR _ _ _ _ _ (@Ae _ _ _ _ _ _ (Au Cb Aq (Au Ex (Au iU (Ad 0) Aq) Aq)) #v[Aq,Aq,Aq] rfl)) (Au Ex (Ad 0) Aq) (λ_ _=>rfl)) d)
  (@Ar _ _ _ _ _ _ (Bl (i:=3) [0,1] (@Hl _ _ _ _ _ _ _ (@iR _ _ _ _ _ (@Ae _ _ _ _ _ _ (Au Cb Aq (Au Ex (Au iU (Ad 0) Aq) Aq)) (@Ae _ _ _ _ _ _ (Au Cb Aq (Au Ex (Au iU (Ad 0) Aq) Aq)) (@Ae _ _ _ _ _ _ (Bx (yi zq) rfl n8 M0 #v[Aq,Au iU (Ad 1) Aq]) #v[Bx (yi zq) rfl n8 M0 #v[Aq,Au iU (Ad 1) Aq]] rfl) rfl) rfl)) (Au Ex (Au iU (Ad 0) Aq) Aq) (λ_ _=>rfl)) d)
  (As (Bp [2,3] (EO #v[3,2])))))
def D':AH P w K r u f B "_law_mixed" 50 1 L24 3 kJ:=λF=>Cd (N:=["_law_number","_law_salt","_law_size","_law_prime","_law_a","_law_b","_law_first"]) F λzq o m d p=>(Ar (Bl (i:=3) [] Aq d)
  (Ar (Bl (i:=4) [1,3] (Au Cb Aq (Au Ex (Au Cb (Au Fm Aq (Ad 1)) Aq) (Au jB (Ad 3) Aq))) d)
  (Ar (Bl (i:=5) [1,3] (Au Ex (Au Cb (Au Fm (Au Fm Aq (Ad 1)) (Ad 1)) (Au Fm Aq (Ad 1))) (Ad 3)) d)
  (Ar (Bl (i:=6) [0,3,4,5] (Au Ex (Au Cb (Au Fm (Ad 4) (Ad 0)) (Ad 5)) (Ad 3)) d)
  (As (Bp [2,6] (Au Ex (Au Cb (Ad 6) (Au iU (Ad 6) Aq)) (Ad 2))))))))
variable(f7:r "isinstance" =none)(BV:gW K "int")
def B':AH P w K r u f B "_law_stamp" 49 1 ["_law_key_here"] 1 mL:=λF=>Cd (N:=["_law_key_here","_law_worth","_law_sign"]) F λzq o m d p=>(Ar (Cq [0] (eJ (nB BV (Ad 0) f7 uM W6))
   (As (Bp [0] (Au Fm Aq (Ad 0))))
   Ct)
  (Ar (Bl (i:=1) [] Aq d)
  (Ar (eE [0] Fh zq (Ep (Ad 0)) (fK (i:=2) d)
   (As (Bl (i:=1) [1,2] (Au Cb (Au Cb (Au Fm (Ad 1) Aq) (Hz ZB8 PySem.F.slot_str_index PySem.F.type_str_index Yc vz #v[2])) Aq) d)))
  (As (Bp [1] (Au Cb (Au Fm Aq (Ad 1)) Aq))))))
variable(aK:xt P w K r u)(j9:Ky P w K r u)
def aaU:AH P w K r u f B "_law_sorted_out" 53 2 L29 2 zK:=λF=>Cd (N:=["_law_keys_here","_law_many_buckets","_law_found","_law_key_here"]) F λzq o m d p=>(Ar (Um (N':=["_law_keys_here","_law_many_buckets","_law_found","_law_key_here","_law_bucket"]) (i:=2) [1] zq (oR aL #v[1]) rfl ∅ rfl (λC s0 H0 fp pn=>(Gx (i:=4))) d)
  (Ar (eE [0] Fh zq (Ep (Ad 0)) (fK (i:=3) d)
   (As (Ul (i:=2) (Bh o p aK #v[Bh o p j9 #v[3],Aq,1]) (Bh o p j9 #v[3]))))
  (As (oK 2))))
variable(y9:r "reversed" =none)
def aaI:AH P w K r u f B "_law_in_turn" 54 1 ["_law_stamps_of"] 1 yt:=λF=>Cd (N:=["_law_stamps_of","_law_order","_law_size"]) F λzq o m d p=>(Ar (Bl (i:=1) [] (iR Am) d)
  (Ar (eE [0] Fh zq (Uo y9 aL #v[(Au Cb Aq (Bx (JE zq) rfl n8 M0 #v[(fJ (N':=["_law_stamps_of","_law_order","_law_size","_law_stamps"]) zq (Cs (Ep (Ad 0))) ⟨rfl,by rfl',rfl,λC s0 H0 fp pn=>⟨(Gx (i:=3)),jP,(Bx Df rfl aF B9 #v[3])⟩⟩)]))]) (fK (i:=2) d)
   (As (Bl (i:=1) [0,1,2] (Au Cb (Ad 1) (fJ (N':=["_law_stamps_of","_law_order","_law_size","_law_bucket"]) zq (Cs (oR aL #v[Bx Df rfl aF B9 #v[0]])) ⟨rfl,by rfl',rfl,λC s0 H0 fp pn=>⟨(Gx (i:=3)),(ly (Cl (Gg m) (Bx Df rfl aF B9 #v[Hl (Ad 0) (Ad 3)]) (Ad 2) (Ch _))),(Ad 3)⟩⟩)) d)))
  (As (oK 1))))
variable(uL:r "set" =none)
def aaO:AH P w K r u f B "_law_has_room" 52 2 Le 4 uj:=λF=>Cd (N:=["_law_stamps","_law_number","_law_taken","_law_many","_law_rooms"]) F λzq o m d p=>(Ar (HA (i:=4) [0,1,3] (N':=["_law_stamps","_law_number","_law_taken","_law_many","_law_rooms","_law_one"]) zq (Cs (Ep (Ad 0))) ⟨rfl,by rfl',rfl,λC s0 H0 fp pn=>⟨(Gx (i:=5)),jP,(Bh (iY o) iT aK #v[5,Au Cb (Ad 1) Aq,3])⟩⟩ d)
  (Ar (Cq [4] (Cl lB (wX zq aF uL (Ad 4)) (Bx Df rfl aF B9 #v[4]) (Ch _))
   (As (Bp [] iG))
   Ct)
  (As (Bp [2,4] (jQ (Gg m) (fJ (N':=["_law_stamps","_law_number","_law_taken","_law_many","_law_rooms","_law_room"]) zq (Cs (Ep (Ad 4))) ⟨rfl,by rfl',rfl,λC s0 H0 fp pn=>⟨(Gx (i:=5)),(ly (Cl (qH m) (Ad 5) (Ad 2) (by with_unfolding_all rfl))),(Ad 5)⟩⟩) (iR Am) (Ch _))))))
variable(g9:LU P w K r u)
def x':AH P w K r u f B "_law_least" 55 3 Le 4 yQ:=λF=>Cd (N:=["_law_stamps","_law_number","_law_taken","_law_many","_law_lesser"]) F λzq o m d p=>(Ar (eE [1] Fh zq (oR aL #v[1]) (fK (i:=4) d)
   (As (Cq [0,2,3,4] (eJ (Bh o p g9 #v[0,4,2,3]))
   (As (Bp [] iG))
   Ct)))
  (As (Bp [] iG)))
variable(PZ:r "all" =none){ad4:Tok}(p7:r "MOST_SIGNS" =some (.int 11 ad4)){ai5:Tok}(CA:r "SIGNS" =some (.str "abcdefghijklmnopqrstuvwxyz0123456789-_ " ai5))
def aaH:AH P w K r u f B "is_key_text" 13 1 ["text"] 1 zw:=λF=>Cd (N:=["text"]) F λzq o m d p=>(As (Bp [0] (qL (jQ jy (Bx Df rfl aF B9 #v[0]) (jC rfl p7) (Ch _)) (qM (Bx (Yd zq) rfl PZ PyProof.Rows.boot_all #v[(fJ (N':=["text","sign"]) zq (Cs (Ep (Ad 0))) ⟨rfl,by rfl',rfl,λC s0 H0 fp pn=>⟨(Gx (i:=1)),jP,(jQ SM (Ad 1) (HI rfl CA) (by with_unfolding_all rfl))⟩⟩)])))))
variable(n9:LI P w K r u)(Qa:r "bool" =none)(BR:r "str" =none)(Qd:gW K "bool")(BS:gW K "str"){aa8:Tok}(k8:r "GREATEST_NUMBER" =some (.int 999999999999999999 aa8))
def Xm:AH P w K r u f B "is_key" 14 2 ["thing"] 1 tJ:=λF=>Cd (N:=["thing"]) F λzq o m d p=>(Ar (Cq [0] (eJ (nB Qd (Ad 0) f7 Qa Yg))
   (As (Bp [] iG))
   Ct)
  (Ar (Cq [0] (eJ (nB BV (Ad 0) f7 uM W6))
   (As (Bp [0] (WU jy jy Aq (Ad 0) (jC rfl k8))))
   Ct)
  (As (Bp [0] (qL (nB BS (Ad 0) f7 BR PyProof.Rows.boot_str) (qM (Bh o p n9 #v[0])))))))
variable(v5:HV P w K r u)(l7:r "enumerate" =none){r6:Addr}(BW:XC P w K r u "NoKey" "at" r6)
def aaR:AH P w K r u f B "look_each_key" 18 3 ["keys"] 1 qa:=λF=>Cd (N:=["keys","place","key"]) F λzq o m d p=>(As (eE [0] Fh zq (Hw l7 (Ad 0)) (EH (i:=1) (j:=2) zq d)
   (As (Cq [2] (Gn (eJ (Bh o p v5 #v[2])))
   (As (nS [1] BW (aE.mono o ⋯) lE (Ad 1)))
   Ct))))
variable{p8:Addr}(Qc:XC P w K r u "Twice" "at" p8)
def aaG:AH P w K r u f B "look_unlike" 19 3 ["keys"] 1 zv:=λF=>Cd (N:=["keys","seen","place","key"]) F λzq o m d p=>(Ar (Bl (i:=1) [] lG d)
  (As (eE [0] Fh zq (Hw l7 (Ad 0)) (EH (i:=2) (j:=3) zq d)
   (Ar (Cq [1,3] (Cl (qH m) (Ad 3) (Ad 1) (by with_unfolding_all rfl))
   (As (nS [2] Qc (aE.mono o ⋯) lE (Ad 2)))
   Ct)
  (As (nI (i:=1) [] m iG (Ad 3)))))))
variable(d9:Mh P w K r u)(o5:LH P w K r u){n6:Addr}(Qg:NU K r "NoKeys" n6){ae1:Tok}(v7:r "MOST_KEYS" =some (.int 200 ae1))
def l':AH P w K r u f B "look_keys" 20 4 ["keys"] 1 sE:=λF=>Cd (N:=["keys"]) F λzq o m d p=>(Ar (Cq [0] (fZ (gO (Cl (Gg m) (Bx Df rfl aF B9 #v[0]) Aq (Ch _)) (lC (Cl qK (Bx Df rfl aF B9 #v[0]) (jC rfl v7) (Ch _)))))
   (As (XR Qg (aE.mono o ⋯) lE))
   Ct)
  (Ar (qY [0] (Bh o p d9 #v[0]))
  (Ar (qY [0] (Bh o p o5 #v[0]))
  (As (Bp [0] (Bx Df rfl aF B9 #v[0]))))))
variable{ai7:Tok}(BU:r "PRIME" =some (.int 2305843009213693951 ai7))
def Vy:AH P w K r u f B "mixed" 17 1 ["number","salt","size"] 3 oH:=λF=>Cd (N:=["number","salt","size","factor","shift","first"]) F λzq o m d p=>(Ar (Cq [2] (Cl (Gg m) (Ad 2) Aq (Ch _))
   (As (Bp [] Aq))
   Ct)
  (Ar (Bl (i:=3) [1] (Au Cb Aq (Au Ex (Au Cb (Au Fm Aq (Ad 1)) Aq) (Au jB (jC rfl BU) Aq))) d)
  (Ar (Bl (i:=4) [1] (Au Ex (Au Cb (Au Fm (Au Fm Aq (Ad 1)) (Ad 1)) (Au Fm Aq (Ad 1))) (jC rfl BU)) d)
  (Ar (Bl (i:=5) [0,3,4] (Au Ex (Au Cb (Au Fm (Ad 3) (Ad 0)) (Ad 4)) (jC rfl BU)) d)
  (As (Bp [2,5] (Au Ex (Au Cb (Ad 5) (Au iU (Ad 5) Aq)) (Ad 2))))))))
variable(j6:FF P w K r u){ad3:Tok}(o6:r "BUCKET_SALT" =some (.int 0 ad3))
def ZZ:AH P w K r u f B "bucket_of" 34 2 QF 2 ud:=λF=>Cd (N:= QF) F λzq o m d p=>(As (Bp [0,1] (Bh o p j6 #v[0,jC rfl o6,1])))
variable(l8:Kv P w K r u)
def aba:AH P w K r u f B "stamps_by_bucket" 36 3 ["stamps","many_buckets"] 2 zM:=λF=>Cd (N:=["stamps","many_buckets","found","number"]) F λzq o m d p=>(Ar (Bl (i:=2) [] lG d)
  (Ar (eE [0] Fh zq (Ep (Ad 0)) (fK (i:=3) d)
   (As (Sn (i:=2) (Bh o p l8 #v[3,1]) (Ad 3))))
  (As (oK 2))))
def YF:AH P w K r u f B "room_by" 35 2 Lz 3 tP:=λF=>Cd (N:= Lz) F λzq o m d p=>(As (Bp [0,1,2] (Bh o p j6 #v[0,Au Cb (Ad 1) Aq,2])))
variable(l3:Jd P w K r u)
def ZY:AH P w K r u f B "rooms_fit" 37 3 L15 4 MH:=λF=>Cd (N:=["stamps","bucket_number","how_many","taken","own","number","room"]) F λzq o m d p=>(Ar (Bl (i:=4) [] lG d)
  (Ar (eE [0] Fh zq (Ep (Ad 0)) (fK (i:=5) d)
   (Ar (Bl (i:=6) [1,2,5] (Bh o p l3 #v[5,1,2]) d)
  (Ar (Cq [3,4,6] (fZ (gO (Cl (qH m) (Ad 6) (Ad 3) (by with_unfolding_all rfl)) (lC (Cl (qH m) (Ad 6) (Ad 4) (by with_unfolding_all rfl)))))
   (As (Bp [] iG))
   Ct)
  (As (nI (i:=4) [] m iG (Ad 6))))))
  (As (Bp [] iG))))
variable(x0:Ku P w K r u)
def aaN:AH P w K r u f B "least_number" 38 4 L31 4 yv:=λF=>Cd (N:=["stamps","how_many","taken","most","bucket_number"]) F λzq o m d p=>(Ar (eE [3] Fh zq (oR aL #v[3]) (fK (i:=4) d)
   (As (Cq [0,1,2,4] (eJ (Bh o p x0 #v[0,4,1,2]))
   (As (oK 4))
   Ct)))
  (As (Bp [] eF)))
variable(j7:y_8 P w K r u)(n5:LS P w K r u)(l9:r "sorted" =none){i8:Addr}(BY:XC P w K r u "NoFit" "at" i8){cT:Addr}{pT:Addr}(bo:PySem.W.tabIn K "numbers_by_bucket" =some (cT,pT))(PY:PySem.W.codeHdIn K cT pT=true)
def abe(F:bI K "numbers_by_bucket" "numbers_by_bucket" (Bj 39) f B)(aj:B.code=.ref cT):bO P w K r u true 5 f B ["stamps","many_buckets","most"] (Br K 3 sV):=
 Rx (N:=["stamps","many_buckets","most","within","taken","numbers","bucket","found","number"]) F aj λzq o m d p=>(Ar (Bl (i:=3) [0,1] (Bh o p j7 #v[0,1]) d)
  (Ar (Bl (i:=4) [] lG d)
  (Ar (Bl (i:=5) [] lG d)
  (Ar (eE [3] Fh zq (Ep (Wk zq o l9 bo PY (Ad 3) ⟨rfl,rfl,rfl,rfl,rfl,rfl,by rfl',λ_ _ _ _ _=>rfl,λA f c s H zd m=>(EO #v[EG (Bx Df rfl aF B9 #v[vX m (Ad 3) (Ad 9)]),9])⟩)) (fK (i:=6) d)
   (Ar (Ux (i:=7) (Uy [4] (Bh o (Lk.lend p) n5 #v[vX m (Ad 3) (Ad 6),Bx Df rfl aF B9 #v[0],4,2])) d)
  (Ar (Cq [7] (Cl rQ (Ad 7) eF (Ch _))
   (As (nS [6] BY (aE.mono o ⋯) lE (Ad 6)))
   Ct)
  (Ar (nI (i:=5) [7] m (Ad 7) (Ad 6))
  (As (eE [3,6] Fh zq (Ep (vX m (Ad 3) (Ad 6))) (fK (i:=8) d)
   (As (nI (i:=4) [] m iG (Bh o p l3 #v[8,7,Bx Df rfl aF B9 #v[0]])))))))))
  (As (oK 5))))))
def Vx:AH P w K r u f B "worth" 15 1 ["text"] 1 nF:=λF=>Cd (N:=["text","total","sign"]) F λzq o m d p=>(Ar (Bl (i:=1) [] Aq d)
  (Ar (eE [0] Fh zq (Ep (Ad 0)) (fK (i:=2) d)
   (As (Bl (i:=1) [1,2] (Au Cb (Au Cb (Au Fm Aq (Ad 1)) (Hz ZB8 PySem.F.slot_str_find PySem.F.type_str_find WI (HI rfl CA) #v[2])) Aq) d)))
  (As (oK 1))))
variable(Qb:FD P w K r u)
def Vw:AH P w K r u f B "stamp" 16 3 ["key"] 1 mw:=λF=>Cd (N:=["key"]) F λzq o m d p=>(Ar (Cq [0] (Gn (eJ (Bh o p v5 #v[0])))
   (As (nS [] BW (aE.mono o ⋯) lE Aq))
   Ct)
  (Ar (Cq [0] (eJ (nB BS (Ad 0) f7 BR PyProof.Rows.boot_str))
   (As (Bp [0] (Au Cb (Au Fm Aq (Bh o p Qb #v[0])) Aq)))
   Ct)
  (As (Bp [0] (Au Fm Aq (Ad 0))))))
variable(d5:cD K Lc "how_many")
abbrev NZ:List Str:=["self","how_many"]
def y_9(F:bI K "__init__" "House.__init__" (Eh 22 0) f B){CI:Addr}(uy:ClsAt K "Buckets" CI):bO P w K r u true 1 f B NZ (pF K CI 1 yO):=
 qx (n:=1) (cn:= "Buckets") (N:= NZ) F uy ⋯ ⋯ λzq o m d p=>(As (lF (i:=0) [1] d5 (Ad 1)))
variable(l6:Kw P w K r u)(j4:w_3 P w K r u)(k6:FC P w K r u)(f8:om P w K r u true "House" "Buckets" 1 1 yO)(f6:cD K ["Buckets"] "many_buckets")(k4:cD K ["Buckets"] "by_bucket")
abbrev L27:List Str:=["self","keys","many_buckets","most"]
def aaZ(F:bI K "__init__" "Buckets.__init__" (Eh 40 0) f B){CI:Addr}(uy:ClsAt K "Buckets" CI):bO P w K r u true 6 f B L27 (pF K CI 3 sk):=
 qx (n:=3) (cn:= "Buckets") (N:= L27) F uy ⋯ ⋯ λzq o m d p=>(Ar (IG (i:=0) [1] o p f8 (Bh o p l6 #v[1]))
  (Ar (lF (i:=0) [2] f6 (Ad 2))
  (As (lF (i:=0) [1,2,3] k4 (Bh o p j4 #v[(fJ (N':=["self","keys","many_buckets","most","key"]) zq (Cs (Ep (Ad 1))) ⟨rfl,by rfl',rfl,λC s0 H0 fp pn=>⟨(Gx (i:=4)),jP,(Bh (iY o) iT k6 #v[4])⟩⟩),2,3])))))
def abd:AI P w K r u f B "number_in" "Buckets.number_in" 40 3 1 ["self","bucket"] 2 pq:=λF=>Cd (N:=["self","bucket"]) F λzq o m d p=>(As (Bp [0,1] (US m (lR k4 (Ad 0)) (Ad 1) Aq)))
variable(d8:bE P w K r u true 1 1 "number_in" [("Buckets",pq)])
def aaX:AI P w K r u f B "numbers" "Buckets.numbers" 40 1 2 ["self"] 1 uJ:=λF=>Cd (N:=["self"]) F λzq o m d p=>(As (Bp [0] (fJ (N':=["self","bucket"]) zq (Cs (oR aL #v[lR f6 (Ad 0)])) ⟨rfl,by rfl',rfl,λC s0 H0 fp pn=>⟨(Gx (i:=1)),jP,(pC d8 (iY o) iT (Ad 0) #v[1])⟩⟩)))
variable(l4:cD K ["Halved"] "salts")(k9:r "list" =none)
def aaT:AI P w K r u f B "numbers" "Halved.numbers" 31 1 1 ["self"] 1 uG:=λF=>Cd (N:=["self"]) F λzq o m d p=>(As (Bp [0] (tQ yS rfl k9 M3 #v[lR l4 (Ad 0)])))
abbrev Lr:List Str:=["self","key"]
def aaS:AI P w K r u f B "bucket" "Buckets.bucket" 40 2 4 Lr 2 qd:=λF=>Cd (N:= Lr) F λzq o m d p=>(As (Bp [0,1] (Bh o p l8 #v[Bh o p k6 #v[1],lR f6 (Ad 0)])))
variable(k7:bE P w K r u true 4 1 "bucket" [("Buckets",qd)])
def abc:AI P w K r u f B "number_of" "Buckets.number_of" 40 4 5 Lr 2 sU:=λF=>Cd (N:= Lr) F λzq o m d p=>(As (Bp [0,1] (Bh o p l3 #v[Bh o p k6 #v[1],pC d8 o p (Ad 0) #v[pC k7 o p (Ad 0) #v[1]],lR d5 (Ad 0)])))
variable(i9:bE P w K r u true 5 1 "number_of" [("Buckets",sU)])
def aaM:AI P w K r u f B "room" "House.room" 22 2 6 Lr 2 sR:=λF=>Cd (N:= Lr) F λzq o m d p=>(As (Bp [0,1] (Bx (og zq) rfl r9 N7 #v[pC i9 o p (Ad 0) #v[1],Au jB (lR d5 (Ad 0)) Aq])))
variable(m6:bE P w K r u true 6 1 "room" [("Buckets",sR)])
abbrev NY:List Str:=["self","keys"]
def aaQ:AI P w K r u f B "rooms" "House.rooms" 22 3 7 NY 2 uF:=λF=>Cd (N:= NY) F λzq o m d p=>(Ar (qY [1] (Bh o p d9 #v[1]))
  (As (Bp [0,1] (fJ (N':=["self","keys","key"]) zq (Cs (Ep (Ad 1))) ⟨rfl,by rfl',rfl,λC s0 H0 fp pn=>⟨(Gx (i:=2)),jP,(pC m6 (iY o) iT (Ad 0) #v[2])⟩⟩))))
def YE:AH P w K r u f B "is_last" 25 1 uP 2 si:=λF=>Cd (N:= uP) F λzq o m d p=>(As (Bp [0,1] (jQ jy (Ad 0) (Bx (yi zq) rfl n8 M0 #v[1,Aq]) (Ch _))))
def ZX:AH P w K r u f B "left_size" 24 1 ["size"] 1 ub:=λF=>Cd (N:=["size"]) F λzq o m d p=>(As (Bp [0] (Au iU (Au Cb (Ad 0) Aq) Aq)))
theorem Mg(F:bI K "parts_within" "parts_within" (Bj 30) f B)(hm:r "parts_within" =some (.ref f))(hb:Binds K B uP [])(aQ:wI P w K r u)(aO:xr P w K r u):∀n:Nat,bO P w K r u true (n + 1) f B uP (Br K 2 (uh n))
 |0=>bO.never rfl
 |n + 1=>Cd (N:=["size","leaf","left"]) F λzq o m d p=>have BL:uQ P w K r u true "parts_within" (n + 1) uP (uh n):=lA F hm hb (Mg F hm hb aQ aO n)
  (Ar (Cq [0,1] (eJ (Bh o p aQ #v[0,1] ()))
   (As (Bp [] Aq))
   Ct)
  (Ar (Bl (i:=2) [0] (Bh o p aO #v[0] ()) d)
  (As (Bp [0,1,2] (Au Cb (Au Cb Aq (Bh o p BL #v[2,1] (A9 _))) (Bh o p BL #v[Au jB (Ad 0) (Ad 2),1] (A9 _)))))))
variable(aQ:wI P w K r u)(aO:xr P w K r u)(m9:LR P w K r u)(y3:cD K ["Halved"] "leaf")
def aaY:AI P w K r u f B "number_of" "Halved.number_of" 31 2 72 Lr 2 uB:=λF=>Cd (N:=["self","key","number","size","turn","passed","left"]) F λzq o m d p=>(Ar (Bl (i:=2) [1] (Bh o p k6 #v[1]) d)
  (Ar (Bl (i:=3) [0] (lR d5 (Ad 0)) d)
  (Ar (Bl (i:=4) [] Aq d)
  (Ar (Bl (i:=5) [] Aq d)
  (Ar (nV [0,3] 3000 Fh (Gn (eJ (Bh o p aQ #v[3,lR y3 (Ad 0)])))
   (Ar (Bl (i:=6) [3] (Bh o p aO #v[3]) d)
  (As (Cq [0,2,4] (Cl (Gg m) (Bh o p j6 #v[2,Hl (lR l4 (Ad 0)) (Ad 4),Aq]) Aq (Ch _))
   (Ar (Bl (i:=4) [4] (Au Cb (Ad 4) Aq) d)
  (As (Bl (i:=3) [6] (Ad 6) d)))
   (Ar (Bl (i:=4) [0,4,6] (Au Cb (Au Cb (Ad 4) Aq) (Bh o p m9 #v[6,lR y3 (Ad 0)])) d)
  (Ar (Bl (i:=5) [5,6] (Au Cb (Ad 5) (Ad 6)) d)
  (As (Bl (i:=3) [3,6] (Au jB (Ad 3) (Ad 6)) d))))))))
  (As (Bp [0,2,3,4,5] (Au Cb (Ad 5) (Bh o p j6 #v[2,Hl (lR l4 (Ad 0)) (Ad 4),3])))))))))
variable(j5:bE P w K r u true 72 1 "number_of" [("Halved",uB)])
def aaF:AI P w K r u f B "room" "House.room" 22 2 73 Lr 2 sI:=λF=>Cd (N:= Lr) F λzq o m d p=>(As (Bp [0,1] (Bx (og zq) rfl r9 N7 #v[pC j5 o p (Ad 0) #v[1],Au jB (lR d5 (Ad 0)) Aq])))
variable(m8:bE P w K r u true 73 1 "room" [("Halved",sI)])
def aaL:AI P w K r u f B "rooms" "House.rooms" 22 3 74 NY 2 uC:=λF=>Cd (N:= NY) F λzq o m d p=>(Ar (qY [1] (Bh o p d9 #v[1]))
  (As (Bp [0,1] (fJ (N':=["self","keys","key"]) zq (Cs (Ep (Ad 1))) ⟨rfl,by rfl',rfl,λC s0 H0 fp pn=>⟨(Gx (i:=2)),jP,(pC m8 (iY o) iT (Ad 0) #v[2])⟩⟩))))
variable(l0:Mn P w K r u)(o8:LJ P w K r u)(u0:Kx P w K r u)(y8:oj P w K r u true "Buckets" 6 3 sk)(d0:bE P w K r u true 2 0 "numbers" NX)(d4:bE P w K r u true 74 1 "rooms" NW)(o9:r "NoFit" =some (.ref i8))(v6:bG K i8 uO)(BQ:cY K Ob "at")
def aaE:AH P w K r u f B "_law_buckets" 56 75 L12 3 MP:=λF=>Cd (N:=["_law_keys_here","_law_many_buckets","_law_most","_law_stamps_of","_law_house","_law_numbers","_law_bad","error","_law_taken","_law_bucket","_law_stamps","_law_number","_law_one"]) F λzq o m d p=>(Ar (Bl (i:=3) [0,1] (Bh o p l0 #v[0,1]) d)
  (Ar (Bl (i:=4) [] eF d)
  (Ar (Bl (i:=5) [] eF d)
  (Ar (Bl (i:=6) [] eF d)
  (Ar (GV d rfl rfl (λzd W Od Nf=>(Ar (Bl (i:=4) [0,1,2] (GY (wz o) Nf y8 #v[tQ yS rfl k9 M3 #v[0],1,2]) d)
  (As (Bl (i:=5) [4] (IM d0 (wz o) Nf (Ad 4)) d)))) (eW.PV (i:=7) o9 v6 (λe=>(As (Bl (i:=6) [7] (GW BQ (Ad 7)) d))) .nil))
  (Ar (Bl (i:=8) [] lG d)
  (Ar (eE [3] Fh zq (Ep (Bh o p o8 #v[3])) (fK (i:=9) d)
   (Ar (Bl (i:=10) [3,9] (Hl (Ad 3) (Ad 9)) d)
  (Ar (Bl (i:=11) [] Aq d)
  (Ar (Cq [5] (Cl WD (Ad 5) eF (Ch _))
   (As (Bl (i:=11) [5,9] (Hl (Ad 5) (Ad 9)) d))
   Ct)
  (Ar (nV [0,2,5,8,10,11] 3000 Fh (fZ (vy (Cl rQ (Ad 5) eF (Ch _)) (vy (Cl lB (Ad 11) (Ad 2) (Ch _)) (HG (Gn (eJ (Bh o p g9 #v[10,11,8,Bx Df rfl aF B9 #v[0]])))))))
   (As (Bl (i:=11) [11] (Au Cb (Ad 11) Aq) d)))
  (Ar (Cq [2,11] (Cl (Gg m) (Ad 11) (Ad 2) (Ch _))
   (As (Bp [6,9] (jQ (Gg m) (Ad 6) (Ad 9) (Ch _))))
   Ct)
  (Ar (Cq [0,2,8,10,11] (fZ (gO (Gn (WT jy lB Aq (Ad 11) (Ad 2))) (lC (Gn (eJ (Bh o p g9 #v[10,11,8,Bx Df rfl aF B9 #v[0]]))))))
   (As (Bp [] iG))
   Ct)
  (Ar (Cq [0,8,10,11] (Gn (eJ (Bh o p u0 #v[10,11,8,Bx Df rfl aF B9 #v[0]])))
   (As (Bp [] iG))
   Ct)
  (As (eE [10] Fh zq (Ep (Ad 10)) (fK (i:=12) d)
   (As (nI (i:=8) [] m iG (Bh o p aK #v[12,Au Cb (Ad 11) Aq,Bx Df rfl aF B9 #v[0]])))))))))))))
  (Ar (Cq [1,5] (fZ (gO (Cl rQ (Ad 5) eF (Ch _)) (lC (Cl (qJ m) (Bx Df rfl aF B9 #v[5]) (Ad 1) (Ch _)))))
   (As (Bp [] iG))
   Ct)
  (As (Bp [0,4,8] (qL (jQ (Gg m) (Bx (xq zq) rfl l9 Q7 #v[pC d4 o p (Ad 4) #v[tQ yS rfl k9 M3 #v[0]]]) (xP zq k9 aL #v[Bx Df rfl aF B9 #v[0]]) (Ch _)) (qM (jQ (Gg m) (Bx (xq zq) rfl l9 Q7 #v[tQ (Zd zq) rfl k9 M3 #v[8]]) (xP zq k9 aL #v[Bx Df rfl aF B9 #v[0]]) (Ch _))))))))))))))
abbrev L28:List Str:=["_law_stamps","_law_salt","_law_one"]
def aaq:AH P w K r u f B "_law_unlike" 57 2 Lj 2 yY:=λF=>Cd (N:= Lj) F λzq o m d p=>(As (Bp [0,1] (jQ (Gg m) (wX zq aF uL (fJ (N':= L28) zq (Cs (Ep (Ad 0))) ⟨rfl,by rfl',rfl,λC s0 H0 fp pn=>⟨(Gx (i:=2)),jP,(Bh (iY o) iT aK #v[2,1,Bx Df rfl aF B9 #v[0]])⟩⟩)) (Bx Df rfl aF B9 #v[0]) (Ch _))))
def Zt:AH P w K r u f B "_law_goes" 58 2 Lj 2 tY:=λF=>Cd (N:= Lj) F λzq o m d p=>(As (Bp [0,1] (fJ (N':= L28) zq (Cs (Ep (Ad 0))) ⟨rfl,by rfl',rfl,λC s0 H0 fp pn=>⟨(Gx (i:=2)),(ly (Cl (Gg m) (Bh (iY o) iT aK #v[2,1,Aq]) Aq (Ch _))),(Ad 2)⟩⟩)))
variable(p9:Lp P w K r u)(aS:xh P w K r u)
def Zs:AH P w K r u f B "_law_fits" 59 3 Lw 3 pM:=λF=>Cd (N:= Lw) F λzq o m d p=>(Ar (Cq [0,1] (Cl jy (Bx Df rfl aF B9 #v[0]) (Ad 1) (Ch _))
   (As (Bp [0,2] (Bh o p p9 #v[0,2])))
   Ct)
  (As (Bp [0,2] (jQ (Gg m) (Bx Df rfl aF B9 #v[Bh o p aS #v[0,2]]) (Au iU (Au Cb (Bx Df rfl aF B9 #v[0]) Aq) Aq) (Ch _)))))
variable(aV:xg P w K r u)
def ZW:AH P w K r u f B "_law_lacks" 61 4 L13 4 rH:=λF=>Cd (N:=["_law_stamps","_law_leaf","_law_most","_law_at","_law_waiting","_law_count","_law_part","_law_salt","_law_left"]) F λzq o m d p=>(Ar (Bl (i:=4) [0] (iR #v[0]) d)
  (Ar (Bl (i:=5) [] Aq d)
  (Ar (nV [4] 3000 Fh (Cl (qJ m) (Ad 4) (iR Am) (Ch _))
   (Ar (GZ (i:=6) (j:=4) d)
  (Ar (Bl (i:=7) [] Aq d)
  (Ar (nV [1,2,6,7] 3000 Fh (fZ (vy (Cl lB (Ad 7) (Ad 2) (Ch _)) (HG (Gn (eJ (Bh o p aV #v[6,1,7]))))))
   (As (Bl (i:=7) [7] (Au Cb (Ad 7) Aq) d)))
  (Ar (Cq [2,7] (Cl (Gg m) (Ad 7) (Ad 2) (Ch _))
   (As (Bp [3,5] (jQ (Gg m) (Ad 5) (Ad 3) (Ch _))))
   Ct)
  (Ar (Bl (i:=5) [5] (Au Cb (Ad 5) Aq) d)
  (As (Cq [1,6] (Cl qK (Bx Df rfl aF B9 #v[6]) (Ad 1) (Ch _))
   (Ar (EE [6,7] (Bh o p aS #v[6,7]) (fK (i:=8) d))
  (Ar (lz (i:=4) (fJ (N':=["_law_stamps","_law_leaf","_law_most","_law_at","_law_waiting","_law_count","_law_part","_law_salt","_law_left","_law_one"]) zq (Cs (Ep (Ad 6))) ⟨rfl,by rfl',rfl,λC s0 H0 fp pn=>⟨(Gx (i:=9)),(ly (Cl wZ (Ad 9) (Ad 8) (by with_unfolding_all rfl))),(Ad 9)⟩⟩))
  (As (lz (i:=4) (Ad 8)))))
   Ct))))))))
  (As (Bp [] iG)))))
theorem LD(F:bI K "_law_walked" "_law_walked" (Bj 60) f B)(hm:r "_law_walked" =some (.ref f))(hb:Binds K B Lf [])(aV:xg P w K r u)(aK:xt P w K r u)(aS:xh P w K r u)(aF:r "len" =none)(aL:r "range" =none):∀n:Nat,bO P w K r u true (n + 3) f B Lf (Br K 4 (pP n))
 |0=>bO.never rfl
 |n + 1=>Cd (N:=["_law_stamps","_law_leaf","_law_salts","_law_at","_law_lesser","_law_left","_law_ones","_law_others","_law_rooms","_law_one"]) F λzq o m d p=>have BL:uQ P w K r u true "_law_walked" (n + 3) Lf (pP n):=lA F hm hb (LD F hm hb aV aK aS aF aL n)
  (Ar (Cq [0,1,2,3] (fZ (gO (Cl EJ (Ad 3) (Bx Df rfl aF B9 #v[2]) (Ch _)) (lC (Gn (eJ (Bh o p aV #v[0,1,Hl (Ad 2) (Ad 3)] ()))))))
   (As (Bp [] eF))
   Ct)
  (Ar (eE [2,3] Fh zq (oR aL #v[Hl (Ad 2) (Ad 3)]) (fK (i:=4) d)
   (As (Cq [0,1,4] (eJ (Bh o p aV #v[0,1,4] ()))
   (As (Bp [] eF))
   Ct)))
  (Ar (Cq [0,1] (Cl jy (Bx Df rfl aF B9 #v[0]) (Ad 1) (Ch _))
   (Ar (Bl (i:=8) [0] (SA #v[Aq] (Bx Df rfl aF B9 #v[0])) d)
  (Ar (eE [0] Fh zq (Ep (Ad 0)) (fK (i:=9) d)
   (As (UW (i:=8) (Ad 9) (Bh o p aK #v[9,Hl (Ad 2) (Ad 3),Bx Df rfl aF B9 #v[0]] ()))))
  (As (Bp [3,8] (iR #v[8,Au Cb (Ad 3) Aq])))))
   Ct)
  (Ar (Bl (i:=5) [0,2,3] (Bh o p aS #v[0,Hl (Ad 2) (Ad 3)] ()) d)
  (Ar (Bl (i:=6) [1,2,3,5] (Bh o p BL #v[5,1,2,Au Cb (Ad 3) Aq] (A9 _)) d)
  (Ar (Cq [6] (Cl rQ (Ad 6) eF (Ch _))
   (As (Bp [] eF))
   Ct)
  (Ar (Bl (i:=7) [0,1,2,5,6] (Bh o p BL #v[(fJ (N':=["_law_stamps","_law_leaf","_law_salts","_law_at","_law_lesser","_law_left","_law_ones","_law_others","_law_rooms","?9","_law_one"]) zq (Cs (Ep (Ad 0))) ⟨rfl,by rfl',rfl,λC s0 H0 fp pn=>⟨(Gx (i:=10)),(ly (Cl wZ (Ad 10) (Ad 5) (by with_unfolding_all rfl))),(Ad 10)⟩⟩),1,2,Hl (Ad 6) Aq] (A9 _)) d)
  (Ar (Cq [7] (Cl rQ (Ad 7) eF (Ch _))
   (As (Bp [] eF))
   Ct)
  (As (Bp [6,7] (iR #v[Au Cb (Hl (Ad 6) Aq) (Hl (Ad 7) Aq),Hl (Ad 7) Aq])))))))))))
def YD:AH P w K r u f B "on_side" 26 2 QE 3 tO:=λF=>Cd (N:= QE) F λzq o m d p=>(As (Bp [0,1,2] (fJ (N':=["stamps","salt","side","number"]) zq (Cs (Ep (Ad 0))) ⟨rfl,by rfl',rfl,λC s0 H0 fp pn=>⟨(Gx (i:=3)),(ly (Cl (Gg m) (Bh (iY o) iT j6 #v[3,1,Aq]) (Ad 2) (Ch _))),(Ad 3)⟩⟩)))
variable(m7:Jc P w K r u)
def ZV:AH P w K r u f B "salt_fits" 27 3 ["stamps","salt","leaf"] 3 yp:=λF=>Cd (N:=["stamps","salt","leaf","size"]) F λzq o m d p=>(Ar (Bl (i:=3) [0] (Bx Df rfl aF B9 #v[0]) d)
  (Ar (Cq [2,3] (eJ (Bh o p aQ #v[3,2]))
   (As (Bp [0,1,3] (jQ (Gg m) (wX zq aF uL (fJ (N':=["stamps","salt","leaf","size","number"]) zq (Cs (Ep (Ad 0))) ⟨rfl,by rfl',rfl,λC s0 H0 fp pn=>⟨(Gx (i:=4)),jP,(Bh (iY o) iT j6 #v[4,1,3])⟩⟩)) (Ad 3) (Ch _))))
   Ct)
  (As (Bp [0,1,3] (jQ (Gg m) (Bx Df rfl aF B9 #v[Bh o p m7 #v[0,1,Aq]]) (Bh o p aO #v[3]) (Ch _))))))
variable(t8:Ks P w K r u)
def aap:AH P w K r u f B "least_salt" 28 4 Oa 3 yX:=λF=>Cd (N:=["stamps","leaf","most","salt"]) F λzq o m d p=>(Ar (eE [2] Fh zq (oR aL #v[2]) (fK (i:=3) d)
   (As (Cq [0,1,3] (eJ (Bh o p t8 #v[0,3,1]))
   (As (oK 3))
   Ct)))
  (As (Bp [] eF)))
variable(p6:Lm P w K r u)
def ZU:AH P w K r u f B "salts_for" 29 5 Oa 3 sC:=λF=>Cd (N:=["stamps","leaf","most","salts","waiting","part","salt"]) F λzq o m d p=>(Ar (Bl (i:=3) [] (iR Am) d)
  (Ar (Bl (i:=4) [0] (iR #v[0]) d)
  (Ar (nV [4] 3000 Fh (Cl qK (Bx Df rfl aF B9 #v[4]) Aq (Ch _))
   (Ar (GZ (i:=5) (j:=4) d)
  (Ar (Bl (i:=6) [1,2,5] (Bh o p p6 #v[5,1,2]) d)
  (Ar (Cq [6] (Cl rQ (Ad 6) eF (Ch _))
   (As (nS [3] BY (aE.mono o ⋯) lE (Bx Df rfl aF B9 #v[3])))
   Ct)
  (Ar (lz (i:=3) (Ad 6))
  (As (Cq [1,5] (Gn (eJ (Bh o p aQ #v[Bx Df rfl aF B9 #v[5],1])))
   (Ar (lz (i:=4) (Bh o p m7 #v[5,6,Aq]))
  (As (lz (i:=4) (Bh o p m7 #v[5,6,Aq]))))
   Ct)))))))
  (As (oK 3)))))
def abh(F:bI K "__init__" "House.__init__" (Eh 22 0) f B){CI:Addr}(uy:ClsAt K "Halved" CI):bO P w K r u true 1 f B NZ (pF K CI 1 yN):=
 qx (n:=1) (cn:= "Halved") (N:= NZ) F uy ⋯ ⋯ λzq o m d p=>(As (lF (i:=0) [1] d5 (Ad 1)))
variable(v9:Kr P w K r u)(g8:om P w K r u true "House" "Halved" 1 1 yN)
def aaW(F:bI K "__init__" "Halved.__init__" (Eh 31 0) f B){CI:Addr}(uy:ClsAt K "Halved" CI):bO P w K r u true 6 f B ["self","keys","leaf","most"] (pF K CI 3 rY):=
 qx (n:=3) (cn:= "Halved") (N:=["self","keys","leaf","most"]) F uy ⋯ ⋯ λzq o m d p=>(Ar (IG (i:=0) [1] o p g8 (Bh o p l6 #v[1]))
  (Ar (lF (i:=0) [2] y3 (Ad 2))
  (As (lF (i:=0) [1,2,3] l4 (Bh o p v9 #v[(fJ (N':=["self","keys","leaf","most","key"]) zq (Cs (Ep (Ad 1))) ⟨rfl,by rfl',rfl,λC s0 H0 fp pn=>⟨(Gx (i:=4)),jP,(Bh (iY o) iT k6 #v[4])⟩⟩),2,3])))))
variable(x9:Kt P w K r u)(q9:Ln P w K r u)(Qf:oj P w K r u true "Halved" 6 3 rY)
def aao:AH P w K r u f B "_law_halves" 62 75 L19 3 MJ:=λF=>Cd (N:=["_law_keys_here","_law_leaf","_law_most","_law_stamps","_law_house","_law_bad","error","_law_salts","_law_walked_here","_law_rooms"]) F λzq o m d p=>(Ar (HA (i:=3) [0] (N':=["_law_keys_here","_law_leaf","_law_most","_law_stamps","_law_house","_law_bad","error","_law_salts","_law_walked_here","_law_rooms","_law_key_here"]) zq (Cs (Ep (Ad 0))) ⟨rfl,by rfl',rfl,λC s0 H0 fp pn=>⟨(Gx (i:=10)),jP,(Bh (iY o) iT j9 #v[10])⟩⟩ d)
  (Ar (Bl (i:=4) [] eF d)
  (Ar (Bl (i:=5) [] (EG Aq) d)
  (Ar (GV d rfl rfl (λzd W Od Nf=>(As (Bl (i:=4) [0,1,2] (GY (wz o) Nf Qf #v[tQ yS rfl k9 M3 #v[0],1,2]) d))) (eW.PV (i:=6) o9 v6 (λe=>(As (Bl (i:=5) [6] (GW BQ (Ad 6)) d))) .nil))
  (Ar (Cq [4] (Cl rQ (Ad 4) eF (Ch _))
   (As (Bp [1,2,3,5] (Bh o p x9 #v[3,1,2,5])))
   Ct)
  (Ar (Bl (i:=7) [4] (IM d0 o p (Ad 4)) d)
  (Ar (Bl (i:=8) [1,3,7] (Bh o p q9 #v[3,1,7,Aq]) d)
  (Ar (Cq [2,7,8] (fZ (gO (Cl rQ (Ad 8) eF (Ch _)) (gO (Cl (qJ m) (Hl (Ad 8) Aq) (Bx Df rfl aF B9 #v[7]) (Ch _)) (gO (Cl EJ (Bx (JE zq) rfl n8 M0 #v[7]) (Ad 2) (Ch _)) (lC (Cl lB (Bx (XQ zq) rfl r9 N7 #v[7]) Aq (Ch _)))))))
   (As (Bp [] iG))
   Ct)
  (Ar (Bl (i:=9) [0,4] (pC d4 o p (Ad 4) #v[tQ yS rfl k9 M3 #v[0]]) d)
  (Ar (Cq [0,9] (Cl (qJ m) (Bx (xq zq) rfl l9 Q7 #v[9]) (xP zq k9 aL #v[Bx Df rfl aF B9 #v[0]]) (Ch _))
   (As (Bp [] iG))
   Ct)
  (As (Bp [3,8,9] (jQ (Gg m) (fJ (N':=["_law_keys_here","_law_leaf","_law_most","_law_stamps","_law_house","_law_bad","error","_law_salts","_law_walked_here","_law_rooms","_law_room"]) zq (Cs (Ep (Ad 9))) ⟨rfl,by rfl',rfl,λC s0 H0 fp pn=>⟨(Gx (i:=10)),jP,(Hl (Hl (Ad 8) Aq) (Ad 10))⟩⟩) (Ad 3) (Ch _))))))))))))))
variable(z8:JX P w K r u)(u7:Kz P w K r u)(o7:LG P w K r u)(p5:Lg P w K r u)
def Se:AH P w K r u f B "law" 63 76 ["_law_script"] 1 DA:=λF=>Cd (N:=["_law_script","_law_keys_here","_law_cell_here","_law_many_buckets","_law_most"]) F λzq o m d p=>(Ar (Bl (i:=1) [0] (Bh o p z8 #v[0,Aq,Aq]) d)
  (Ar (Bl (i:=2) [0] (Bh o p i7 #v[0,Aq]) d)
  (Ar (EE [1,2] (Bh o p u7 #v[Au iU (Ad 2) Aq,Bx Df rfl aF B9 #v[1]]) (UU (i:=3) (j:=4) zq d))
  (As (Bp [1,2,3,4] (qL (Bh o p o7 #v[1,3,4]) (qM (Bh o p p5 #v[1,Au Cb Aq (Au Ex (Ad 2) Aq),Bx (og zq) rfl r9 N7 #v[Aq,4]]))))))))
abbrev jv:Stmt:=Bj 63
end
def Sd{l:PySem.W.OpenLaw}{w:World}{K:Frag}{h:Heap}{r:AB}{fa:Addr}(X:K.In h)(G:h.Ns mainGlobals r)(hfa:r "law" =some (.ref fa))
  {BZ i6 d7 r6 p8 i8 n6:Addr}
  {PH:Addr} {ak7 ak1:Option Addr} {ak6:Array (Option Value)} {ak8 ak2 ak5 ak3 PX aj4:Value}
  {fT cT pT:Addr} {oT zD:Value} {zC zB:Option Addr} {BP:Option Addr} {tV sd:Array (Option Value)} {BO:Arguments} {BM:List Stmt} {yW:Scope} {zL BI zr BJ:Value} {rV:Array Value}
  {ad2 ah9 z6 ad7 ai2 ac8:Tok}
  (ah8:PySem.W.nsIn K mainGlobals "House" =some (some (.ref BZ)))
  (f9:PySem.W.nsIn K mainGlobals "Halved" =some (some (.ref i6)))
  (j8:iN K i6)
  (ag1:makesIn K i6=true)
  (ag7:keepIn K (.ref i6)=true)
  (z9:aZ K i6 "how_many")
  (ac0:aZ K i6 "salts")
  (ac3:aZ K i6 "leaf")
  (d6:PySem.W.nsIn K mainGlobals "Buckets" =some (some (.ref d7)))
  (g7:iN K d7)
  (af4:makesIn K d7=true)
  (af2:keepIn K (.ref d7)=true)
  (y7:aZ K d7 "how_many")
  (p4:aZ K d7 "many_buckets")
  (u6:aZ K d7 "by_bucket")
  (w1:aM K "_law_raw" (Bj 43))
  (w2:aM K "_law_mix" (Bj 42))
  (w3:aM K "_law_cell" (Bj 44))
  (w4:aM K "_law_great" (Bj 46))
  (w5:aM K "_law_cells" (Bj 47))
  (w6:aM K "_law_key" (Bj 45))
  (w7:aM K "_law_keys" (Bj 48))
  (w8:aM K "_law_shape" (Bj 51))
  (w9:aM K "_law_mixed" (Bj 50))
  (w10:aM K "_law_stamp" (Bj 49))
  (w11:aM K "_law_sorted_out" (Bj 53))
  (w12:aM K "_law_in_turn" (Bj 54))
  (w13:aM K "_law_has_room" (Bj 52))
  (w14:aM K "_law_least" (Bj 55))
  (w15:aM K "is_key_text" (Bj 13))
  (w16:aM K "is_key" (Bj 14))
  (w17:aM K "look_each_key" (Bj 18))
  (w18:aM K "look_unlike" (Bj 19))
  (w19:aM K "look_keys" (Bj 20))
  (w20:aM K "mixed" (Bj 17))
  (w21:aM K "bucket_of" (Bj 34))
  (w22:aM K "stamps_by_bucket" (Bj 36))
  (w23:aM K "room_by" (Bj 35))
  (w24:aM K "rooms_fit" (Bj 37))
  (w25:aM K "least_number" (Bj 38))
  (w26:aM K "numbers_by_bucket" (Bj 39))
  (w27:aM K "worth" (Bj 15))
  (w28:aM K "stamp" (Bj 16))
  (w29:dH K BZ "House.__init__" (Eh 22 0))
  (w30:bF K d7 "__init__" "Buckets.__init__" (Eh 40 0))
  (w31:bF K d7 "number_in" "Buckets.number_in" (Eh 40 3))
  (w32:bF K d7 "numbers" "Buckets.numbers" (Eh 40 1))
  (w33:bF K i6 "numbers" "Halved.numbers" (Eh 31 1))
  (w34:bF K d7 "bucket" "Buckets.bucket" (Eh 40 2))
  (w35:bF K d7 "number_of" "Buckets.number_of" (Eh 40 4))
  (w36:bF K d7 "room" "House.room" (Eh 22 2))
  (w37:bF K d7 "rooms" "House.rooms" (Eh 22 3))
  (w38:aM K "is_last" (Bj 25))
  (w39:aM K "left_size" (Bj 24))
  (w40:aM K "parts_within" (Bj 30))
  (w41:bF K i6 "number_of" "Halved.number_of" (Eh 31 2))
  (w42:bF K i6 "room" "House.room" (Eh 22 2))
  (w43:bF K i6 "rooms" "House.rooms" (Eh 22 3))
  (w44:aM K "_law_buckets" (Bj 56))
  (w45:aM K "_law_unlike" (Bj 57))
  (w46:aM K "_law_goes" (Bj 58))
  (w47:aM K "_law_fits" (Bj 59))
  (w48:aM K "_law_lacks" (Bj 61))
  (w49:aM K "_law_walked" (Bj 60))
  (w50:aM K "on_side" (Bj 26))
  (w51:aM K "salt_fits" (Bj 27))
  (w52:aM K "least_salt" (Bj 28))
  (w53:aM K "salts_for" (Bj 29))
  (w54:dH K BZ "House.__init__" (Eh 22 0))
  (w55:bF K i6 "__init__" "Halved.__init__" (Eh 31 0))
  (w56:aM K "_law_halves" (Bj 62))
  (a57:PySem.W.nsIn K mainGlobals "law" =some (some (.ref PH))) (l57:K.lookup PH=some ⟨ak8,ak7,.func (fnOf "law" "law" (iV jv) (Gk jv) (Cr jv) .none ak2 ak5 ak3 ak1 PX aj4),ak6⟩) (c57:codeIn K PX "law" =true) (k57:keepIn K (.ref PH)=true)
  (ak0:PySem.W.nsIn K mainGlobals "len" =some none)
  (ak4:PySem.W.nsIn K mainGlobals "max" =some none)
  (ai4:PySem.W.nsIn K mainGlobals "range" =some none)
  (aj6:PySem.W.nsIn K mainGlobals "min" =some none)
  (aj7:PySem.W.nsIn K mainGlobals "int" =some none)
  (ad8:PySem.W.nsIn K mainGlobals "isinstance" =some none)
  (af5:PySem.W.nsIn K mainGlobals "reversed" =some none)
  (aj5:PySem.W.nsIn K mainGlobals "set" =some none)
  (aj9:PySem.W.nsIn K mainGlobals "all" =some none)
  (aj3:PySem.W.nsIn K mainGlobals "bool" =some none)
  (aj8:PySem.W.nsIn K mainGlobals "str" =some none)
  (ae5:PySem.W.nsIn K mainGlobals "enumerate" =some none)
  (ai1:PySem.W.nsIn K mainGlobals "sorted" =some none)
  (aj2:PySem.W.nsIn K mainGlobals "list" =some none)
  (ag4:kitOne K (.type "NoneType") (.type "int")=some false)
  (ah6:kitOne K (.type "bool") (.type "int")=some true)
  (ag2:kitOne K (.type "int") (.type "int")=some true)
  (ag6:kitOne K (.type "str") (.type "int")=some false)
  (ah2:kitOne K (.type "list") (.type "int")=some false)
  (ah4:kitOne K (.type "tuple") (.type "int")=some false)
  (af8:kitOne K (.type "NoneType") (.type "bool")=some false)
  (ah3:kitOne K (.type "bool") (.type "bool")=some true)
  (af1:kitOne K (.type "int") (.type "bool")=some false)
  (af3:kitOne K (.type "str") (.type "bool")=some false)
  (af6:kitOne K (.type "list") (.type "bool")=some false)
  (af0:kitOne K (.type "tuple") (.type "bool")=some false)
  (ag0:kitOne K (.type "NoneType") (.type "str")=some false)
  (ai3:kitOne K (.type "bool") (.type "str")=some false)
  (ah1:kitOne K (.type "int") (.type "str")=some false)
  (af9:kitOne K (.type "str") (.type "str")=some true)
  (ag5:kitOne K (.type "list") (.type "str")=some false)
  (ag8:kitOne K (.type "tuple") (.type "str")=some false)
  (ad9:PySem.W.nsIn K mainGlobals "MOST_SIGNS" =some (some (.int 11 ad2)))
  (ai8:PySem.W.nsIn K mainGlobals "SIGNS" =some (some (.str "abcdefghijklmnopqrstuvwxyz0123456789-_ " ah9)))
  (ab2:PySem.W.nsIn K mainGlobals "GREATEST_NUMBER" =some (some (.int 999999999999999999 z6)))
  (ae3:PySem.W.nsIn K mainGlobals "MOST_KEYS" =some (some (.int 200 ad7)))
  (ai6:PySem.W.nsIn K mainGlobals "PRIME" =some (some (.int 2305843009213693951 ai2)))
  (ad1:PySem.W.nsIn K mainGlobals "BUCKET_SALT" =some (some (.int 0 ac8)))
  (NM:PySem.W.nsIn K mainGlobals "NoKey" =some (some (.ref r6)))
  (NN:PySem.W.nsIn K mainGlobals "Twice" =some (some (.ref p8)))
  (NO:PySem.W.nsIn K mainGlobals "NoFit" =some (some (.ref i8)))
  (Qe:PySem.W.nsIn K mainGlobals "NoKeys" =some (some (.ref n6)))
  (ae0:XB K r6 "NoKey.__init__" "at" xD)
  (y1:hG K r6)
  (ac7:exmOne K (.ref r6) (.ref i8)=some false)
  (ae7:XB K p8 "Twice.__init__" "at" xE)
  (y0:hG K p8)
  (ac5:exmOne K (.ref p8) (.ref i8)=some false)
  (ae4:XB K i8 "NoFit.__init__" "at" xF)
  (y4:hG K i8)
  (ac6:exmOne K (.ref i8) (.ref i8)=some true)
  (ag9:XB9 K n6)
  (aj1:hG K n6)
  (ac1:exmOne K (.ref n6) (.ref i8)=some false)
  (tA:PySem.W.nsIn K mainGlobals "numbers_by_bucket" =some (some (.ref fT)))
  (tL:K.lookup fT=some ⟨oT,zC,.func (fnOf "numbers_by_bucket" "numbers_by_bucket" BO BM yW .none zL BI zr BP (.ref cT) BJ),tV⟩)
  (tC:K.lookup cT=some ⟨zD,zB,.fields rV,sd⟩)
  (tE:rV[11]? =some (.ref pT))
  (PY:PySem.W.codeHdIn K cT pT=true):
  ∃B:FuncData,(∀(s:Shared) (v:Value),BindsTo s B ⟨[v],[]⟩ [("_law_script",v)])/\∀u:Heap,K.In u->u.Ns mainGlobals r->oq l.prog w K r u Oe 76 fa B ["_law_script"] (nA K):=by
 have ae6:=mg_of X G ah8;have ah0:=mg_of X G f9;have ae9:=mg_of X G d6;have d5:cD K Lc "how_many" :=(.one f9 j8 z9 (.one d6 g7 y7 .nil));have f6:cD K ["Buckets"] "many_buckets" :=(.one d6 g7 p4 .nil);have k4:cD K ["Buckets"] "by_bucket" :=(.one d6 g7 u6 .nil);have l4:cD K ["Halved"] "salts" :=(.one f9 j8 ac0 .nil);have y3:cD K ["Halved"] "leaf" :=(.one f9 j8 ac3 .nil);have ah7:=mg_of X G NM;have ah5:=mg_of X G NN;have o9:=mg_of X G NO;have ag3:=mg_of X G Qe;have Qg:NU K r "NoKeys" n6:=So Qe ag3 ag9;have v6:bG K i8 uO:=(.one NO ac6 (.one NM ac7 (.one Qe ac1 (.one NN ac5 .nil))));have BQ:cY K Ob "at" :=(.one NO ⟨y4.ga,y4.gt,y4.be,y4.hd,ae4.2.2.1⟩ (.one NM ⟨y1.ga,y1.gt,y1.be,y1.hd,ae0.2.2.1⟩ (.one NN ⟨y0.ga,y0.gt,y0.be,y0.hd,ae7.2.2.1⟩ .nil)));have e:=hfa.symm.trans (mg_of X G a57);cases e;have aF:=N1 X G ak0;have n8:=N1 X G ak4;have aL:=N1 X G ai4;have r9:=N1 X G aj6;have uM:=N1 X G aj7;have f7:=N1 X G ad8;have y9:=N1 X G af5;have uL:=N1 X G aj5;have PZ:=N1 X G aj9;have Qa:=N1 X G aj3;have BR:=N1 X G aj8;have l7:=N1 X G ae5;have l9:=N1 X G ai1;have k9:=N1 X G aj2;have BV:gW K "int" :=⟨ag4,ah6,ag2,ag6,ah2,ah4⟩;have Qd:gW K "bool" :=⟨af8,ah3,af1,af3,af6,af0⟩;have BS:gW K "str" :=⟨ag0,ai3,ah1,af9,ag5,ag8⟩;have p7:=mg_of X G ad9;have CA:=mg_of X G ai8;have k8:=mg_of X G ab2;have v7:=mg_of X G ae3;have BU:=mg_of X G ai6;have o6:=mg_of X G ad1;have bo:=DX tA tL tC tE;obtain⟨f29,a29,⟨d29,F29⟩⟩:=w29;obtain⟨f54,a54,⟨d54,F54⟩⟩:=w54;have F57:=vA (st:=jv) l57 c57 k57;refine⟨fnOf "law" "law" (iV jv) (Gk jv) (Cr jv) .none ak2 ak5 ak3 ak1 PX aj4,λs v=> .of_eq rfl,λu _ _=> ?_⟩
 let oV:=iA l.prog w K r u true
 let sF:=bE l.prog w K r u true
 let lMk:=oj l.prog w K r u true
 let ON:=XC l.prog w K r u
 let lT:=λt:Program->World->Frag->(AB)->Heap->Prop=>t l.prog w K r u
 have BW:ON "NoKey" "at" r6:=vf NM ah7 ae0 λF y z=>⟨aar F y z,Fg F⟩;have Qc:ON "Twice" "at" p8:=vf NN ah5 ae7 λF y z=>⟨aat F y z,Fg F⟩;have BY:ON "NoFit" "at" i8:=vf NO o9 ae4 λF y z=>⟨aav F y z,Fg F⟩;have i7:lT Jg:=Dc X G w1 λF=>⟨YI aF F,Fg F⟩;have j3:lT Jf:=Dc X G w2 λF=>⟨YH F,Fg F⟩;have q8:lT JY:=Dc X G w3 λF=>⟨Zv j3 i7 F,Fg F⟩;have u9:lT KC:=Dc X G w4 λF=>⟨R' j3 F,kb F⟩;have t9:lT KA:=Dc X G w5 λF=>⟨L' aF j3 i7 q8 u9 n8 aL r9 F,kK F⟩;have y2:lT Je:=Dc X G w6 λF=>⟨YG aL uM F,kb F⟩;have z8:lT JX:=Dc X G w7 λF=>⟨Zu i7 t9 y2 F,kK F⟩;have u7:lT Kz:=Dc X G w8 λF=>⟨K' n8 F,Fg F⟩;have aK:lT xt:=Dc X G w9 λF=>⟨D' F,kK F⟩;have j9:lT Ky:=Dc X G w10 λF=>⟨B' uM f7 BV F,kb F⟩;have l0:lT Mn:=Dc X G w11 λF=>⟨aaU aL aK j9 F,Fg F⟩;have o8:lT LJ:=Dc X G w12 λF=>⟨aaI aF n8 aL y9 F,kb F⟩;have g9:lT LU:=Dc X G w13 λF=>⟨aaO aF aK uL F,qh F⟩;have u0:lT Kx:=Dc X G w14 λF=>⟨x' aL g9 F,qh F⟩;have n9:lT LI:=Dc X G w15 λF=>⟨aaH aF PZ p7 CA F,kb F⟩;have v5:lT HV:=Dc X G w16 λF=>⟨Xm uM f7 BV n9 Qa BR Qd BS k8 F,kb F⟩;have d9:lT Mh:=Dc X G w17 λF=>⟨aaR v5 l7 BW F,kb F⟩;have o5:lT LH:=Dc X G w18 λF=>⟨aaG l7 Qc F,kb F⟩;have l6:lT Kw:=Dc X G w19 λF=>⟨l' aF d9 o5 Qg v7 F,kb F⟩;have j6:lT FF:=Dc X G w20 λF=>⟨Vy BU F,kK F⟩;have l8:lT Kv:=Dc X G w21 λF=>⟨ZZ j6 o6 F,Fg F⟩;have j7:lT y_8:=Dc X G w22 λF=>⟨aba l8 F,Fg F⟩;have l3:lT Jd:=Dc X G w23 λF=>⟨YF j6 F,kK F⟩;have x0:lT Ku:=Dc X G w24 λF=>⟨ZY l3 F,qh F⟩;have n5:lT LS:=Dc X G w25 λF=>⟨aaN aL x0 F,qh F⟩;have j4:lT w_3:=Uq X G w26 bo λF hc=>⟨abe aF l3 j7 n5 l9 BY bo PY F hc,kK F⟩;have Qb:lT FD:=Dc X G w27 λF=>⟨Vx CA F,kb F⟩;have k6:lT FC:=Dc X G w28 λF=>⟨Vw f7 BR BS v5 BW Qb F,kb F⟩;have f8:om l.prog w K r u true "House" "Buckets" 1 1 yO:=⟨BZ,d7,_,_,_,d6,ae6,a29,y_9 d5 F29 d6,(Fg F29)⟩;have y8:lMk "Buckets" 6 3 sk:=DD d6 ae9 af4 af2 w30 λF=>⟨aaZ l6 j4 k6 f8 f6 k4 F d6,qh F⟩;have x8:oV 1 1 "number_in" "Buckets" pq:=Hk d6 g7 w31 λF=>⟨abd k4 F,Fg F⟩;have d8:sF 1 1 "number_in" [("Buckets",pq)]:=(oU x8 sA);have z7:oV 2 0 "numbers" "Buckets" uJ:=Hk d6 g7 w32 λF=>⟨aaX aL f6 d8 F,kb F⟩;have aa9:oV 1 0 "numbers" "Halved" uG:=Hk f9 j8 w33 λF=>⟨aaT l4 k9 F,kb F⟩;have aa0:oV 4 1 "bucket" "Buckets" qd:=Hk d6 g7 w34 λF=>⟨aaS l8 k6 f6 F,Fg F⟩;have k7:sF 4 1 "bucket" [("Buckets",qd)]:=(oU aa0 sA);have t7:oV 5 1 "number_of" "Buckets" sU:=Hk d6 g7 w35 λF=>⟨abc l3 d5 k6 d8 k7 F,Fg F⟩;have i9:sF 5 1 "number_of" [("Buckets",sU)]:=(oU t7 sA);have ab9:oV 6 1 "room" "Buckets" sR:=Hk d6 g7 w36 λF=>⟨aaM r9 d5 i9 F,Fg F⟩;have m6:sF 6 1 "room" [("Buckets",sR)]:=(oU ab9 sA);have ab6:oV 7 1 "rooms" "Buckets" uF:=Hk d6 g7 w37 λF=>⟨aaQ d9 m6 F,Fg F⟩;have aQ:lT wI:=Dc X G w38 λF=>⟨YE n8 F,Fg F⟩;have aO:lT xr:=Dc X G w39 λF=>⟨ZX F,kb F⟩;have m9:lT LR:=by obtain⟨f,a,B,F⟩:=w40;exact lA F (mg_of X G a) (Fg F) (Mg F (mg_of X G a) (Fg F) (aQ:=aQ) (aO:=aO) 70)
 have y6:oV 72 1 "number_of" "Halved" uB:=Hk f9 j8 w41 λF=>⟨aaY j6 d5 k6 l4 aQ aO m9 y3 F,Fg F⟩;have j5:sF 72 1 "number_of" [("Halved",uB)]:=(oU y6 sA);have ac9:oV 73 1 "room" "Halved" sI:=Hk f9 j8 w42 λF=>⟨aaF r9 d5 j5 F,Fg F⟩;have m8:sF 73 1 "room" [("Halved",sI)]:=(oU ac9 sA);have ab8:oV 74 1 "rooms" "Halved" uC:=Hk f9 j8 w43 λF=>⟨aaL d9 m8 F,Fg F⟩;have d0:sF 2 0 "numbers" NX:=(oU z7 (oU aa9 sA));have d4:sF 74 1 "rooms" NW:=(oU ab6 (oU ab8 sA));have o7:lT LG:=Dc X G w44 λF=>⟨aaE aF aL aK g9 l9 k9 l0 o8 u0 y8 d0 d4 o9 v6 BQ F,kK F⟩;have p9:lT Lp:=Dc X G w45 λF=>⟨aaq aF aK uL F,Fg F⟩;have aS:lT xh:=Dc X G w46 λF=>⟨Zt aK F,Fg F⟩;have aV:lT xg:=Dc X G w47 λF=>⟨Zs aF p9 aS F,kK F⟩;have x9:lT Kt:=Dc X G w48 λF=>⟨ZW aF aS aV F,qh F⟩;have q9:lT Ln:=by obtain⟨f,a,B,F⟩:=w49;exact lA F (mg_of X G a) (qh F) (LD F (mg_of X G a) (qh F) (aF:=aF) (aL:=aL) (aK:=aK) (aS:=aS) (aV:=aV) 70)
 have m7:lT Jc:=Dc X G w50 λF=>⟨YD j6 F,kK F⟩;have t8:lT Ks:=Dc X G w51 λF=>⟨ZV aF uL j6 aQ aO m7 F,kK F⟩;have p6:lT Lm:=Dc X G w52 λF=>⟨aap aL t8 F,kK F⟩;have v9:lT Kr:=Dc X G w53 λF=>⟨ZU aF BY aQ m7 p6 F,kK F⟩;have g8:om l.prog w K r u true "House" "Halved" 1 1 yN:=⟨BZ,i6,_,_,_,f9,ae6,a54,abh d5 F54 f9,(Fg F54)⟩;have Qf:lMk "Halved" 6 3 rY:=DD f9 ah0 ag1 ag7 w55 λF=>⟨aaW l6 k6 l4 y3 v9 g8 F f9,qh F⟩;have p5:lT Lg:=Dc X G w56 λF=>⟨aao aF n8 aL r9 j9 l9 k9 d0 d4 o9 v6 BQ x9 q9 Qf F,kK F⟩;exact SH (Se (P:=l.prog) (w:=w) (u:=u) aF i7 r9 z8 u7 o7 p5 F57) Vz
end My


open PySem PySem.W PyProof.Rows
set_option maxRecDepth 100000 in
set_option maxHeartbeats 0 in
theorem PySem.Challenge.cw_lodge_k83_whole_least_numbers_holds : PySem.Challenge.rw_lodge_k83_whole_least_numbers.Holds := by
 w_on; o_law; k_head; (case hw => w_witness2)
 k_fill
 refine L3.ef_7 (l := PySem.Challenge.rw_lodge_k83_whole_least_numbers) (x := "_law_script") (k := 76) rfl rfl ⟨rfl, by decide, by decide⟩ (λw h Y => PySem.W.km_in_of Y) ?T ?F
 case T =>
  intro w h Y
  have KX := PySem.W.km_in_of Y
  refine' L3.Wh KX ?t1 ?t2 ?t3 ?t4 ?t5 ?t6 (PySem.W.km_tabs_of Y _ ?t7)
  (case t1 | t2 | t3 => k_is)
  (case t4 => rfl)
  (case t5 | t6 => rfl')
  (case t7 => simp)
 case F =>
  intro w mg fa h KX G AJ
  refine' My.Sd KX G AJ ?c1 ?c2 ?c3 ?c4 ?c5 ?c6 ?c7 ?c8 ?c9 ?c10 ?c11 ?c12 ?c13 ?c14 ?c15 ?c16 ?c17 ?c18 ?c19 ?c20 ?c21 ?c22 ?c23 ?c24 ?c25 ?c26 ?c27 ?c28 ?c29 ?c30 ?c31 ?c32 ?c33 ?c34 ?c35 ?c36 ?c37 ?c38 ?c39 ?c40 ?c41 ?c42 ?c43 ?c44 ?c45 ?c46 ?c47 ?c48 ?c49 ?c50 ?c51 ?c52 ?c53 ?c54 ?c55 ?c56 ?c57 ?c58 ?c59 ?c60 ?c61 ?c62 ?c63 ?c64 ?c65 ?c66 ?c67 ?c68 ?c69 ?c70 ?c71 ?c72 ?c73 ?c74 ?c75 ?c76 ?c77 ?c78 ?c79 ?c80 ?c81 ?c82 ?c83 ?c84 ?c85 ?c86 ?c87 ?c88 ?c89 ?c90 ?c91 ?c92 ?c93 ?c94 ?c95 ?c96 ?c97 ?c98 ?c99 ?c100 ?c101 ?c102 ?c103 ?c104 ?c105 ?c106 ?c107 ?c108 ?c109 ?c110 ?c111 ?c112 ?c113 ?c114 ?c115 ?c116 ?c117 ?c118 ?c119 ?c120 ?c121 ?c122 ?c123 ?c124 ?c125 ?c126 ?c127 ?c128 ?c129 ?c130 ?c131 ?c132 ?c133 ?c134
  (case c1|c2|c4|c5|c9|c11|c12|c72|c73|c74|c75|c76|c77|c78|c79|c80|c81|c82|c83|c84|c85|c86|c87|c88|c89|c108|c109|c110|c111|c112|c113|c114|c115|c116|c117|c130|c131|c132=>k_is)
  (case c3|c10=>(refine' L2.iN.mk ?z0 ?z1 ?z2 ?z3;(case z0=>k_is);(case z1=>k_is);(case z2=>k_is);(case z3=>k_is)))
  (case c6|c7|c8|c13|c14|c15=>(refine' L3.aZ.mk ?z0;(case z0=>k_is)))
  (case c16|c17|c18|c19|c20|c21|c22|c23|c24|c25|c26|c27|c28|c29|c30|c31|c32|c33|c34|c35|c36|c37|c38|c39|c40|c41|c42|c43|c53|c54|c55|c59|c60|c61|c62|c63|c64|c65|c66|c67|c68|c71=>(refine' L3.aM.mk ?a ?l ?c ?k;(case a=>k_is);(case l=>k_is);(case c=>k_is);(case k=>k_is)))
  (case c44|c69=>(refine' L3.dH.mk ?s ?r ?a ?l ?c ?k;(case s=>k_is);(case r=>k_is);(case a=>k_is);(case l=>k_is);(case c=>k_is);(case k=>k_is)))
  (case c45|c46|c47|c48|c49|c50|c51|c52|c56|c57|c58|c70=>(refine' L3.bF.mk ?a ?l ?c ?k ?i;(case a=>k_is);(case l=>k_is);(case c=>k_is);(case k=>k_is);(case i=>k_is)))
  (case c90|c91|c92|c93|c94|c95|c96|c97|c98|c99|c100|c101|c102|c103|c104|c105|c106|c107=>kit_is)
  (case c118|c121|c124=>(refine' L3.XB.mk ?z0 ?z1 ?z2 ?z3 ?z4 ?z5 ?z6 ?z7 ?z8 ?z9 ?z10 ?z11 ?z12 ?z13 ?z14;(case z0=>k_is);(case z1=>k_is);(case z2=>k_is);(case z3=>rfl);(case z4=>rfl);(case z5=>k_is);(case z6=>k_is);(case z7=>rfl);(case z8=>rfl);(case z9=>k_is);(case z10=>k_is);(case z11=>k_is);(case z12=>k_is);(case z13=>k_is);(case z14=>k_is)))
  (case c119|c122|c125|c128=>(refine' L3.hG.mk ?z0 ?z1 ?z2 ?z3 ?z4 ?z5 ?z6 ?z7;(case z0=>k_is);(case z1=>k_is);(case z2=>k_is);(case z3=>k_is);(case z4=>k_is);(case z5=>k_is);(case z6=>k_is);(case z7=>k_is)))
  (case c120|c123|c126|c129=>kts_exm)
  (case c127=>(refine' L3.XB0 ?z0 ?z1 ?z2 ?z3 ?z4 ?z5 ?z6 ?z7 ?z8;(case z0=>k_is);(case z1=>k_is);(case z2=>rfl);(case z3=>rfl);(case z4=>k_is);(case z5=>k_is);(case z6=>rfl);(case z7=>rfl);(case z8=>k_is)))
  (case c133=>rfl)
  (case c134=>rfl')

end
