import PyProof.Rows.All
import Wide.All
import OpenK.AllK
import Wide.FinOn
import Lean
import PyProof.EqAt
import PyProof.EqKinds
import PyProof.TupleCall
import PySem.Challenge.RW_lodge_k84_whole_made_again
set_option Elab.async false
set_option linter.all false
set_option maxRecDepth 100000
set_option genSizeOf false
set_option compiler.extract_closed false
namespace PySem.W.Fast
def tw10042989652009554267:=0
def tw10216138025524622342:=0
def tw10284442334767690519:=0
def tw10423226481734168411:=0
def tw10807506966567283377:=0
def tw10857125229135695370:=0
def tw10896452248521345120:=0
def tw11041145322141374052:=0
def tw11068266248080636024:=0
def tw11279840577061689922:=0
def tw11293798517647202748:=0
def tw1153441370697497333:=0
def tw1168839350574434106:=0
def tw11823854708656044715:=0
def tw11970476633718753427:=0
def tw12091704384592295987:=0
def tw12130426542137347252:=0
def tw12338614594889494530:=0
def tw12342249637702798316:=0
def tw12364590666151918676:=0
def tw12373811835388326370:=0
def tw1247760048932867932:=0
def tw12511603726295699060:=0
def tw12527839809717907383:=0
def tw1269566425073820302:=0
def tw12802686103962841729:=0
def tw12803999877620009808:=0
def tw12823304050638545400:=0
def tw12827047008690774250:=0
def tw12893196246906118012:=0
def tw13109543772886817544:=0
def tw13159341875777806579:=0
def tw13183955778729838179:=0
def tw13291919566992937194:=0
def tw13326907524103768463:=0
def tw13444954610308913874:=0
def tw13521392811414389397:=0
def tw13730561294073152015:=0
def tw13738474197118947939:=0
def tw1378332020075398388:=0
def tw13828439763432072095:=0
def tw13843156868510858297:=0
def tw13855172219353214837:=0
def tw14053702286004346673:=0
def tw14070080439394225836:=0
def tw14185587558492516961:=0
def tw1421430215259545388:=0
def tw14306340494501935180:=0
def tw14407552593654022606:=0
def tw14463746753672730398:=0
def tw14565665775687960883:=0
def tw14595673221856022540:=0
def tw14644105662118649011:=0
def tw14648957526788907581:=0
def tw14655618452945723598:=0
def tw14675863131407691906:=0
def tw14741519460048624165:=0
def tw14986044428699754585:=0
def tw15216568385979740647:=0
def tw1524588461448850356:=0
def tw15320884324315032682:=0
def tw15363002841618566263:=0
def tw15513091810121512728:=0
def tw15699391621018109121:=0
def tw15706198182797707977:=0
def tw15728097728502796714:=0
def tw15739542457649882868:=0
def tw15751674284423757042:=0
def tw1575843598011218061:=0
def tw15759283623484586968:=0
def tw15985939552334006745:=0
def tw16202189789509482336:=0
def tw16277488590836679437:=0
def tw16327850308361407501:=0
def tw16442325152115327254:=0
def tw16818459327938919846:=0
def tw16894810012425831539:=0
def tw17067926489689457576:=0
def tw17324741553209624281:=0
def tw17348786370952943800:=0
def tw1754229379704316702:=0
def tw17567692997818461862:=0
def tw17770914575928667104:=0
def tw17801949868306651338:=0
def tw17833685273697222128:=0
def tw1792057568434713948:=0
def tw18045152957267387445:=0
def tw181972093443644811:=0
def tw18259877531695614437:=0
def tw183039034157511509:=0
def tw18309752420625521076:=0
def tw1837217817092915430:=0
def tw18420109872671893354:=0
def tw2038293242271534533:=0
def tw2250542218693591569:=0
def tw2282715299667764377:=0
def tw2316859252037954825:=0
def tw234961613825148050:=0
def tw240050590590649904:=0
def tw2610624287256296483:=0
def tw2634021888972179767:=0
def tw2713115050423447128:=0
def tw2758485071695000404:=0
def tw2818505375937632824:=0
def tw2998325618528160426:=0
def tw3082453347875322412:=0
def tw3233789161195137562:=0
def tw3332744534718528576:=0
def tw3438226652528442266:=0
def tw3440650158667276665:=0
def tw3619325958503104158:=0
def tw3621029144294498158:=0
def tw3995669302734103077:=0
def tw4111807314389769915:=0
def tw4417962114764133551:=0
def tw4451182718270882881:=0
def tw4499518065965916321:=0
def tw4571583193012973958:=0
def tw4614388709787465191:=0
def tw4620989557476801058:=0
def tw4908897881526906500:=0
def tw4945614546722220985:=0
def tw5060932184389448465:=0
def tw5459142294367297501:=0
def tw5657915137663665367:=0
def tw5673404150978305665:=0
def tw5676342374845514695:=0
def tw5698677967075485888:=0
def tw572948351997565397:=0
def tw5752746504588294724:=0
def tw5832741815632446812:=0
def tw5900406984829755961:=0
def tw5945771974381449125:=0
def tw5978474386885502010:=0
def tw6145536088061962939:=0
def tw6145890951845402707:=0
def tw6274421627143961687:=0
def tw6279798446405490107:=0
def tw6300384840176916153:=0
def tw6302232643506234928:=0
def tw6347106456363045473:=0
def tw6364946172261177829:=0
def tw6533098419746026341:=0
def tw6803108104666201609:=0
def tw6924990474587608118:=0
def tw7243177689880850751:=0
def tw7272370680015493624:=0
def tw7277721703938355906:=0
def tw7368509421389124115:=0
def tw7390878223572407997:=0
def tw7422461200669124784:=0
def tw7612784749110962212:=0
def tw7760477419131085945:=0
def tw7773293109169354968:=0
def tw7927249017878960126:=0
def tw8021844432988143211:=0
def tw8220720492911893571:=0
def tw8221470121443937391:=0
def tw8359896752803014529:=0
def tw859330155660162539:=0
def tw9023675501791125131:=0
def tw9080655893572520495:=0
def tw9091429195727704245:=0
def tw9343810349315370073:=0
def tw9445306121529281749:=0
def tw9473600908560353570:=0
def tw9479697713979777205:=0
def tw9684711956972010255:=0
def tw9737126515982936298:=0
def tw9846149218136974667:=0
def tw9908712236714255222:=0
def tw11763691835830499649:=0
def tw10101072377755505802:=0
def tw1727602350775584815:=0
def tw9445769551547337689:=0
def tw145230147671297580:=0
def tw5167425702541250565:=0
def tw108841206205033154:=0
def tw15977515467143819953:=0
def tw8925091929962180919:=0
def tw8292314048825572685:=0
def tw6873175890348518500:=0
def tw12106017740410746611:=0
def tw16329143233065729049:=0
def tw12514950548797650157:=0
def tw642421014311821191:=0
def tw14013545924127779980:=0
def tw3114046663991582187:=0
def tw746282311563349510:=0
def tw7539731808061676796:=0
def tw2531841987056778816:=0
def tw18184395089505124813:=0
def tw6546637646862278062:=0
def tw16629376768914029760:=0
def tw15294308708654830939:=0
def tw5409544417020028037:=0
def tw3581587013451082138:=0
def tw15971251175120825471:=0
def tw1368288925194420218:=0
def tw8197631864693037170:=0
def tw6253106135407697548:=0
def tw4790130961842612521:=0
def tw6522885842880042117:=0
def tw18163844423691955359:=0
def tw13221027991176146466:=0
def tw6975569400348813258:=0
def tw16340922722785029386:=0
def tw10832317350598443703:=0
def tw2972124052902371335:=0
def tw3783067053359620819:=0
def tw441149605259497606:=0
def tw7346223812988604164:=0
def tw6834761463847587499:=0
def tw18276639028943329354:=0
def tw17378635840272819419:=0
def tw17375411353287891638:=0
def tw10482712016389517814:=0
def tw11526204972523451677:=0
def tw14324676375039429891:=0
def tw3661379047248199622:=0
def tw18167812334806896659:=0
def tw6747938863012108292:=0
def tw145443192908902122:=0
def tw15880966455154205100:=0
def tw3327474058865704177:=0
def tw18254937158102790100:=0
def tw13537197880485399816:=0
def tw1664168171573158844:=0
def tw10509394086165144088:=0
def tw11676843862079538369:=0
def tw4967299923982052672:=0
def tw17023925170880820579:=0
def tw16636121546749027911:=0
def tw14564140971161269448:=0
def tw14011394820276897878:=0
def tw11081289734722704699:=0
def tw2983381431517170475:=0
def tw7076121581382250770:=0
def tw9555991871772865396:=0
def tw5356550745451879838:=0
def tw16834664645191182107:=0
def tw14834129784700226328:=0
def tw12720857941456540809:=0
def tw12612213720538071027:=0
def tw4896072602779503906:=0
def tw15089432367196996762:=0
def tw4676775009986492000:=0
def tw15924648863287812970:=0
def tw6715100408942516093:=0
def tw18409814391505694389:=0
def tw15208530028633786975:=0
def tw9635309670141026986:=0
def tw5345424197953776518:=0
def tw9513458969855359780:=0
def tw13644272625640264390:=0
def tw1638480928529247395:=0
def tw1032066081034108317:=0
def tw13735743502641052474:=0
def tw5311126548574954343:=0
def tw4257948319733454340:=0
def tw3183050796288775285:=0
def tw3073264935185952031:=0
def tw1733025123437910327:=0
def tw13072665090480593595:=0
def tw11397617455760349100:=0
def tw8754549442879739230:=0
end PySem.W.Fast
noncomputable section
open PySem.W (Frag InitBack InstAt Looks any_some bind_fn callWith_K callWith_K0 cellsFrom_some check_slot clsIn cls_value codeIn codeRec_of emptyDict eq_bytes exmOne exm_one findCls findIn findObj_own fnOf get_value handedIn hasDictIn hideAll hideAll_get hideAll_none hideAll_size instObj isFn kdl_call kdl_dict keepIn ki_setAt ki_setBack kia_one kitOne kitx_bool kitx_int kitx_list kitx_none kitx_own kitx_str kitx_tuple lookIn looks_clsIn looks_findIn looks_mroIn make_core makesIn makes_of methodCall_KW methodObj method_cls method_fn mg_none_of mg_of mroIn ne_bytes nsIn of_hideAll osa_eq osa_open plainGet plainGet_of plainOver readsIn set_plain specialIn takerIn takesIn truthy_bytes typeIn)
local macro_rules
 | `(tactic| rfl') => `(tactic| kernel_rfl)
local macro_rules
 | `(tactic| simp_arith [$xs,*] $[$l:location]?) => `(tactic| simp only [Nat.reduceAdd, Nat.reduceSub, Nat.reduceLeDiff, ↓reduceIte, reduceCtorEq, $xs,*] $[$l:location]?)
namespace L2
open PySem PySem.Spec PyProof.Rows
abbrev Au:=Sum Int Str
def bn_0:Au->Value->Bool
 | .inl k,v=>Value.isInt k v
 | .inr x,v=>Value.isStrOf x v
def keyH(w:World):Au->Int
 | .inl k=>hashInt k
 | .inr x=>hashStr w x
def j_5:∀{k:Au} {v:Value},bn_0 k v=true->(∃i t,k=Sum.inl i/\v=Value.int i t)\/(∃x t,k=Sum.inr x/\v=Value.str x t)
 | .inl i,v,h=>by
  obtain⟨t,e⟩:=Value.isInt_shape (k:=i) (v:=v) h;exact .inl ⟨i,t,rfl,e⟩
 | .inr x,v,h=>by
  obtain⟨t,e⟩:=Value.isStrOf_shape (x:=x) (v:=v) h;exact .inr ⟨x,t,rfl,e⟩
def cv_3(i:Int)(t:Tok):bn_0 (.inl i) (.int i t)=true:=by simp [bn_0,Value.isInt]
def cv_4(x:Str)(t:Tok):bn_0 (.inr x) (.str x t)=true:=by simp [bn_0,Value.isStrOf]
def dz_8(a b:Int):decide ((Sum.inl a:Au)=Sum.inl b)=(a ==b):=by
 by_cases e:a=b
 ·subst e;simp
 ·have h:¬(Sum.inl a:Au)=Sum.inl b:=λq=>e (Sum.inl.inj q);rw [decide_eq_false h];exact(beq_eq_false_iff_ne.mpr e).symm
def dz_9(a b:Str):decide ((Sum.inr a:Au)=Sum.inr b)=decide (a=b):=by
 by_cases e:a=b
 ·subst e;simp
 ·have h:¬(Sum.inr a:Au)=Sum.inr b:=λq=>e (Sum.inr.inj q);rw [decide_eq_false h,decide_eq_false e]
def ea_0(a:Int)(b:Str):decide ((Sum.inl a:Au)=Sum.inr b)=false:=decide_eq_false (λq=>nomatch q)
def ea_1(a:Str)(b:Int):decide ((Sum.inr a:Au)=Sum.inl b)=false:=decide_eq_false (λq=>nomatch q)
def j_0(prog:Program)(w:World):PySem.KeyKind prog w Au where
 is:=bn_0
 hash:=keyH w
 inj:=λv a b ha hb=>by
  rcases j_5 ha with⟨i,t,rfl,rfl⟩|⟨x,t,rfl,rfl⟩
  ·rcases j_5 hb with⟨j,u,rfl,e⟩|⟨y,u,rfl,e⟩
   ·injection e with e1 _;rw [e1]
   ·exact nomatch e
  ·rcases j_5 hb with⟨j,u,rfl,e⟩|⟨y,u,rfl,e⟩
   ·exact nomatch e
   ·injection e with e1 _;rw [e1]
 byValue:=λk v h=>by
  rcases j_5 h with⟨i,t,rfl,rfl⟩|⟨x,t,rfl,rfl⟩ <;> rfl
 pyHash:=λhv h=>by
  rcases j_5 hv with⟨i,t,rfl,rfl⟩|⟨x,t,rfl,rfl⟩
  ·exact wpAny_pyHash_int h
  ·exact wpAny_pyHash_str h
 eqBool:=λhu hv h=>by
  rcases j_5 hu with⟨i,t,rfl,rfl⟩|⟨x,t,rfl,rfl⟩
  ·rcases j_5 hv with⟨j,u,rfl,rfl⟩|⟨y,u,rfl,rfl⟩
   ·rw [dz_8] at h;exact wpAny_eqBool_int h
   ·rw [ea_0] at h;exact SeqAt.EqAt.int_str i t y u _ _ _ _ h
  ·rcases j_5 hv with⟨j,u,rfl,rfl⟩|⟨y,u,rfl,rfl⟩
   ·rw [ea_1] at h;exact SeqAt.EqAt.str_int x t j u _ _ _ _ h
   ·rw [dz_9] at h;exact wpAny_eqBool_str h
 «strs»:=λk x t v h=>by
  rcases j_5 h with⟨i,u,rfl,e⟩|⟨y,u,rfl,e⟩
  ·exact nomatch e
  ·injection e with e1 _
   subst e1;cases v <;> rfl
def bz_8(prog:Program)(w:World)(i:Int)(t:Tok):(j_0 prog w).is (.inl i) (.int i t)=true:=cv_3 i t
def bz_9(prog:Program)(w:World)(x:Str)(t:Tok):(j_0 prog w).is (.inr x) (.str x t)=true:=cv_4 x t
inductive V where
 |non|bl (b:Bool)|int (i:Int)|str (x:Str)|byt (b:Array UInt8)|flt (b:UInt64)|ref (a:Addr)|ty (n:String)
 deriving DecidableEq
def RelV:V->Value->Prop
 | .non,u=>u=Value.none
 | .bl b,u=>u=Value.bool b
 | .int i,u=>∃t,u=Value.int i t
 | .str x,u=>∃t,u=Value.str x t
 | .byt b,u=>∃t,u=Value.bytes b t
 | .flt b,u=>∃t,u=Value.float b t
 | .ref a,u=>u=Value.ref a
 | .ty n,u=>u=Value.type n
abbrev Vals:List V->List Value->Prop:=Paired RelV
theorem Vals.length{xs:List V}{us:List Value}(r:Vals xs us):xs.length=us.length:=Paired.length r
theorem Vals.get:∀{xs:List V} {us:List Value} {i:Nat} {x:V},Vals xs us->xs[i]? =some x->∃u,us[i]? =some u/\RelV x u
 |_,_,_,_,.nil,e=>by simp at e
 |_,_,0,_,.cons r _,e=>by simp at e;subst e;exact⟨_,rfl,r⟩
 |_,_,i + 1,x,.cons _ t,e=>by
  obtain⟨u,h1,h2⟩:=Vals.get (i:=i) (x:=x) t (by simpa using e);exact⟨u,by simpa using h1,h2⟩
theorem Vals.set{x:V}{u:Value}(r:RelV x u):∀{xs:List V} {us:List Value} (i:Nat),Vals xs us->Vals (xs.set i x) (us.set i u)
 |_,_,_,.nil=> .nil
 |_,_,0,.cons _ t=> .cons r t
 |_,_,i + 1,.cons q t=> .cons q (Vals.set r i t)
theorem Vals.append:∀{xs ys:List V} {us ws:List Value},Vals xs us->Vals ys ws->Vals (xs ++ ys) (us ++ ws)
 |_,_,_,_,.nil,s=>s
 |_,_,_,_,.cons r t,s=> .cons r (Vals.append t s)
theorem Vals.take:∀{xs:List V} {us:List Value} (n:Nat),Vals xs us->Vals (xs.take n) (us.take n)
 |_,_,0,_=> .nil
 |_,_,_ + 1,.nil=> .nil
 |_,_,n + 1,.cons r t=> .cons r (Vals.take n t)
theorem Vals.drop:∀{xs:List V} {us:List Value} (n:Nat),Vals xs us->Vals (xs.drop n) (us.drop n)
 |_,_,0,r=>r
 |_,_,_ + 1,.nil=> .nil
 |_,_,n + 1,.cons _ t=>Vals.drop n t
def RelO:Option V->Option Value->Prop
 |some v,some u=>RelV v u
 |none,none=>True
 |_,_=>False
def KV{κ:Type}:List (κ×V)->List (κ×Value)->Prop:=Paired λ(p:κ×V) (q:κ×Value)=>p.1=q.1/\RelV p.2 q.2
def kV:Au->V
 | .inl i=> .int i
 | .inr x=> .str x
inductive HO where
  |lst (xs:List V)
  |tup (xs:List V)
  |dK (kvs:List (Au×V))|dT (kvs:List (List Au×V))
  |set (S:Int->Bool) (n:Nat)
  |ins (C dx:Addr) (fs:List (Str×V))
  |own (x:Addr)
  |xd (fs:List (Str×V))
  |met (f x:Addr)
  |rng (lo hi:Int)
  |frz (o:Obj) (u:HO)
  |tbl (ps:Array Value)
  |ext (φ:Heap->Prop)
abbrev Hp:=Addr->Option HO
def upd(H:Hp)(a:Addr)(o:HO):Hp:=λb=>if b=a then some o else H b
def Cw{H:Hp}{a:Addr}{o:HO}:upd H a o a=some o:=by unfold upd;rw [if_pos rfl]
def Bm{H:Hp}{a b:Addr}{o:HO}(h:b≠a):upd H a o b=H b:=by unfold upd;rw [if_neg h]
def ei_7{H:Hp}{a b:Addr}{o u:HO}(h:H a=some o)(h':H b=some u)(d:o≠u):a≠b:=by
 intro e;subst e;rw [h] at h';exact d (Option.some.inj h')
def Hg{H:Hp}{a b:Addr}{o:HO}(h:H a=some o)(h':H b=none):a≠b:=by
 intro e;subst e;rw [h] at h';cases h'
section
variable(P:Program)(w:World)
def ObjOk(H:Hp)(h:Heap)(a:Addr):HO->Prop
 | .lst xs=>xs.length<=sizeLine/\∃(its:List Value) (n:Nat),Vals xs its/\h.get? a=some {cls:=.type "list",data:=.seq its.toArray n}
 | .tup xs=>xs.length<=sizeLine/\∃its:List Value,Vals xs its/\IsTup h a its.toArray
 | .dK kvs=>kvs.length<=sizeLine/\(a ==sysModules)=false/\∃vs,KV kvs vs/\h.DictOf (j_0 P w) a vs
 | .dT kvs=>kvs.length<=sizeLine/\(a ==sysModules)=false/\∃xs:List (List Au×Addr×Value),
   Paired (λ(p:List Au×V) (q:List Au×Addr×Value)=>p.1=q.1/\H q.2.1=some (.tup (p.1.map kV))/\RelV p.2 q.2.2) kvs xs/\
   ∃o es ep,h.get? a=some o/\o.ExactDict/\o.data=.dict es ep/\es.toList=xs.map (entryOfKey (tupleKind (j_0 P w)))/\(xs.map (·.1)).Nodup
 | .set S n=>h.SetOf (intKind P w) a S n
 | .ins C dx fs=>H dx=some (.own a)/\fs.length<=1000/\dx≠a/\h.get? a=some (instObj C dx)/\
   ∃mA,h.Ns1 dx mA/\(∀f,RelO (fs.lookup f) (mA f))/\PySem.Within mA (fs.map (·.1))
 | .own _=>∃o,h.get? a=some o
 | .xd fs=>∃mA,h.Ns1 a mA/\∀f,RelO (fs.lookup f) (mA f)
 | .rng lo hi=>∃t u v,h.get? a=some {cls:=.type "range",data:=.fields #[.int lo t,.int hi u,.int 1 v]}
 | .frz o u=>h.get? a=some o/\ObjOk H h a u
 | .tbl ps=>h.get? a=some {cls:=.none,data:=.fields ps}
 | .met f x=>h.get? a=some (methodObj (.ref f) (.ref x))
 | .ext φ=>φ h/\(∃o,h.get? a=some o)/\∀h1 h2:Heap,φ h1->(∀o,h1.get? a=some o->h2.get? a=some o)->φ h2
def HOk(H:Hp)(h:Heap):Prop:=∀a o,H a=some o->ObjOk P w H h a o
end
section
variable{P:Program}{w:World}{H H':Hp}{h h':Heap}{a:Addr}{o:HO}
theorem ObjOk.lt(x:ObjOk P w H h a o):a < h.objs.size:=by
 cases o with
 |lst xs=>obtain⟨_,_,_,_,e⟩:=x;exact Heap.lt_size e
 |tup xs=>obtain⟨_,_,_,p⟩:=x;exact p.lt
 |dK kvs=>obtain⟨_,_,_,_,o,_,_,e,_⟩:=x;exact Heap.lt_size e
 |dT kvs=>obtain⟨_,_,_,_,o,_,_,e,_⟩:=x;exact Heap.lt_size e
 |set S n=>obtain⟨o,_,_,_,e,_⟩:=x;exact Heap.lt_size e
 |ins C dx fs=>obtain⟨_,_,_,e,_⟩:=x;exact Heap.lt_size e
 |own y=>obtain⟨_,e⟩:=x;exact Heap.lt_size e
 |xd fs=>obtain⟨_,⟨_,_,_,e,_⟩,_⟩:=x;exact Heap.lt_size e
 |rng lo hi=>obtain⟨_,_,_,e⟩:=x;exact Heap.lt_size e
 |frz ob u=>obtain⟨e,_⟩:=x;exact Heap.lt_size e
 |tbl ps=>exact Heap.lt_size (show h.get? a=some _ from x)
 |met f y=>exact Heap.lt_size (show h.get? a=some _ from x)
 |ext φ=>obtain⟨_,⟨_,e⟩,_⟩:=x;exact Heap.lt_size e
theorem Paired.mapP{α β:Type}{F G:α->β->Prop}:∀{l₁:List α} {l₂:List β},Paired F l₁ l₂->(∀a b,F a b->G a b)->Paired G l₁ l₂
 |_,_,.nil,_=> .nil
 |_,_,.cons r t,f=> .cons (f _ _ r) (Paired.mapP t f)
def ObjOk.stay(x:ObjOk P w H h a o)(k:∀b u,(b=a\/H b=some (.own a))->h.get? b=some u->h'.get? b=some u)
  (ho:∀b,H b=some (.own a)->H' b=some (.own a)) (ht:∀b xs,H b=some (.tup xs)->H' b=some (.tup xs)):ObjOk P w H' h' a o:=by
 induction o with
 |lst xs=>obtain⟨z,its,n,r,e⟩:=x;exact⟨z,its,n,r,k _ _ (.inl rfl) e⟩
 |tup xs=>obtain⟨z,its,r,ob,e,c⟩:=x;exact⟨z,its,r,ob,k _ _ (.inl rfl) e,c⟩
 |dK kvs=>obtain⟨z,y,vs,r,ob,es,ep,e,c⟩:=x;exact⟨z,y,vs,r,ob,es,ep,k _ _ (.inl rfl) e,c⟩
 |dT kvs=>
  obtain⟨z,y,xs,r,ob,es,ep,e,c⟩:=x;exact⟨z,y,xs,Paired.mapP r λp q z=>⟨z.1,ht _ _ z.2.1,z.2.2⟩,ob,es,ep,k _ _ (.inl rfl) e,c⟩
 |set S n=>obtain⟨ob,es,ep,t,e,c⟩:=x;exact⟨ob,es,ep,t,k _ _ (.inl rfl) e,c⟩
 |ins C dx fs=>
  obtain⟨d,z,ne,e,mA,⟨od,es,ep,e2,c⟩,r⟩:=x;exact⟨ho _ d,z,ne,k _ _ (.inl rfl) e,mA,⟨od,es,ep,k _ _ (.inr d) e2,c⟩,r⟩
 |own y=>obtain⟨ob,e⟩:=x;exact⟨ob,k _ _ (.inl rfl) e⟩
 |xd fs=>obtain⟨mA,⟨od,es,ep,e,c⟩,r⟩:=x;exact⟨mA,⟨od,es,ep,k _ _ (.inl rfl) e,c⟩,r⟩
 |rng lo hi=>obtain⟨t,u,v,e⟩:=x;exact⟨t,u,v,k _ _ (.inl rfl) e⟩
 |frz ob u ih=>obtain⟨e,q⟩:=x;exact⟨k _ _ (.inl rfl) e,ih q⟩
 |tbl ps=>
  have e:h.get? a=some {cls:=.none,data:=.fields ps}:=x;show h'.get? a=some {cls:=.none,data:=.fields ps};exact k a _ (.inl rfl) e
 |met f y=>
  have e:h.get? a=some (methodObj (.ref f) (.ref y)):=x;show h'.get? a=some (methodObj (.ref f) (.ref y));exact k a _ (.inl rfl) e
 |ext φ=>obtain⟨p,⟨o,e⟩,st⟩:=x;exact⟨st _ _ p λo q=>k _ _ (.inl rfl) q,⟨o,k _ _ (.inl rfl) e⟩,st⟩
theorem HOk.lt(x:HOk P w H h)(e:H a=some o):a < h.objs.size:=(x a o e).lt
def HOk.fresh(x:HOk P w H h)(e:h.objs.size<=a):H a=none:=by
 cases q:H a with
 |none=>rfl
 |some u=>exact absurd (Nat.lt_of_lt_of_le (x.lt q) e) (Nat.lt_irrefl _)
def HOk.kept(x:HOk P w H h)(k:∀b u,h.get? b=some u->h'.get? b=some u):HOk P w H h':=λa o e=>
 (x a o e).stay (λb u _ q=>k b u q) (λ_ q=>q) λ_ _ q=>q
def HOk.laid(x:HOk P w H h)(k:∀b u,h.get? b=some u->h'.get? b=some u)(hp:h.objs.size<=a)(new:ObjOk P w (upd H a o) h' a o):HOk P w (upd H a o) h':=λb u e=>by
 have hn:=x.fresh hp
 by_cases hb:b=a
 ·subst hb;rw [Cw] at e;cases e;exact new
 ·rw [Bm hb] at e;exact(x b u e).stay (λc v _ q=>k c v q) (λc q=>by rw [Bm (Hg q hn)];exact q) λc xs q=>by rw [Bm (Hg q hn)];exact q
end
def Rd(H:Hp)(a:Addr)(u:HO):Prop:=H a=some u\/∃o,H a=some (.frz o u)
def Rd.ok{P:Program}{w:World}{H:Hp}{h:Heap}{a:Addr}{u:HO}(r:Rd H a u)(x:HOk P w H h):ObjOk P w H h a u:=by
 rcases r with r|⟨o,r⟩
 ·exact x a u r
 ·obtain⟨_,q⟩:=x a _ r;exact q
def Mut:Option HO->Prop
 |some (.lst _)=>True
 |some (.dK _)=>True
 |some (.dT _)=>True
 |some (.set _ _)=>True
 |some (.ins _ _ _)=>True
 |some (.ext _)=>True
 |_=>False
section
variable{P:Program}{w:World}{H:Hp}{h h':Heap}{x e:Addr}{o':HO}
def HOk.write(ok:HOk P w H h)(mu:Mut (H x))(he:e=x\/H e=some (.own x))(k:∀b u,b≠e->h.get? b=some u->h'.get? b=some u)(heo:∃u,h'.get? e=some u)
  (new:ObjOk P w (upd H x o') h' x o'):HOk P w (upd H x o') h':=λb u q=>by
 have dh:∀c y,H c=some (.own y)->c≠x:=λc y r z=>by subst z;rw [r] at mu;exact mu
 have gb:∀c xs,H c=some (.tup xs)->c≠x:=λc xs r z=>by subst z;rw [r] at mu;exact mu
 by_cases hb:b=x
 ·subst hb;rw [Cw] at q;cases q;exact new
 ·rw [Bm hb] at q
  by_cases hbe:b=e
  ·have q':H b=some (.own x):=by
    rcases he with z|z
    ·exact absurd (hbe.trans z) hb
    ·rw [hbe];exact z
   rw [q] at q';cases q';obtain⟨v,hv⟩:=heo;exact⟨v,by rw [hbe];exact hv⟩
  ·refine(ok b u q).stay (λc v hc r=>k c v ?_ r) (λc r=>by rw [Bm (dh c b r)];exact r) λc xs r=>by rw [Bm (gb c xs r)];exact r
   rcases hc with rfl|hc
   ·exact hbe
   ·rintro rfl
    rcases he with z|z
    ·exact dh c b hc z
    ·rw [hc] at z;cases z;exact hb rfl
end
structure Un(fs ex:List Addr)(H H':Hp)(h h':Heap):Prop where
 keep:∀b o,h.get? b=some o->H b=none->b∉fs->b∉ex->h'.get? b=some o
 slot:∀b o,h.get? b=some o->H b=none->b∈fs->b∉ex->∃sl,h'.get? b=some {o with slots:=sl}
 free:∀b o,h.get? b=some o->H b=none->b∉ex->H' b=none
 there:∀b o,h.get? b=some o->b∉ex->∃o',h'.get? b=some o'
 tups:∀b xs,H b=some (.tup xs)->H' b=some (.tup xs)
 frzs:∀b o u,H b=some (.frz o u)->H' b=some (.frz o u)
 tbls:∀b ps,H b=some (.tbl ps)->∃more,H' b=some (.tbl (ps ++ more))
section
variable{fs fs' ex ex':List Addr}{H H1 H2:Hp}{h h1 h2 h':Heap}{a x e:Addr}{o:HO}
def Un.any(u:Un fs ex H H1 h h1){b:Addr}{ob:Obj}(q:h.get? b=some ob)(n:H b=none)(hx:b∉ex):∃sl,h1.get? b=some {ob with slots:=sl}:=by
 by_cases hb:b∈fs
 ·exact u.slot b ob q n hb hx
 ·exact⟨ob.slots,u.keep b ob q n hb hx⟩
def Un.kept(k:∀b u,h.get? b=some u->h'.get? b=some u):Un fs ex H H h h':=
 ⟨λb ob q _ _ _=>k b ob q,λb ob q _ _ _=>⟨ob.slots,k b ob q⟩,λ_ _ _ n _=>n,λb ob q _=>⟨ob,k b ob q⟩,λ_ _ q=>q,λ_ _ _ q=>q,λ_ ps q=>⟨#[],by rw [q];simp⟩⟩
def Un.refl:Un fs ex H H h h:=Un.kept λ_ _ q=>q
def Un.laid(k:∀b u,h.get? b=some u->h'.get? b=some u)(hp:h.objs.size<=a)(hn:H a=none):Un fs ex H (upd H a o) h h' where
 keep:=λb u q _ _ _=>k b u q
 slot:=λb u q _ _ _=>⟨u.slots,k b u q⟩
 free:=λb u q n _=>by rw [Bm (Nat.ne_of_lt (Nat.lt_of_lt_of_le (Heap.lt_size q) hp))];exact n
 there:=λb u q _=>⟨u,k b u q⟩
 tups:=λb xs q=>by rw [Bm (Hg q hn)];exact q
 frzs:=λb u xs q=>by rw [Bm (Hg q hn)];exact q
 tbls:=λb ps q=>⟨#[],by rw [Bm (Hg q hn),q];simp⟩
def Un.write(mu:Mut (H x))(he:e=x\/H e=some (.own x))(k:∀b u,b≠e->h.get? b=some u->h'.get? b=some u)(heo:∃u,h'.get? e=some u):Un fs ex H (upd H x o) h h':=by
 have hx:∀b,H b=none->b≠x:=λb n z=>by subst z;rw [n] at mu;exact mu
 have hb:∀b,H b=none->b≠e:=λb n z=>by
  subst z;rcases he with r|r
  ·exact hx b n r
  ·rw [n] at r;cases r
 have hm:∀b u,H b=some u->¬Mut (some u)->b≠x:=λb u q nm z=>by subst z;rw [q] at mu;exact nm mu
 refine⟨λb u q n _ _=>k b u (hb b n) q,λb u q n _ _=>⟨u.slots,k b u (hb b n) q⟩,λb u q n _=>by rw [Bm (hx b n)];exact n,λb u q _=> ?_,
  λb xs q=>by rw [Bm (hm b _ q λz=>z)];exact q,λb u xs q=>by rw [Bm (hm b _ q λz=>z)];exact q,λb ps q=>⟨#[],by rw [Bm (hm b _ q λz=>z),q];simp⟩⟩
 by_cases hbe:b=e
 ·subst hbe;exact heo
 ·exact⟨u,k b u hbe q⟩
end
def trk(h:Heap)(H:Hp):List Addr:=(List.range h.objs.size).filter λa=>(H a).isSome
def hidT(h:Heap)(H:Hp):Heap:=hideAll h (trk h H)
def cv_5(h:Heap)(H:Hp):(hidT h H).objs.size=h.objs.size:=hideAll_size _ _
def dc_4{h:Heap}{H:Hp}{b:Addr}{o:Obj}(e:h.get? b=some o)(n:H b=none):(hidT h H).get? b=some o:=
 hideAll_get _ e λhm=>by
  have q:(H b).isSome=true:=(List.mem_filter.mp hm).2;rw [n] at q;simp at q
def do_8{h:Heap}{H:Hp}{b:Addr}{o:Obj}(e:(hidT h H).get? b=some o):h.get? b=some o/\H b=none:=by
 have e':h.get? b=some o:=of_hideAll (trk h H) e;refine⟨e', ?_⟩;cases q:H b with
 |none=>rfl
 |some x=>
  have hm:b∈trk h H:=List.mem_filter.mpr ⟨List.mem_range.mpr (Heap.lt_size e'),by simp [q]⟩;have z:(hidT h H).get? b=none:=hideAll_none (trk h H) hm;rw [z] at e;cases e
structure Mod(K:Frag)(mg:Str->Option Value)(base:Heap):Prop where
 kin:K.In base
 glob:base.Ns mainGlobals mg
 blt:∃mb,base.Ns builtinsNs mb/\∀x:Str,x≠ "__name__" ->mb x=bootBuiltins x
 nolimit:base.NoLimit
structure Cx where
 prog:Program
 w:World
 K:Frag
 mg:Str->Option Value
 base:Heap
 A:Around
 N:List Str
 s₀:Shared
 H₀:Hp
 env:Env
 outer:List Env
 stack:List Env
 ex:List Addr
 fn:Str->Bool
 calm:Bool
 pn:List (Addr×Obj)
 xe:Value->Shared->Prop
def frs(l:List Env):List Addr:=l.filterMap (·.frame)
abbrev Cx.fs(X:Cx):List Addr:=frs X.outer
def Hk(sc:Scope)(x:Str):Prop:=sc.names.lookup x=some .local\/sc.names.lookup x=some .cell\/sc.names.lookup x=some .free
def Loc(sc:Scope)(x:Str):Prop:=sc.names.lookup x=some .local\/sc.names.lookup x=some .cell
def Look(env:Env)(h:Heap)(m:Str->Option Value)(x:Str)(u:Value):Prop:=
 (env.kindOf x=some .local/\m x=some u)\/((env.kindOf x=some .cell\/env.kindOf x=some .free)/\∃c,env.cells.lookup x=some c/\h.IsCell c (some u))
structure Cx.Ok(X:Cx):Prop where
 mod:Mod X.K X.mg X.base
 kind:X.env.scope.kind=.function
 glob:X.env.globals=mainGlobals
 blt:X.env.builtins=builtinsNs
 above:X.s₀.heap.objs.size<=X.env.locals
 inj:∀x y c,X.env.cells.lookup x=some c->X.env.cells.lookup y=some c->x=y
 has:∀x,(X.env.kindOf x=some .cell\/X.env.kindOf x=some .free)->∃c,X.env.cells.lookup x=some c
 cab:∀x c,X.fn x=true->X.env.cells.lookup x=some c->X.s₀.heap.objs.size<=c
 hd:X.calm=true->X.A.handled=none
 frames:X.A.frames=some X.stack
 stk:X.stack=X.outer\/(X.stack=X.env::X.outer/\X.env.frame=some X.env.locals)
 exf:∀b∈X.ex,b≠X.env.locals/\∀x c,X.env.cells.lookup x=some c->c≠b
 bs:∀b o,X.base.get? b=some o->X.s₀.heap.get? b=some o/\X.H₀ b=none
 bsz:X.base.objs.size<=X.s₀.heap.objs.size
 noex:∀b o,X.base.get? b=some o->b∉X.ex
 exfs:∀b∈X.ex,b∉X.fs
 funs:X.s₀.heap.FunFrames X.base X.outer
 frf:∀b∈X.fs,X.H₀ b=none
structure Inv(X:Cx)(zc:List (Addr×Obj))(σ:List (Option V))(H:Hp)(s:Shared):Prop where
 ok:X.Ok
 os:s.os=X.s₀.os
 bare:AllBare s.gens
 base:Un X.fs X.ex X.H₀ H X.s₀.heap s.heap
 loc:∃m,s.heap.Ns X.env.locals m/\∀(i:Nat) (x:Str) (v:V),X.N[i]? =some x->σ[i]? =some (some v)->Hk X.env.scope x->∃u,RelV v u/\Look X.env s.heap m x u
 cell:∀x c,X.env.cells.lookup x=some c->∃v,s.heap.IsCell c v
 free:H X.env.locals=none
 freeC:∀x c,X.env.cells.lookup x=some c->H c=none
 pin:∀p∈X.pn ++ zc,s.heap.get? p.1=some p.2/\H p.1=none/\p.1≠X.env.locals/\p.1∉X.fs/\∀v,p.2.data≠ .cell v
 hok:HOk X.prog X.w H s.heap
 len:σ.length=X.N.length
section
variable{X:Cx}{zc:List (Addr×Obj)}{σ:List (Option V)}{H H':Hp}{s:Shared}{h':Heap}
def Cx.Ok.nofr(ok:X.Ok){b:Addr}{o:Obj}(e:X.base.get? b=some o):b∉X.fs:=λhb=>by
 have:=(ok.funs.mem hb).1;rw [e] at this;cases this
theorem Inv.bs(I:Inv X zc σ H s):∀b o,X.base.get? b=some o->s.heap.get? b=some o/\H b=none:=λb o e=>
 ⟨I.base.keep b o (I.ok.bs b o e).1 (I.ok.bs b o e).2 (I.ok.nofr e) (I.ok.noex b o e),I.base.free b o (I.ok.bs b o e).1 (I.ok.bs b o e).2 (I.ok.noex b o e)⟩
def Inv.bk(I:Inv X zc σ H s):∀b o,X.base.get? b=some o->s.heap.get? b=some o:=λb o e=>(I.bs b o e).1
theorem Inv.mod(I:Inv X zc σ H s):Mod X.K X.mg X.base:=I.ok.mod
def Inv.kIn(I:Inv X zc σ H s):X.K.In s.heap:=I.ok.mod.kin.keeps I.bk
theorem Inv.nolimit(I:Inv X zc σ H s):s.heap.NoLimit:=I.ok.mod.nolimit.keeps I.bk
def Inv.fr(I:Inv X zc σ H s):∃m,Fr X.base X.env.locals s.heap m:=
 let⟨m,hn,_⟩:=I.loc
 ⟨m,hn,I.bk,Nat.le_trans I.ok.bsz I.ok.above⟩
theorem Inv.lt(I:Inv X zc σ H s):X.env.locals < s.heap.objs.size:=let⟨_,hn,_⟩:=I.loc;hn.lt
def Inv.sz(I:Inv X zc σ H s):X.s₀.heap.objs.size<=s.heap.objs.size:=Nat.le_trans I.ok.above (Nat.le_of_lt I.lt)
def Inv.nofs(I:Inv X zc σ H s){a:Addr}(h:s.heap.objs.size<=a):a∉X.fs:=λhb=>by
 obtain⟨_,o,ho,_⟩:=I.ok.funs.mem hb;exact absurd (Nat.lt_of_lt_of_le (Heap.lt_size ho) (Nat.le_trans I.sz h)) (Nat.lt_irrefl _)
def Inv.cne(I:Inv X zc σ H s):∀x c,X.env.cells.lookup x=some c->c≠X.env.locals:=λx c e z=>by
 obtain⟨v,o,ho,hd⟩:=I.cell x c e;obtain⟨m,⟨o',es,ep,ho',hd',_⟩,_⟩:=I.loc;rw [z,ho'] at ho;cases ho;rw [hd'] at hd;cases hd
theorem Inv.funs(I:Inv X zc σ H s):s.heap.FunFrames X.base X.outer:=by
 have all:∀(l:List Env),(∀b∈frs l,b∈X.fs)->X.s₀.heap.FunFrames X.base l->s.heap.FunFrames X.base l:=by
  intro l
  induction l with
  |nil=>intro _ _;trivial
  |cons env r ih=>
   intro hs hl;obtain⟨hk,⟨L,o,hf,hn,ho,hd⟩,hr⟩:=hl;have hL:L∈X.fs:=hs L (by unfold frs;rw [List.filterMap_cons,hf];exact List.mem_cons_self);obtain⟨sl,e⟩:=I.base.slot L o ho (I.ok.frf L hL) hL λz=>I.ok.exfs L z hL;exact⟨hk,⟨L,_,hf,hn,e,hd⟩,ih (λb hb=>hs b (by unfold frs;rw [List.filterMap_cons,hf];exact List.mem_cons_of_mem _ hb)) hr⟩
 exact all X.outer (λ_ hb=>hb) I.ok.funs
theorem Inv.stack(I:Inv X zc σ H s):s.heap.FunFrames X.base X.stack:=by
 rcases I.ok.stk with e|⟨e,hf⟩
 ·rw [e];exact I.funs
 ·rw [e];obtain⟨m,hn,_⟩:=I.loc;refine .cons (by rw [I.ok.kind];decide) hf hn ?_ I.funs;exact Heap.get?_none_of_le (Nat.le_trans I.ok.bsz I.ok.above)
def Inv.stkSub(I:Inv X zc σ H s):∀b∈frs X.stack,b∈X.env.locals::X.fs:=λb hb=>by
 rcases I.ok.stk with e|⟨e,hf⟩
 ·rw [e] at hb;exact List.mem_cons_of_mem _ hb
 ·rw [e] at hb;unfold frs at hb;rw [List.filterMap_cons,hf] at hb;exact hb
def Inv.stkFree(I:Inv X zc σ H s):∀b∈frs X.stack,H b=none:=λb hb=>by
 rcases List.mem_cons.mp (I.stkSub b hb) with e|hb
 ·rw [e];exact I.free
 ·obtain⟨_,o,ho,_⟩:=I.ok.funs.mem hb;exact I.base.free b o ho (I.ok.frf b hb) λz=>I.ok.exfs b z hb
def Inv.step{g':Array GenState}{t':Nat}{d':Drawn}{ch:List Addr}(I:Inv X zc σ H s)
  (hch:∀b∈ch,(b∈X.ex\/X.s₀.heap.objs.size<=b)/\b≠X.env.locals/\(∀x c,X.env.cells.lookup x=some c->c≠b)/\∀p∈X.pn ++ zc,p.1≠b)
  (keep:∀b o,b≠X.env.locals->b∉X.fs->b∉ch->s.heap.get? b=some o->H b=none->h'.get? b=some o)
  (slot:∀b o,b≠X.env.locals->b∈X.fs->b∉ch->s.heap.get? b=some o->H b=none->∃sl,h'.get? b=some {o with slots:=sl}) (free:∀b o,b∉ch->s.heap.get? b=some o->H b=none->H' b=none)
  (there:∀b o,b∉ch->s.heap.get? b=some o->∃o',h'.get? b=some o')
  (tups:∀b xs,H b=some (.tup xs)->H' b=some (.tup xs)) (frzs:∀b o u,H b=some (.frz o u)->H' b=some (.frz o u)) (tbls:∀b ps,H b=some (.tbl ps)->∃more,H' b=some (.tbl (ps ++ more)))
  (ns:∀m,s.heap.Ns X.env.locals m->h'.Ns X.env.locals m) (hok:HOk X.prog X.w H' h') (hg:AllBare g'):
  Inv X zc σ H' {s with heap:=h',gens:=g',drawn:=d',toks:=t'}:=by
 have neL:∀b o,X.s₀.heap.get? b=some o->b≠X.env.locals:=λb o e=>Nat.ne_of_lt (Nat.lt_of_lt_of_le (Heap.lt_size e) I.ok.above);have neC:∀b o,X.s₀.heap.get? b=some o->b∉X.ex->b∉ch:=λb o e hx hb=>by
  rcases(hch b hb).1 with z|z
  ·exact hx z
  ·exact absurd (Nat.lt_of_lt_of_le (Heap.lt_size e) z) (Nat.lt_irrefl _)
 have cellK:∀x c,X.env.cells.lookup x=some c->∀v,s.heap.IsCell c v->h'.IsCell c v:=λx c e v ⟨o,ho,hd⟩=>by
  have nch:c∉ch:=λz=>(hch c z).2.2.1 x c e rfl
  by_cases hc:c∈X.fs
  ·obtain⟨sl,q⟩:=slot c o (I.cne x c e) hc nch ho (I.freeC x c e);exact⟨_,q,hd⟩
  ·exact⟨o,keep c o (I.cne x c e) hc nch ho (I.freeC x c e),hd⟩
 refine⟨I.ok,I.os,hg,⟨λb o e n hb hx=> ?_,λb o e n hb hx=> ?_,λb o e n hx=> ?_,λb o e hx=> ?_,λb xs e=>tups b xs (I.base.tups b xs e),λb o xs e=>frzs b o xs (I.base.frzs b o xs e),λb ps e=> ?_⟩, ?_,λx c e=> ?_, ?_,λx c e=> ?_,λp hp=> ?_,hok,I.len⟩
 ·exact keep b o (neL b o e) hb (neC b o e hx) (I.base.keep b o e n hb hx) (I.base.free b o e n hx)
 ·obtain⟨sl,e1⟩:=I.base.slot b o e n hb hx;obtain⟨sl',e2⟩:=slot b _ (neL b o e) hb (neC b o e hx) e1 (I.base.free b o e n hx);exact⟨sl',e2⟩
 ·obtain⟨o',e1⟩:=I.base.there b o e hx;exact free b o' (neC b o e hx) e1 (I.base.free b o e n hx)
 ·obtain⟨o',e1⟩:=I.base.there b o e hx;exact there b o' (neC b o e hx) e1
 ·obtain⟨m1,e1⟩:=I.base.tbls b ps e;obtain⟨m2,e2⟩:=tbls b _ e1;exact⟨m1 ++ m2,by rw [e2,Array.append_assoc]⟩
 ·obtain⟨m,hn,hl⟩:=I.loc;refine⟨m,ns m hn,λi x v e1 e2 e3=> ?_⟩;obtain⟨u,r,l⟩:=hl i x v e1 e2 e3;refine⟨u,r, ?_⟩;rcases l with l|⟨k,c,e,z⟩
  ·exact .inl l
  ·exact .inr ⟨k,c,e,cellK x c e _ z⟩
 ·obtain⟨v,z⟩:=I.cell x c e;exact⟨v,cellK x c e v z⟩
 ·obtain⟨m,⟨o,_,_,ho,_⟩,_⟩:=I.loc;exact free _ o (λz=>(hch _ z).2.1 rfl) ho I.free
 ·obtain⟨v,o,ho,hd⟩:=I.cell x c e;exact free c o (λz=>(hch c z).2.2.1 x c e rfl) ho (I.freeC x c e)
 ·obtain⟨e,n,ne,nf,d⟩:=I.pin p hp;have nch:p.1∉ch:=λz=>(hch p.1 z).2.2.2 p hp rfl;exact⟨keep p.1 p.2 ne nf nch e n,free p.1 p.2 nch e n,ne,nf,d⟩
def Inv.un{t':Nat}(I:Inv X zc σ H s)(u:Un X.fs [] H H' s.heap h')(hok:HOk X.prog X.w H' h'):Inv X zc σ H' {s with heap:=h',toks:=t'}:=by
 obtain⟨m,⟨o,es,ep,ho,r⟩,_⟩:=id I.loc;obtain⟨sl,hL⟩:=u.any ho I.free (by simp);exact I.step (g':=s.gens) (d':=s.drawn) (ch:=[]) (λ_ z=>nomatch z) (λb o _ hb _ e n=>u.keep b o e n hb (by simp)) (λb o _ hb _ e n=>u.slot b o e n hb (by simp)) (λb o _ e n=>u.free b o e n (by simp)) (λb o _ e=>u.there b o e (by simp)) u.tups u.frzs u.tbls (λm' hm=>by
  obtain⟨o',es',ep',ho',r'⟩:=hm;rw [ho] at ho';cases ho';exact⟨_,es',ep',hL,r'⟩) hok I.bare
def Inv.call{g':Array GenState}{t':Nat}{d':Drawn}{ch:List Addr}(I:Inv X zc σ H s)(u:Un (frs X.stack) ch H H' s.heap h')(hok:HOk X.prog X.w H' h')(hg:AllBare g')
  (hch:∀b∈ch,(b∈X.ex\/X.s₀.heap.objs.size<=b)/\b≠X.env.locals/\(∀x c,X.env.cells.lookup x=some c->c≠b)/\∀p∈X.pn ++ zc,p.1≠b):
  Inv X zc σ H' {s with heap:=h',gens:=g',drawn:=d',toks:=t'}:=by
 obtain⟨m,⟨o,es,ep,ho,r⟩,_⟩:=id I.loc;obtain⟨sl,hL⟩:=u.any ho I.free λz=>(hch _ z).2.1 rfl;exact I.step (ch:=ch) hch (λb o hL hb hc e n=>u.keep b o e n (λz=>(List.mem_cons.mp (I.stkSub b z)).elim hL hb) hc) (λb o _ _ hc e n=>u.any e n hc) (λb o hc e n=>u.free b o e n hc) (λb o hc e=>u.there b o e hc) u.tups u.frzs u.tbls (λm' hm=>by
  obtain⟨o',es',ep',ho',r'⟩:=hm;rw [ho] at ho';cases ho';exact⟨_,es',ep',hL,r'⟩) hok hg
def Inv.turned{t':Nat}{it:Addr}(I:Inv X zc σ H s)(k:∀b o,b≠it->s.heap.get? b=some o->h'.get? b=some o)(hn:H it=none)(hL:it≠X.env.locals)
  (h1:it∈X.ex\/X.s₀.heap.objs.size<=it) (h2:∀x c,X.env.cells.lookup x=some c->c≠it) (h3:∀p∈X.pn ++ zc,p.1≠it):Inv X zc σ H {s with heap:=h',toks:=t'}:=by
 have nit:∀b u,H b=some u->b≠it:=λb u e z=>by rw [z,hn] at e;cases e
 refine I.step (g':=s.gens) (d':=s.drawn) (ch:=[it]) (λb hb=> ?_) (λb o _ _ hc e _=>k b o (λz=>hc (by simp [z])) e) (λb o _ _ hc e _=>⟨o.slots,k b o (λz=>hc (by simp [z])) e⟩) (λ_ _ _ _ n=>n)
  (λb o hc e=>⟨o,k b o (λz=>hc (by simp [z])) e⟩) (λ_ _ e=>e) (λ_ _ _ e=>e) (λb ps e=>⟨#[],by rw [e];simp⟩) (λm hm=> ?_) (λb u e=> ?_) I.bare
 ·have e:b=it:=by simpa using hb
  subst e;exact⟨h1,hL,h2,h3⟩
 ·obtain⟨o,es,ep,ho,r⟩:=hm;exact⟨o,es,ep,k _ o (Ne.symm hL) ho,r⟩
 ·refine(I.hok b u e).stay (λc v hc q=>k c v ?_ q) (λ_ q=>q) λ_ _ q=>q;rcases hc with z|z
  ·rw [z];exact nit b u e
  ·exact nit c _ z
def Inv.tok(I:Inv X zc σ H s)(t:Nat):Inv X zc σ H {s with toks:=t}:=I.un (h':=s.heap) (t':=t) Un.refl I.hok
theorem Inv.kept{t':Nat}(I:Inv X zc σ H s)(k:∀b u,s.heap.get? b=some u->h'.get? b=some u):Inv X zc σ H {s with heap:=h',toks:=t'}:=I.un (Un.kept k) (I.hok.kept k)
theorem Inv.laid{a:Addr}{o:HO}{t':Nat}(I:Inv X zc σ H s)(k:∀b u,s.heap.get? b=some u->h'.get? b=some u)(hp:s.heap.objs.size<=a)(new:ObjOk X.prog X.w (upd H a o) h' a o):
  Inv X zc σ (upd H a o) {s with heap:=h',toks:=t'}:=I.un (Un.laid k hp (I.hok.fresh hp)) (I.hok.laid k hp new)
theorem Inv.write{x e:Addr}{o:HO}{t':Nat}(I:Inv X zc σ H s)(mu:Mut (H x))(he:e=x\/H e=some (.own x))(k:∀b u,b≠e->s.heap.get? b=some u->h'.get? b=some u)(heo:∃u,h'.get? e=some u)
  (new:ObjOk X.prog X.w (upd H x o) h' x o):Inv X zc σ (upd H x o) {s with heap:=h',toks:=t'}:=I.un (Un.write mu he k heo) (I.hok.write mu he k heo new)
def Inv.pins_of{aj:List (Addr×Obj)}(I:Inv X zc σ H s)(h:∀p∈aj,s.heap.get? p.1=some p.2/\H p.1=none/\p.1≠X.env.locals/\p.1∉X.fs/\∀v,p.2.data≠ .cell v):Inv X aj σ H s:=
 ⟨I.ok,I.os,I.bare,I.base,I.loc,I.cell,I.free,I.freeC,λp hp=>(List.mem_append.mp hp).elim (λz=>I.pin p (List.mem_append_left _ z)) (h p),I.hok,I.len⟩
def bd_9{N:List Str}(hN:N.Nodup){i j:Nat}{x:Str}(a:N[i]? =some x)(b:N[j]? =some x):i=j:=by
 obtain⟨h1,e1⟩:=List.getElem?_eq_some_iff.mp a;obtain⟨h2,e2⟩:=List.getElem?_eq_some_iff.mp b;exact(List.getElem_inj hN).mp (e1.trans e2.symm)
def bn_1{M:Model}{A:Around}{E:Value->Shared->Prop}{i:Nat}{x:Str}{v:V}{u:Value}{Q:Unit->Shared->Prop}(I:Inv X zc σ H s)(hN:X.N.Nodup)(hi:X.N[i]? =some x)(hx:Loc X.env.scope x)(r:RelV v u)
  (h:∀s',Inv X zc (σ.set i (some v)) H s'->(∃a,Heap.SameBut a s.heap s'.heap/\(a=X.env.locals\/X.env.cells.lookup x=some a))->Q () s') (hf:X.fn x=true\/X.env.scope.names.lookup x=some .local:=by first|exact .inl rfl|exact .inr rfl|assumption):wpAny M A (storeName X.env x u) Q E s:=by
 obtain⟨m,hn,hl⟩:=id I.loc;have cf:(X.env.scope.kind == .class || (X.env.scope.kind == .module && X.env.locals != X.env.globals))=false:=by rw [I.ok.kind];rfl
 have hiσ:i < σ.length:=by rw [I.len];exact(List.getElem?_eq_some_iff.mp hi).1
 have cne:=I.cne;have tracked:∀{a:Addr} {h':Heap},(∃o,s.heap.get? a=some o/\H a=none)->Heap.SameBut a s.heap h'->HOk X.prog X.w H h':=λ{a h'} ha hs b ob e=>by
  obtain⟨_,_,ao⟩:=ha;refine(I.hok b ob e).stay (λc w' hc q=>(hs.2 c ?_).trans q) (λ_ q=>q) λ_ _ q=>q
  rintro rfl
  rcases hc with rfl|hc
  ·rw [ao] at e;cases e
  ·rw [ao] at hc;cases hc
 rcases hx with hk|hk
 ·refine wpAny_storeName_local hk hn (λh' hn' hs=> ?_) cf;obtain⟨oL,_,_,hoL,_⟩:=id hn;refine h _ ⟨I.ok,I.os,I.bare,⟨λb o e n hb hx=> ?_,λb o e n hb hx=> ?_,I.base.free,λb o e hx=> ?_,I.base.tups,I.base.frzs,I.base.tbls⟩,⟨_,hn',λj y v' e1 e2 e3=> ?_⟩,λy c e=> ?_,I.free,I.freeC,λp hp=> ?_,tracked ⟨oL,hoL,I.free⟩ hs,by simpa using I.len⟩ ⟨_,hs,.inl rfl⟩
  ·exact(hs.2 b (Nat.ne_of_lt (Nat.lt_of_lt_of_le (Heap.lt_size e) I.ok.above))).trans (I.base.keep b o e n hb hx)
  ·obtain⟨sl,e1⟩:=I.base.slot b o e n hb hx;exact⟨sl,(hs.2 b (Nat.ne_of_lt (Nat.lt_of_lt_of_le (Heap.lt_size e) I.ok.above))).trans e1⟩
  ·obtain⟨o',e1⟩:=I.base.there b o e hx;exact⟨o',(hs.2 b (Nat.ne_of_lt (Nat.lt_of_lt_of_le (Heap.lt_size e) I.ok.above))).trans e1⟩
  ·by_cases hj:j=i
   ·subst hj;rw [hi] at e1;cases e1;rw [List.getElem?_set_self hiσ] at e2;cases e2;exact⟨u,r,.inl ⟨hk,by simp⟩⟩
   ·rw [List.getElem?_set_ne (Ne.symm hj)] at e2;obtain⟨u',r',q⟩:=hl j y v' e1 e2 e3;refine⟨u',r', ?_⟩;rcases q with⟨k,e⟩|⟨k,c,e,z⟩
    ·refine .inl ⟨k, ?_⟩;have:y≠x:=λe=>hj (bd_9 hN e1 (e▸hi));simp [this,e]
    ·exact .inr ⟨k,c,e,z.sameBut hs (cne y c e)⟩
  ·obtain⟨w',z⟩:=I.cell y c e;exact⟨w',z.sameBut hs (cne y c e)⟩
  ·obtain⟨e,n,ne,nf,d⟩:=I.pin p hp;exact⟨(hs.2 p.1 ne).trans e,n,ne,nf,d⟩
 ·have hfn:X.fn x=true:=by
   rcases hf with z|z
   ·exact z
   ·rw [z] at hk;cases hk
  obtain⟨c,hc⟩:=I.ok.has x (.inl hk);obtain⟨w',z⟩:=I.cell x c hc;refine wpAny_storeName_cell I.ok.kind hk hc z (λh' hc' hs=> ?_);obtain⟨oc,hoc,gp⟩:=id z;refine h {s with heap:=h'} ⟨I.ok,I.os,I.bare,⟨λb o e n hb hx=> ?_,λb o e n hb hx=> ?_,I.base.free,λb o e hx=> ?_,I.base.tups,I.base.frzs,I.base.tbls⟩,⟨m,hn.sameBut hs (Ne.symm (cne x c hc)),λj y v' e1 e2 e3=> ?_⟩,λy c' e=> ?_,I.free,I.freeC,λp hp=> ?_,tracked ⟨oc,hoc,I.freeC x c hc⟩ hs,by simpa using I.len⟩ ⟨c,hs,.inr hc⟩
  ·exact(hs.2 b (Nat.ne_of_lt (Nat.lt_of_lt_of_le (Heap.lt_size e) (I.ok.cab x c hfn hc)))).trans (I.base.keep b o e n hb hx)
  ·obtain⟨sl,e1⟩:=I.base.slot b o e n hb hx;exact⟨sl,(hs.2 b (Nat.ne_of_lt (Nat.lt_of_lt_of_le (Heap.lt_size e) (I.ok.cab x c hfn hc)))).trans e1⟩
  ·obtain⟨o',e1⟩:=I.base.there b o e hx;exact⟨o',(hs.2 b (Nat.ne_of_lt (Nat.lt_of_lt_of_le (Heap.lt_size e) (I.ok.cab x c hfn hc)))).trans e1⟩
  ·by_cases hj:j=i
   ·subst hj;rw [hi] at e1;cases e1;rw [List.getElem?_set_self hiσ] at e2;cases e2;exact⟨u,r,.inr ⟨.inl hk,c,hc,hc'⟩⟩
   ·rw [List.getElem?_set_ne (Ne.symm hj)] at e2;obtain⟨u',r',q⟩:=hl j y v' e1 e2 e3;refine⟨u',r', ?_⟩;rcases q with q|⟨k,c',e,z'⟩
    ·exact .inl q
    ·refine .inr ⟨k,c',e,z'.sameBut hs ?_⟩
     rintro rfl
     exact hj (bd_9 hN e1 (I.ok.inj _ _ _ e hc▸hi))
  ·by_cases hcc:c'=c
   ·subst hcc;exact⟨_,hc'⟩
   ·obtain⟨w2,z2⟩:=I.cell y c' e;exact⟨w2,z2.sameBut hs hcc⟩
  ·obtain⟨e,n,ne,nf,d⟩:=I.pin p hp;refine⟨(hs.2 p.1 ?_).trans e,n,ne,nf,d⟩;intro q;rw [q,hoc] at e;have q':oc=p.2:=Option.some.inj e;exact d w' (by rw [<-q'];exact gp)
def be_0{M:Model}{A:Around}{E:Value->Shared->Prop}{i:Nat}{x:Str}{v:V}{u:Value}{Q:Unit->Shared->Prop}(I:Inv X zc σ H s)(hN:X.N.Nodup)(hi:X.N[i]? =some x)(hx:Loc X.env.scope x)(r:RelV v u)
  (h:∀s',Inv X zc (σ.set i (some v)) H s'->Q () s') (hf:X.fn x=true\/X.env.scope.names.lookup x=some .local:=by first|exact .inl rfl|exact .inr rfl|assumption):wpAny M A (storeName X.env x u) Q E s:=
 bn_1 I hN hi hx r (λs' I' _=>h s' I') hf
def Inv.call'{s':Shared}{ch:List Addr}(I:Inv X zc σ H s)(ho:s'.os=s.os)(u:Un (frs X.stack) ch H H' s.heap s'.heap)(hok:HOk X.prog X.w H' s'.heap)(hg:AllBare s'.gens)
  (hch:∀b∈ch,(b∈X.ex\/X.s₀.heap.objs.size<=b)/\b≠X.env.locals/\(∀x c,X.env.cells.lookup x=some c->c≠b)/\∀p∈X.pn ++ zc,p.1≠b):Inv X zc σ H' s':=by
 obtain⟨h',g',d',t',o'⟩:=s';have e:o'=s.os:=ho;subst e;exact I.call (g':=g') (t':=t') (d':=d') u hok hg hch
end
abbrev XK:=Value->Option Addr->Hp->Prop
abbrev St:=List (Option V)
abbrev VK:=V->Hp->Prop
abbrev TE:=St->Hp->VK->Prop
abbrev TT:=St->Hp->(Bool->Hp->Prop)->Prop
abbrev TA:=St->Hp->(List V->Hp->Prop)->Prop
structure Ends where
 nx:St->Hp->Prop
 rt:VK
 bk:St->Hp->Prop:=λ_ _=>False
 ct:St->Hp->Prop:=λ_ _=>False
abbrev TS:=Ends->St->Hp->Prop
def EP(X:Cx)(zc:List (Addr×Obj))(σ:St)(Q:VK)(u:Value)(s':Shared):Prop:=∃v H',Inv X zc σ H' s'/\RelV v u/\Q v H'
def TP(X:Cx)(zc:List (Addr×Obj))(σ:St)(Q:Bool->Hp->Prop)(b:Bool)(s':Shared):Prop:=∃H',Inv X zc σ H' s'/\Q b H'
def AP(X:Cx)(zc:List (Addr×Obj))(σ:St)(Q:List V->Hp->Prop)(us:List Value)(s':Shared):Prop:=∃vs H',Inv X zc σ H' s'/\Vals vs us/\Q vs H'
def SP(X:Cx)(zc:List (Addr×Obj))(D:Ends)(f:Flow)(s':Shared):Prop:=
 match f with
 | .next=>∃σ' H',Inv X zc σ' H' s'/\D.nx σ' H'
 | .brk=>∃σ' H',Inv X zc σ' H' s'/\D.bk σ' H'
 | .cont=>∃σ' H',Inv X zc σ' H' s'/\D.ct σ' H'
 | .ret u=>∃v σ' H',Inv X zc σ' H' s'/\RelV v u/\D.rt v H'
def PE(X:Cx)(e:Expr)(t:TE):Prop:=
 ∀(zc:List (Addr×Obj)) (s:Shared) (σ:St) (H:Hp) (Q:VK),Inv X zc σ H s->t σ H Q->wpAny (model X.prog X.w) X.A (eval e X.env) (EP X zc σ Q) X.xe s
def PT(X:Cx)(e:Expr)(t:TT):Prop:=
 ∀(zc:List (Addr×Obj)) (s:Shared) (σ:St) (H:Hp) (Q:Bool->Hp->Prop),Inv X zc σ H s->t σ H Q->wpAny (model X.prog X.w) X.A (isTrue e X.env (eval e X.env)) (TP X zc σ Q) X.xe s
def PW(X:Cx)(e:Expr)(t:TT):Prop:=
 ∀(whole:Sem Value) (zc:List (Addr×Obj)) (s:Shared) (σ:St) (H:Hp) (Q:Bool->Hp->Prop),Inv X zc σ H s->t σ H Q->wpAny (model X.prog X.w) X.A (isTrue e X.env whole) (TP X zc σ Q) X.xe s
def PW.pt{X:Cx}{e:Expr}{t:TT}(h:PW X e t):PT X e t:=h _
def PA(X:Cx)(es:List Expr)(t:TA):Prop:=
 ∀(pos:Pos) (zc:List (Addr×Obj)) (s:Shared) (σ:St) (H:Hp) (Q:List V->Hp->Prop),Inv X zc σ H s->t σ H Q->wpAny (model X.prog X.w) X.A (spliced (backTo pos (starEach es X.env))) (AP X zc σ Q) X.xe s
def PS(X:Cx)(st:Stmt)(t:TS):Prop:=
 ∀(zc:List (Addr×Obj)) (s:Shared) (σ:St) (H:Hp) (D:Ends),Inv X zc σ H s->t D σ H->wpAny (model X.prog X.w) X.A (exec st X.env) (SP X zc D) X.xe s
def PSs(X:Cx)(st:List Stmt)(t:TS):Prop:=
 ∀(zc:List (Addr×Obj)) (s:Shared) (σ:St) (H:Hp) (D:Ends),Inv X zc σ H s->t D σ H->wpAny (model X.prog X.w) X.A (execs st X.env) (SP X zc D) X.xe s
def Bh{α:Type}{t:Sem α}{Q Q':α->Shared->Prop}{M:Model}{A:Around}{E:Value->Shared->Prop}{s:Shared}(h:wpAny M A t Q E s)(hQ:∀a s,Q a s->Q' a s):wpAny M A t Q' E s:=wpAny_mono h hQ λ_ _ x=>x
section
variable{X:Cx}
def tVar(i:Nat):TE:=λ σ H Q=>∃v,σ[i]? =some (some v)/\Q v H
def tC(v:V):TE:=λ_ H Q=>Q v H
def Fu{i:Nat}{x:Str}{pos:Pos}(hN:X.N[i]? =some x)(hv:Hk X.env.scope x)(hd:(x ==("__debug__" :Str))=false:=by decide)(hcd:(x ==("__classdict__" :Str))=false:=by decide):PE X (.Name x pos) (tVar i):=by
 intro zc s σ H Q I h;obtain⟨v,e,h⟩:=h;obtain⟨m,hn,hl⟩:=I.loc;obtain⟨u,r,l⟩:=hl i x v hN e hv;have fin:EP X zc σ Q u s:=⟨v,H,I,r,h⟩;rcases l with⟨hk,hm⟩|⟨hk,c,hc,hcell⟩
 ·exact wpAny_Name (wpAny_loadName_local I.ok.kind hk hn hm fin) hd
 ·rcases hk with hk|hk
  ·exact wpAny_Name (wpAny_loadName_cell I.ok.kind hk hc hcell fin) hd
  ·exact wpAny_Name (wpAny_loadName_free I.ok.kind hk hc hcell fin hcd) hd
def ea_3{i j pos}:PE X (.Constant (.int i) j pos) (tC (.int i)):=λ_ _ _ H _ I h=>wpAny_Constant_int ⟨.int i,H,I.tok _,⟨_,rfl⟩,h⟩
def ei_8{b j pos}:PE X (.Constant (.bool b) j pos) (tC (.bl b)):=λ_ _ _ H _ I h=>Constant_bool ⟨.bl b,H,I,rfl,h⟩
def dc_5{j pos}:PE X (.Constant .none j pos) (tC .non):=λ_ _ _ H _ I h=>Constant_none ⟨.non,H,I,rfl,h⟩
def ea_4{x j pos}:PE X (.Constant (.str x) j pos) (tC (.str x)):=λ_ _ _ H _ I h=>Calls.Constant_str ⟨.str x,H,I.tok _,⟨_,rfl⟩,h⟩
def Gl(X:Cx)(x:Str):Prop:=X.env.kindOf x=some .globalImplicit
def x_4{E:Value->Shared->Prop}{zc:List (Addr×Obj)}{s:Shared}{σ:St}{H:Hp}{x:Str}{u:Value}{pos:Pos}{Q:Value->Shared->Prop}(I:Inv X zc σ H s)(hg:Gl X x)(hm:X.mg x=some u)(h:Q u s)
  (hd:(x ==("__debug__" :Str))=false:=by decide):wpAny (model X.prog X.w) X.A (eval (.Name x pos) X.env) Q E s:=
 Calls.Name_function_global I.ok.kind hg (Calls.loadGlobal_global (by rw [I.ok.glob];exact I.mod.glob.keeps I.bk) hm h) hd
def ae_2{E:Value->Shared->Prop}{zc:List (Addr×Obj)}{s:Shared}{σ:St}{H:Hp}{x:Str}{u:Value}{pos:Pos}{Q:Value->Shared->Prop}(I:Inv X zc σ H s)(hg:Gl X x)(hm:X.mg x=none)(hv:bootBuiltins x=some u)(h:Q u s)
  (hn:x≠ "__name__" :=by decide) (hd:(x ==("__debug__" :Str))=false:=by decide):wpAny (model X.prog X.w) X.A (eval (.Name x pos) X.env) Q E s:=by
 obtain⟨mb,h1,h2⟩:=I.mod.blt;exact Calls.Name_function_global I.ok.kind hg (Calls.loadGlobal_builtin (by rw [I.ok.glob];exact I.mod.glob.keeps I.bk) hm (by rw [I.ok.blt];exact h1.keeps I.bk) ((h2 x hn).trans hv) h) hd
def bs_6{x:Str}{v:V}{u:Value}{pos:Pos}(hg:Gl X x)(hm:X.mg x=some u)(r:RelV v u)(hd:(x ==("__debug__" :Str))=false:=by decide):PE X (.Name x pos) (tC v):=
 λ_ _ _ H _ I h=>x_4 I hg hm ⟨v,H,I,r,h⟩ hd
def do_9{x:Str}{v:V}{u:Value}{pos:Pos}(hg:Gl X x)(hm:X.mg x=none)(hv:bootBuiltins x=some u)(r:RelV v u)(hn:x≠ "__name__" :=by decide)(hd:(x ==("__debug__" :Str))=false:=by decide):PE X (.Name x pos) (tC v):=
 λ_ _ _ H _ I h=>ae_2 I hg hm hv ⟨v,H,I,r,h⟩ hn hd
variable{a b:Expr}{ta tb:TE}{pos:Pos}
variable{tA tB':TT}{Ew:List Expr}
def tAnd(t u:TT):TT:=λ σ H Q=>t σ H λc H1=>if c=true then u σ H1 Q else Q false H1
def tOr(t u:TT):TT:=λ σ H Q=>t σ H λc H1=>if c=true then Q true H1 else u σ H1 Q
def tNot(t:TT):TT:=λ σ H Q=>t σ H λc H1=>Q (!c) H1
def dp_0(ha:PT X a tA):PW X (.BoolOp .And [a] pos) tA:=by
 intro wh zc s σ H Q I h;refine isTrue_and (Bh (ha zc s σ H Q I h) λc s1 e=> ?_);cases c with
 |true=>exact isTrue_and_nil e
 |false=>exact e
def ea_5(ha:PT X a tA):PW X (.BoolOp .Or [a] pos) tA:=by
 intro wh zc s σ H Q I h;refine isTrue_or (Bh (ha zc s σ H Q I h) λc s1 e=> ?_);cases c with
 |false=>exact isTrue_or_nil e
 |true=>exact e
def ea_6(ha:PT X a tA)(hb:PW X (.BoolOp .And (b::Ew) pos) tB'):PW X (.BoolOp .And (a::b::Ew) pos) (tAnd tA tB'):=by
 intro wh zc s σ H Q I h;refine isTrue_and (Bh (ha zc s σ H _ I h) λc s1 ⟨H1,I1,q1⟩=> ?_);cases c with
 |true=>exact hb wh zc s1 σ H1 Q I1 q1
 |false=>exact⟨H1,I1,q1⟩
def ei_9(ha:PT X a tA)(hb:PW X (.BoolOp .Or (b::Ew) pos) tB'):PW X (.BoolOp .Or (a::b::Ew) pos) (tOr tA tB'):=by
 intro wh zc s σ H Q I h;refine isTrue_or (Bh (ha zc s σ H _ I h) λc s1 ⟨H1,I1,q1⟩=> ?_);cases c with
 |true=>exact⟨H1,I1,q1⟩
 |false=>exact hb wh zc s1 σ H1 Q I1 q1
def ea_7(ha:PT X a tA):PT X (.UnaryOp .Not a pos) (tNot tA):=by
 intro zc s σ H Q I h;exact isTrue_not (ha zc s σ H (λc H1=>Q (!c) H1) I h)
def ej_0(ta tb:TE):TE:=λ σ H Q=>ta σ H λx H1=>∃c,x=.bl c/\if c=true then tb σ H1 Q else Q (.bl false) H1
def ej_1(ta:TE):TE:=λ σ H Q=>ta σ H λx H1=>∃c,x=.bl c/\Q (.bl (!c)) H1
def ea_8{op}{t:TE}(h:PE X a t):PE X (.BoolOp op [a] pos) t:=λzc s σ H Q I hw=>BoolOp_one (h zc s σ H Q I hw)
def ea_9(ha:PE X a ta)(hb:PE X (.BoolOp .And (b::Ew) pos) tb):PE X (.BoolOp .And (a::b::Ew) pos) (ej_0 ta tb):=by
 intro zc s σ H Q I h;refine BoolOp_and (Bh (ha zc s σ H _ I h) λv s1 ⟨x,H1,I1,r1,q1⟩=> ?_);obtain⟨c,rfl,q1⟩:=q1;cases r1;refine wpAny_truthy_bool ?_;cases c with
 |true=>exact hb zc s1 σ H1 Q I1 q1
 |false=>exact⟨.bl false,H1,I1,rfl,q1⟩
def eb_0(ha:PE X a ta):PE X (.UnaryOp .Not a pos) (ej_1 ta):=by
 intro zc s σ H Q I h;refine UnaryOp_ (Bh (ha zc s σ H _ I h) λv s1 ⟨x,H1,I1,r1,q1⟩=> ?_);obtain⟨c,rfl,q1⟩:=q1;cases r1;exact not_of (wpAny_truthy_bool ⟨.bl (!c),H1,I1,rfl,q1⟩)
def tIf(t:TT)(ta tb:TE):TE:=λ σ H Q=>t σ H λc H1=>if c=true then ta σ H1 Q else tb σ H1 Q
def dc_6{c:Expr}(hc:PT X c tA)(ha:PE X a ta)(hb:PE X b tb):PE X (.IfExp c a b pos) (tIf tA ta tb):=by
 intro zc s σ H Q I h;refine wpAny_IfExp (Bh (hc zc s σ H _ I h) λd s1 ⟨H1,I1,q1⟩=> ?_);cases d with
 |true=>exact ha zc s1 σ H1 Q I1 q1
 |false=>exact hb zc s1 σ H1 Q I1 q1
end
def SqL(K:Frag)(H:Hp)(a:Addr)(xs:List V):Prop:=
 Rd H a (.lst xs)\/
  ∃(o:Obj) (its:Array Value) (n:Nat),K.lookup a=some o/\o.cls=.type "list" /\o.dict=none/\o.data=.seq its n/\its.size<=sizeLine/\Vals xs its.toList
def SqT(K:Frag)(H:Hp)(a:Addr)(xs:List V):Prop:=
 Rd H a (.tup xs)\/
  ∃(o:Obj) (its:Array Value) (n:Nat),K.lookup a=some o/\o.cls=.type "tuple" /\o.data=.seq its n/\its.size<=sizeLine/\Vals xs its.toList
def absV:Value->Option V
 | .none=>some .non
 | .bool b=>some (.bl b)
 | .int i _=>some (.int i)
 | .str x _=>some (.str x)
 | .bytes b _=>some (.byt b)
 | .float b _=>some (.flt b)
 | .ref a=>some (.ref a)
 | .type n=>some (.ty n)
 |_=>none
def RelV.abs{x:V}{u:Value}(r:RelV x u):absV u=some x:=by
 cases x with
 |non=>cases r;rfl
 |bl _=>cases r;rfl
 |int _=>obtain⟨t,rfl⟩:=r;rfl
 |str _=>obtain⟨t,rfl⟩:=r;rfl
 |byt _=>obtain⟨t,rfl⟩:=r;rfl
 |flt _=>obtain⟨t,rfl⟩:=r;rfl
 |ref _=>cases r;rfl
 |ty _=>cases r;rfl
theorem RelV.inj{x y:V}{u:Value}(r:RelV x u)(q:RelV y u):x=y:=Option.some.inj (r.abs.symm.trans q.abs)
theorem Vals.inj:∀{xs ys:List V} {us:List Value},Vals xs us->Vals ys us->xs=ys
 |_,_,_,.nil,.nil=>rfl
 |_,_,_,.cons r t,.cons r' t'=>by rw [r.inj r',Vals.inj t t']
section
variable{X:Cx}{zc:List (Addr×Obj)}{σ:St}{H:Hp}{s:Shared}{a:Addr}{xs ys:List V}
def SqL.of{K:Frag}(h:H a=some (.lst xs)):SqL K H a xs:=.inl (.inl h)
def SqT.of{K:Frag}(h:H a=some (.tup xs)):SqT K H a xs:=.inl (.inl h)
def Inv.list(I:Inv X zc σ H s)(h:SqL X.K H a xs):∃its:List Value,Vals xs its/\PlainL s.heap a its.toArray/\xs.length<=sizeLine:=by
 rcases h with h|⟨o,its,n,hk,hc,hd,hs,hz,r⟩
 ·obtain⟨z,its,n,r,e⟩:=h.ok I.hok;exact⟨its,r,⟨_,n,e,rfl,rfl,rfl⟩,z⟩
 ·refine⟨its.toList,r,⟨o,n,I.kIn a o hk,hc,hd,by simpa using hs⟩, ?_⟩;have e:=r.length;simp only [Array.length_toList] at e;omega
def Inv.tuple(I:Inv X zc σ H s)(h:SqT X.K H a xs):∃its:List Value,Vals xs its/\IsTup s.heap a its.toArray/\xs.length<=sizeLine:=by
 rcases h with h|⟨o,its,n,hk,hc,hs,hz,r⟩
 ·obtain⟨z,its,r,p⟩:=h.ok I.hok;exact⟨its,r,p,z⟩
 ·refine⟨its.toList,r,⟨o,I.kIn a o hk,hc,n,by simpa using hs⟩, ?_⟩;have e:=r.length;simp only [Array.length_toList] at e;omega
def Inv.list_inj(I:Inv X zc σ H s)(h:SqL X.K H a xs)(h':SqL X.K H a ys):xs=ys:=by
 obtain⟨its,r,⟨o,n,e,_,_,d⟩,_⟩:=I.list h;obtain⟨its',r',⟨o',n',e',_,_,d'⟩,_⟩:=I.list h';rw [e] at e';cases e';rw [d] at d';injection d' with d1 _
 have:its=its':=by simpa using congrArg Array.toList d1
 subst this;exact r.inj r'
def Inv.tuple_inj(I:Inv X zc σ H s)(h:SqT X.K H a xs)(h':SqT X.K H a ys):xs=ys:=by
 obtain⟨its,r,⟨o,e,_,n,d⟩,_⟩:=I.tuple h;obtain⟨its',r',⟨o',e',_,n',d'⟩,_⟩:=I.tuple h';rw [e] at e';cases e';rw [d] at d';injection d' with d1 _
 have:its=its':=by simpa using congrArg Array.toList d1
 subst this;exact r.inj r'
end
abbrev Cx.wish(X:Cx)(E:Value->Shared->Prop):Cx:={X with xe:=E}
abbrev Cx.nox(X:Cx):Cx:=X.wish λ_ _=>False
theorem Cx.Ok.wish{X:Cx}(ok:X.Ok)(E:Value->Shared->Prop):(X.wish E).Ok:=
 ⟨ok.mod,ok.kind,ok.glob,ok.blt,ok.above,ok.inj,ok.has,ok.cab,ok.hd,ok.frames,ok.stk,ok.exf,ok.bs,ok.bsz,ok.noex,ok.exfs,ok.funs,ok.frf⟩
def Cx.Ok.unwish{X:Cx}{E:Value->Shared->Prop}(ok:(X.wish E).Ok):X.Ok:=
 ⟨ok.mod,ok.kind,ok.glob,ok.blt,ok.above,ok.inj,ok.has,ok.cab,ok.hd,ok.frames,ok.stk,ok.exf,ok.bs,ok.bsz,ok.noex,ok.exfs,ok.funs,ok.frf⟩
section
variable{X:Cx}{zc:List (Addr×Obj)}{σ:St}{H:Hp}{s:Shared}{E:Value->Shared->Prop}
theorem Inv.wish(I:Inv X zc σ H s)(E:Value->Shared->Prop):Inv (X.wish E) zc σ H s:=⟨I.ok.wish E,I.os,I.bare,I.base,I.loc,I.cell,I.free,I.freeC,I.pin,I.hok,I.len⟩
theorem Inv.unwish(I:Inv (X.wish E) zc σ H s):Inv X zc σ H s:=⟨I.ok.unwish,I.os,I.bare,I.base,I.loc,I.cell,I.free,I.freeC,I.pin,I.hok,I.len⟩
theorem SP.unwish{D:Ends}{f:Flow}{s':Shared}(h:SP (X.wish E) zc D f s'):SP X zc D f s':=by
 cases f with
 |next=>obtain⟨σ',H',I,q⟩:=h;exact⟨σ',H',I.unwish,q⟩
 |brk=>obtain⟨σ',H',I,q⟩:=h;exact⟨σ',H',I.unwish,q⟩
 |cont=>obtain⟨σ',H',I,q⟩:=h;exact⟨σ',H',I.unwish,q⟩
 |ret u=>obtain⟨v,σ',H',I,r,q⟩:=h;exact⟨v,σ',H',I.unwish,r,q⟩
theorem PE.nox{e:Expr}{t:TE}(h:PE X.nox e t):PE X e t:=λzc s σ H Q I hw=>
 wpAny_mono (h zc s σ H Q (I.wish _) hw) (λ_ _ ⟨v,H',I',r,q⟩=>⟨v,H',I'.unwish,r,q⟩) λ_ _ z=>False.elim z
end
section
variable{X:Cx}{st:Stmt}{Ew:List Stmt}{t u:TS}{e:Expr}{te:TE}{pos:Pos}
def ej_2:TS:=λD σ H=>D.nx σ H
def tSeq(t u:TS):TS:=λD σ H=>t {D with nx:=u D} σ H
def dp_1:PSs X [] ej_2:=λ_ _ σ H _ I h=>wpAny_execs_nil ⟨σ,H,I,h⟩
def dc_7(h1:PS X st t)(h2:PSs X Ew u):PSs X (st::Ew) (tSeq t u):=by
 intro zc s σ H D I h;refine wpAny_execs_cons (Bh (h1 zc s σ H {D with nx:=u D} I h) λf s1 q=> ?_);cases f with
 |next=>
  obtain⟨σ',H',I',q⟩:=q;exact h2 zc s1 σ' H' D I' q
 |ret v=>exact q
 |brk=>exact q
 |cont=>exact q
def aq_7(h1:PS X st t):PSs X [st] t:=by
 intro zc s σ H D I h;refine wpAny_execs_cons (Bh (h1 zc s σ H D I h) λf s1 q=> ?_);cases f with
 |next=>exact wpAny_execs_nil q
 |ret v=>exact q
 |brk=>exact q
 |cont=>exact q
def Inv.quiet{zc:List (Addr×Obj)}{σ:St}{H:Hp}{s:Shared}(I:Inv X zc σ H s):interactive X.env=false:=by simp [interactive,I.ok.kind]
def ej_3(te:TE):TS:=λD σ H=>te σ H λ_ H1=>D.nx σ H1
def ak_8(he:PE X e te)(hs:swapsWith e none pos.line X.env=pure false:=by rfl):PS X (.Expr e pos) (ej_3 te):=by
 intro zc s σ H D I h;exact wpAny_Expr_any (Bh (he zc s σ H _ I h) λv s1 ⟨x,H1,I1,r1,q1⟩=>⟨σ,H1,I1,q1⟩) I.quiet hs
def tRet(te:TE):TS:=λD σ H=>te σ H D.rt
def cj_5(he:PE X e te):PS X (.Return (some e) pos) (tRet te):=by
 intro zc s σ H D I h;exact wpAny_Return_some (Bh (he zc s σ H _ I h) λv s1 ⟨x,H1,I1,r1,q1⟩=>⟨x,σ,H1,I1,r1,q1⟩)
def tIfS(c:TT)(t u:TS):TS:=λD σ H=>c σ H λb H1=>if b=true then t D σ H1 else u D σ H1
def ej_4{c:Expr}{a b:List Stmt}{tc:TT}(hc:PT X c tc)(ha:PSs X a t)(hb:PSs X b u):PS X (.If c a b pos) (tIfS tc t u):=by
 intro zc s σ H D I h;refine wpAny_If (Bh (hc zc s σ H _ I h) λd s1 ⟨H1,I1,q1⟩=> ?_);cases d with
 |true=>exact ha zc s1 σ H1 D I1 q1
 |false=>exact hb zc s1 σ H1 D I1 q1
end
abbrev TG:=V->St->Hp->(St->Hp->Prop)->Prop
abbrev TGs:=List V->St->Hp->(St->Hp->Prop)->Prop
def PG(X:Cx)(target:Expr)(t:TG):Prop:=
 ∀(zc:List (Addr×Obj)) (s:Shared) (σ:St) (H:Hp) (v:V) (u:Value) (Q:St->Hp->Prop),Inv X zc σ H s->RelV v u->t v σ H Q->
  wpAny (model X.prog X.w) X.A (assign target X.env u) (λ_ s'=>∃σ' H',Inv X zc σ' H' s'/\Q σ' H') X.xe s
def PGs(X:Cx)(ts:List Expr)(t:TGs):Prop:=
 ∀(zc:List (Addr×Obj)) (s:Shared) (σ:St) (H:Hp) (vs:List V) (us:List Value) (Q:St->Hp->Prop),Inv X zc σ H s->Vals vs us->t vs σ H Q->
  wpAny (model X.prog X.w) X.A (assignInOrder ((assignEach ts X.env).map (·.2)) us) (λ_ s'=>∃σ' H',Inv X zc σ' H' s'/\Q σ' H') X.xe s
abbrev TSet:=V->V->V->Hp->(Hp->Prop)->Prop
def PSet(X:Cx)(t:TSet):Prop:=
 ∀(zc:List (Addr×Obj)) (s:Shared) (σ:St) (H:Hp) (o i v:V) (ov iv u:Value) (Q:Hp->Prop),Inv X zc σ H s->RelV o ov->RelV i iv->RelV v u->t o i v H Q->
  wpAny (model X.prog X.w) X.A (setItem ov iv u) (λ_ s'=>∃H',Inv X zc σ H' s'/\Q H') X.xe s
section
variable{X:Cx}{pos:Pos}
def cp_9(i:Nat):TG:=λv σ H Q=>Q (σ.set i (some v)) H
def aq_8{i:Nat}{x:Str}(hN:X.N.Nodup)(hi:X.N[i]? =some x)(hx:Loc X.env.scope x)(hf:X.fn x=true\/X.env.scope.names.lookup x=some .local:=by first|exact .inl rfl|exact .inr rfl|assumption):PG X (.Name x pos) (cp_9 i):=by
 intro zc s σ H v u Q I r h;exact wpAny_assign_Name (be_0 I hN hi hx r (λs' I'=>⟨_,H,I',h⟩) hf)
def gNil:TGs:=λvs σ H Q=>vs= []/\Q σ H
def ej_6(t:TG)(u:TGs):TGs:=λvs σ H Q=>∃v r,vs=v::r/\t v σ H λ σ' H'=>u r σ' H' Q
def cq_0:PGs X [] gNil:=by
 intro zc s σ H vs us Q I r h;obtain⟨e,h⟩:=h;subst e;cases r;exact assignInOrder_nil ⟨σ,H,I,h⟩
def be_1{e:Expr}{es:List Expr}{t:TG}{u:TGs}(h1:PG X e t)(h2:PGs X es u)
  (hs:(assignEach (e::es) X.env).map (·.2)=assign e X.env::(assignEach es X.env).map (·.2):=by rfl):PGs X (e::es) (ej_6 t u):=by
 intro zc s σ H vs us Q I r h;obtain⟨v,vr,e1,h⟩:=h;subst e1;cases r with
 |cons r rr=>
  rw [hs];refine assignInOrder_cons (Bh (h1 zc s σ H _ _ _ I r h) λ_ s1 ⟨σ1,H1,I1,q1⟩=> ?_);exact h2 zc s1 σ1 H1 _ _ Q I1 rr q1
def gTup(K:Frag)(n:Nat)(t:TGs):TG:=λv σ H Q=>∃a xs,v=.ref a/\SqT K H a xs/\xs.length=n/\t xs σ H Q
def dc_8{es:List Expr}{k:Nat}{t:TGs}{n:Nat}(hc:X.calm=true)(h:PGs X es t)
  (hn:(assignEach es X.env).length=n:=by rfl) (hst:(assignEach es X.env).findIdx? (·.1)=none:=by rfl):PG X (.Tuple es k pos) (gTup X.K n t):=by
 intro zc s σ H v u Q I r hw;obtain⟨a,xs,e1,hq,hl,hw⟩:=hw;subst e1;cases r;obtain⟨its,rv,ht,hz⟩:=I.tuple hq;refine assign_Tuple_tuple (I.ok.hd hc) ht (by simp [hn,<-hl,rv.length]) hst λh' hx=> ?_;have I1:Inv X zc σ H {s with heap:=h'}:=I.kept (t':=s.toks) λb o e=>hx b o (Nat.ne_of_lt (Heap.lt_size e)) e;exact h zc _ σ H xs _ Q I1 (by simpa using rv) hw
def gSub(to ti:TE)(t:TSet):TG:=λv σ H Q=>to σ H λo H1=>ti σ H1 λi H2=>t o i v H2 λH3=>Q σ H3
def dc_9{o i:Expr}{to ti:TE}{t:TSet}(ho:PE X o to)(hi:PE X i ti)(hs:PSet X t)
  (ha:∀v,assign (.Subscript o i pos) X.env v=(do
   let ov<-holding [v] (eval o X.env)
   let iv<-holding [v,ov] (eval i X.env)
   standAt pos
   holding [v,ov,iv] (setItem ov iv v)
   release [v,ov,iv] []):=by intro _;rfl):PG X (.Subscript o i pos) (gSub to ti t):=by
 intro zc s σ H v u Q I r h;rw [ha];refine wpAny_bind (wpAny_holding (Bh (ho zc s σ H _ I h) λov s1 ⟨x,H1,I1,r1,q1⟩=> ?_));refine wpAny_bind (wpAny_holding (Bh (hi zc s1 σ H1 _ I1 q1) λiv s2 ⟨y,H2,I2,r2,q2⟩=> ?_));refine wpAny_bind (wpAny_standAt (wpAny_bind (wpAny_holding (Bh (hs zc s2 σ H2 x y v ov iv u _ I2 r1 r2 r q2) λ_ s3 ⟨H3,I3,q3⟩=> ?_))));exact wpAny_release ⟨σ,H3,I3,q3⟩
def tAsg(te:TE)(g:TG):TS:=λD σ H=>te σ H λx H1=>g x σ H1 D.nx
def cj_6{tg e:Expr}{te:TE}{g:TG}(he:PE X e te)(hg:PG X tg g)(hs:swapsWithSole [tg] e pos.line X.env=pure false:=by rfl)(hw:swappedStores [tg] e X.env=pure none:=by rfl)
  (h1:(assignEach [tg] X.env).map (·.2)= [assign tg X.env]:=by rfl):PS X (.Assign [tg] e pos) (tAsg te g):=by
 intro zc s σ H D I h;refine wpAny_Assign_stores (Bh (he zc s σ H _ I h) λv s1 ⟨x,H1,I1,r1,q1⟩=> ?_) hs hw;rw [h1];exact Bh (hg zc s1 σ H1 x v _ I1 r1 q1) λ_ s2 q=>q
def cj_7{i:Nat}{x:Str}{e:Expr}{te:TE}{pos':Pos}(hN:X.N.Nodup)(hi:X.N[i]? =some x)(hx:Loc X.env.scope x)(he:PE X e te)(hs:swapsWith e (some (.Name x pos')) pos.line X.env=pure false:=by rfl)(hf:X.fn x=true\/X.env.scope.names.lookup x=some .local:=by first|exact .inl rfl|exact .inr rfl|assumption):
  PS X (.Assign [.Name x pos'] e pos) (tAsg te (cp_9 i)):=by
 intro zc s σ H D I h;refine wpAny_Assign_Name (Bh (he zc s σ H _ I h) λv s1 ⟨y,H1,I1,r1,q1⟩=> ?_) hs;exact be_0 I1 hN hi hx r1 (λs2 I2=>⟨_,H1,I2,q1⟩) hf
end
section
variable{X:Cx}{pos:Pos}
def eb_2(c:TT)(tb:TS):TS:=λD σ H=>∃W:Nat->St->Hp->Prop,(∃m,W m σ H)/\∀m σ H,W m σ H->
 c σ H λb H1=>if b=true then∃N:St->Hp->Prop,(∀σ' H',N σ' H'->∃m',m' < m/\W m' σ' H')/\tb {D with nx:=N,ct:=N,bk:=D.nx} σ H1 else D.nx σ H1
def dd_0{c:Expr}{body:List Stmt}{tc:TT}{tb:TS}(hp:PassesOwn (model X.prog X.w) X.A X.env X.xe)(hc:PT X c tc)(hb:PSs X body tb):PS X (.While c body [] pos) (eb_2 tc tb):=by
 intro zc s σ H D I h;obtain⟨W,⟨m0,w0⟩,turn⟩:=h;refine wpAny_While (codeAny_whileLoop (λn s'=>∃σ' H',Inv X zc σ' H' s'/\W n σ' H') ?_ m0 ⟨σ,H,I,w0⟩)
 rintro n s1 ⟨σ1,H1,I1,w1⟩
 refine wpAny_passesOwn hp (Bh (hc zc s1 σ1 H1 _ I1 (turn n σ1 H1 w1)) λb s2 ⟨H2,I2,q2⟩=> ?_);cases b with
 |true=>
  obtain⟨N,hN,q2⟩:=q2;rw [if_pos rfl];refine wpAny_passesOwn hp (Bh (hb zc s2 σ1 H2 _ I2 q2) λf s3 q3=> ?_);cases f with
  |next=>
   obtain⟨σ3,H3,I3,n3⟩:=q3;obtain⟨m',hm,w3⟩:=hN σ3 H3 n3;exact⟨m',hm,σ3,H3,I3,w3⟩
  |cont=>
   obtain⟨σ3,H3,I3,n3⟩:=q3;obtain⟨m',hm,w3⟩:=hN σ3 H3 n3;exact⟨m',hm,σ3,H3,I3,w3⟩
  |brk=>exact q3
  |ret v=>exact q3
 |false=>
  rw [if_neg Bool.false_ne_true];exact wpAny_execs_nil ⟨σ1,H2,I2,q2⟩
end
structure It where
 go:Nat->Hp->Prop
 yld:Nat->Hp->V->Hp->Prop
 stop:Nat->Hp->Prop
def Eh(X:Cx)(zc:List (Addr×Obj))(H:Hp)(b:Addr):Prop:=
 H b=none/\b≠X.env.locals/\b∉X.fs/\(b∈X.ex\/X.s₀.heap.objs.size<=b)/\(∀x c,X.env.cells.lookup x=some c->c≠b)/\∀p∈X.pn ++ zc,p.1≠b
def Inv.fpOk{X:Cx}{zc:List (Addr×Obj)}{σ:St}{H H':Hp}{s:Shared}{b:Addr}(I:Inv X zc σ H s)(hb:s.heap.objs.size<=b)(hn:H' b=none):Eh X zc H' b:=by
 refine⟨hn,Nat.ne_of_gt (Nat.lt_of_lt_of_le I.lt hb),I.nofs hb,.inr (Nat.le_trans I.sz hb),λx c e z=> ?_,λp hp z=> ?_⟩
 ·obtain⟨v,q⟩:=I.cell x c e;exact absurd (Nat.lt_of_lt_of_le q.lt (by rw [z];exact hb)) (Nat.lt_irrefl _)
 ·exact absurd (Nat.lt_of_lt_of_le (Heap.lt_size (I.pin p hp).1) (by rw [z];exact hb)) (Nat.lt_irrefl _)
structure Turn(P:Program)(w:World)(K:Frag)(tg:Expr)(J:It)(fp:List Addr)(it:Addr)(tn:Nat->Heap->Prop):Prop where
 mem:it∈fp
 obj:∀i h,tn i h->∀b∈fp,∃o,h.get? b=some o/\∀v,o.data≠ .cell v
 keep:∀i h h',tn i h->(∀b∈fp,∀o,h.get? b=some o->h'.get? b=some o)->tn i h'
 item:∀(X:Cx),X.prog=P->X.w=w->X.K=K->X.calm=true->∀(i:Nat) (zc:List (Addr×Obj)) (s:Shared) (σ:St) (H:Hp) (E:Value->Shared->Prop),Inv X zc σ H s->(∀b∈fp,Eh X zc H b)->tn i s.heap->J.go i H->
  wpAny (model P w) X.A (pyNext (.ref it)) (λr s1=>∃u,r=some u/\
   wpAny (model P w) X.A (letOwnedTupleGo tg (.ref it) u) (λ_ s2=>∃x H',Inv X zc σ H' s2/\RelV x u/\J.yld i H x H'/\tn (i + 1) s2.heap/\∀b∈fp,H' b=none) E s1) E s
 done:∀(X:Cx),X.prog=P->X.w=w->X.K=K->X.calm=true->∀(i:Nat) (zc:List (Addr×Obj)) (s:Shared) (σ:St) (H:Hp) (E:Value->Shared->Prop),Inv X zc σ H s->(∀b∈fp,Eh X zc H b)->tn i s.heap->J.stop i H->
  wpAny (model P w) X.A (pyNext (.ref it)) (λr s1=>r=none/\Inv X zc σ H s1) E s
 self:∀(A:Around) (i:Nat) (s:Shared) (Q:Value->Shared->Prop) (E:Value->Shared->Prop),tn i s.heap->Q (.ref it) s->wpAny (model P w) A (pyIter (.ref it)) Q E s
abbrev TI:=St->Hp->(It->Hp->Prop)->Prop
def PIE(X:Cx)(zc:List (Addr×Obj))(σ:St)(tg:Expr)(R:It->Hp->Prop)(itv:Value)(s2:Shared):Prop:=
 ∃(it:Addr) (fp:List Addr) (tn:Nat->Heap->Prop) (J:It) (H':Hp),itv=.ref it/\Inv X zc σ H' s2/\Turn X.prog X.w X.K tg J fp it tn/\tn 0 s2.heap/\(∀b∈fp,Eh X zc H' b)/\R J H'
def PI(X:Cx)(tg iter:Expr)(wi:TI):Prop:=
 ∀(zc:List (Addr×Obj)) (s:Shared) (σ:St) (H:Hp) (R:It->Hp->Prop),Inv X zc σ H s->wi σ H R->
  wpAny (model X.prog X.w) X.A (eval iter X.env) (λv s1=>wpAny (model X.prog X.w) X.A (pyIter v) (PIE X zc σ tg R) X.xe s1) X.xe s
def bn_2{M:Model}{A:Around}{E:Value->Shared->Prop}{s:Shared}{tg:Expr}{it:Addr}{u:Value}{o:Obj}{n:String}{vs:Array Value}{Q:Unit->Shared->Prop}(ho:s.heap.get? it=some o)(hc:o.cls=.type n)(hd:o.data=.fields vs)
  (hn: ["enumerate","zip","dict_itemiterator","dict_reverseitemiterator","odict_iterator","itertools.zip_longest","itertools.pairwise"].contains n=false) (hQ:Q () s):wpAny M A (letOwnedTupleGo tg (.ref it) u) Q E s:=by
 unfold letOwnedTupleGo;cases tg <;> first
  |exact wpAny_pure hQ
  | (cases u <;> first
    |exact wpAny_pure hQ
    | (refine wpAny_bind (wpAny_load ho ?_)
       rw [hc,hd];show wpAny M A (if(["enumerate","zip","dict_itemiterator","dict_reverseitemiterator","odict_iterator","itertools.zip_longest","itertools.pairwise"].contains n && vs[0]? ==some (rawInt _))=true then _ else _) Q E s;rw [if_neg (by intro h;rw [hn,Bool.false_and] at h;cases h)];exact wpAny_pure hQ))
def Itl(K:Frag)(a:Addr):It:=
 ⟨λi H=>∃xs x,SqL K H a xs/\xs[i]? =some x,λi H x H'=>H'=H/\∀xs,SqL K H a xs->xs[i]? =some x,λi H=>∃xs,SqL K H a xs/\xs.length<=i⟩
def Itt(K:Frag)(a:Addr):It:=
 ⟨λi H=>∃xs x,SqT K H a xs/\xs[i]? =some x,λi H x H'=>H'=H/\∀xs,SqT K H a xs->xs[i]? =some x,λi H=>∃xs,SqT K H a xs/\xs.length<=i⟩
def Itr(lo:Int)(n:Nat):It:=⟨λi _=>i < n,λi H x H'=>H'=H/\x=.int (lo + i),λi _=>n<=i⟩
def cv_6{P:Program}{w:World}{K:Frag}{tg:Expr}(a it:Addr):Turn P w K tg (Itl K a) [it] it (λi h=>h.IsListIter it a i) where
 mem:=by simp
 obj:=λi h st b hb=>by
  have e:b=it:=by simpa using hb
  subst e;obtain⟨o,e,c,d⟩:=st;exact⟨o,e,λv z=>by rw [d] at z;cases z⟩
 keep:=λi h h' st k=>st.at λo e=>k it (by simp) o e
 item:=by
  intro X hP hw hK hc i zc s σ H E I hf st hg;subst hP hw hK;obtain⟨xs,x,hq,hx⟩:=hg;obtain⟨its,rv,p,hz⟩:=I.list hq;obtain⟨u,hu,ru⟩:=rv.get hx;obtain⟨f0,f1,f2,f3,f4,f5⟩:=hf it (by simp);refine wpAny_pyNext_list_item st p.isList (x:=u) (by simpa using hu) λh' st' sb=> ?_;have I1:Inv X zc σ H {s with heap:=h'}:=I.turned (t':=s.toks) (λb o hb e=>(sb.2 b hb).trans e) f0 f1 f3 f4 f5;obtain⟨o,e,c,d⟩:=id st';exact⟨u,rfl,bn_2 (s:={s with heap:=h'}) e c d (by decide) ⟨x,H,I1,ru,⟨rfl,λys hy=>by rw [I.list_inj hy hq];exact hx⟩,st',λb hb=>(hf b hb).1⟩⟩
 done:=by
  intro X hP hw hK hc i zc s σ H E I hf st hg;subst hP hw hK;obtain⟨xs,hq,hx⟩:=hg;obtain⟨its,rv,p,hz⟩:=I.list hq;obtain⟨f0,f1,f2,f3,f4,f5⟩:=hf it (by simp);have hl:=rv.length;exact wpAny_pyNext_list_end (I.ok.hd hc) st p.isList (by simp;omega) λh' eb=>⟨rfl,I.turned (t':=s.toks) (λb o hb e=>eb b o hb e) f0 f1 f3 f4 f5⟩
 self:=λ_ _ _ _ _ st h=>wpAny_pyIter_listiter st h
def cj_8{P:Program}{w:World}{K:Frag}{tg:Expr}(a it:Addr):Turn P w K tg (Itt K a) [it] it (λi h=>h.IsTupleIter it a i) where
 mem:=by simp
 obj:=λi h st b hb=>by
  have e:b=it:=by simpa using hb
  subst e;obtain⟨o,e,c,d⟩:=st;exact⟨o,e,λv z=>by rw [d] at z;cases z⟩
 keep:=λi h h' st k=>st.at λo e=>k it (by simp) o e
 item:=by
  intro X hP hw hK hc i zc s σ H E I hf st hg;subst hP hw hK;obtain⟨xs,x,hq,hx⟩:=hg;obtain⟨its,rv,p,hz⟩:=I.tuple hq;obtain⟨u,hu,ru⟩:=rv.get hx;obtain⟨f0,f1,f2,f3,f4,f5⟩:=hf it (by simp);refine wpAny_pyNext_tuple_item st (show s.heap.IsTuple a its.toArray from p) (x:=u) (by simpa using hu) λh' st' sb=> ?_;have I1:Inv X zc σ H {s with heap:=h'}:=I.turned (t':=s.toks) (λb o hb e=>(sb.2 b hb).trans e) f0 f1 f3 f4 f5;obtain⟨o,e,c,d⟩:=id st';exact⟨u,rfl,bn_2 (s:={s with heap:=h'}) e c d (by decide) ⟨x,H,I1,ru,⟨rfl,λys hy=>by rw [I.tuple_inj hy hq];exact hx⟩,st',λb hb=>(hf b hb).1⟩⟩
 done:=by
  intro X hP hw hK hc i zc s σ H E I hf st hg;subst hP hw hK;obtain⟨xs,hq,hx⟩:=hg;obtain⟨its,rv,p,hz⟩:=I.tuple hq;obtain⟨f0,f1,f2,f3,f4,f5⟩:=hf it (by simp);have hl:=rv.length;exact wpAny_pyNext_tuple_end (I.ok.hd hc) st (show s.heap.IsTuple a its.toArray from p) (by simp;omega) λh' eb=>⟨rfl,I.turned (t':=s.toks) (λb o hb e=>eb b o hb e) f0 f1 f3 f4 f5⟩
 self:=λ_ _ _ _ _ st h=>wpAny_pyIter_tupleiter st h
def cj_9{P:Program}{w:World}{K:Frag}{tg:Expr}(it:Addr)(lo:Int)(n:Nat):Turn P w K tg (Itr lo n) [it] it (λi h=>IsRangeIter h it (lo + (i:Nat) * 1) ((n:Int) - (i:Nat)) 1) where
 mem:=by simp
 obj:=λi h st b hb=>by
  have e:b=it:=by simpa using hb
  subst e;exact⟨_,st,λv z=>by
   have z':Data.fields _=Data.cell v:=z;cases z'⟩
 keep:=λi h h' st k=>k it (by simp) _ st
 item:=by
  intro X hP hw hK hc i zc s σ H E I hf st hg;subst hP hw hK;obtain⟨f0,f1,f2,f3,f4,f5⟩:=hf it (by simp);have W:=Walks.range (prog:=X.prog) (w:=X.w) (I.ok.hd hc) it lo 1 n;refine W.item i s _ _ hg st λv h' tk hv st' kk=> ?_;obtain⟨t,rfl⟩:=hv;have I1:Inv X zc σ H {s with heap:=h',toks:=tk}:=I.turned (λb o hb e=>kk b o (by simpa using hb) e) f0 f1 f3 f4 f5;refine⟨_,rfl,bn_2 (s:={s with heap:=h',toks:=tk}) (n:= "range_iterator") st' rfl rfl (by decide) ⟨.int (lo + i),H,I1,⟨t, ?_⟩,⟨rfl,rfl⟩,st',λb hb=>(hf b hb).1⟩⟩;rw [Int.mul_one]
 done:=by
  intro X hP hw hK hc i zc s σ H E I hf st hg;subst hP hw hK;obtain⟨f0,f1,f2,f3,f4,f5⟩:=hf it (by simp);exact wpAny_pyNext_range_end (I.ok.hd hc) st (by have:n<=i:=hg;omega) λh' eb=>⟨rfl,I.turned (t':=s.toks) (λb o hb e=>eb b o hb e) f0 f1 f3 f4 f5⟩
 self:=λ_ _ _ _ _ st h=>wpAny_pyIter_rangeiter st h
section
variable{X:Cx}{tg:Expr}
def dd_1{zc:List (Addr×Obj)}{σ:St}{H:Hp}{s:Shared}{R:It->Hp->Prop}{E:Value->Shared->Prop}{lo hi:Int}{t u v:Tok}{tk:Nat}(I:Inv X zc σ H s)(h1: -(2 ^ 62)<=lo)(h2:lo < 2 ^ 62)(h3: -(2 ^ 62)<=hi)(h4:hi < 2 ^ 62)
  (q:R (Itr lo (hi - lo).toNat) H):wpAny (model X.prog X.w) X.A (pyIter (.ref s.heap.objs.size)) (PIE X zc σ tg R) E {s with heap:=s.heap.push {cls:=.type "range",data:=.fields #[.int lo t,.int hi u,.int 1 v]},toks:=tk}:=by
 refine wpAny_pyIter_range (IsRange.new ..) (small_one h1 h2 h3 h4) ?_;have I1:Inv X zc σ H {s with heap:=s.heap.push {cls:=.type "range",data:=.fields #[.int lo t,.int hi u,.int 1 v]},toks:=tk}:=I.kept λb o e=>Heap.get?_push_of_some _ e;refine⟨(s.heap.push {cls:=.type "range",data:=.fields #[.int lo t,.int hi u,.int 1 v]}).objs.size,[(s.heap.push {cls:=.type "range",data:=.fields #[.int lo t,.int hi u,.int 1 v]}).objs.size],_,_,H,rfl,
  I1.kept (t':=tk) λb o e=>Heap.get?_push_of_some _ e,cj_9 _ lo (hi - lo).toNat, ?_,λb hb=> ?_,q⟩
 ·have e1:lo + ((0:Nat):Int) * 1=lo:=by simp
  have e2:(((hi - lo).toNat:Nat):Int) - ((0:Nat):Int)=Builtin.Range.rangeSize lo hi 1:=by rw [rangeSize_one];split <;> omega
  show IsRangeIter _ _ (lo + ((0:Nat):Int) * 1) ((((hi - lo).toNat:Nat):Int) - ((0:Nat):Int)) 1;rw [e1,e2];exact Heap.get?_push_size _ rfl
 ·have e:b=(s.heap.push {cls:=.type "range",data:=.fields #[.int lo t,.int hi u,.int 1 v]}).objs.size:=by simpa using hb
  subst e;exact I1.fpOk (Nat.le_refl _) (I1.hok.fresh (Nat.le_refl _))
def ej_7(ta:TA):TI:=λ σ H R=>ta σ H λvs H1=>∃j:Int,vs= [.int j]/\ -(2 ^ 62)<=j/\j < 2 ^ 62/\R (Itr 0 j.toNat) H1
def cv_7{a:Expr}{ta:TA}{p pos:Pos}(hg:Gl X "range")(hm:X.mg "range" =none)(ha:PA X [a] ta)(hs:starEach [a] X.env= [(false,eval a X.env)]:=by rfl):PI X tg (.Call (.Name "range" p) [a] [] pos) (ej_7 ta):=by
 intro zc s σ H R I h;refine Call_ (ae_2 I hg hm boot_range (PyProof.Rows.callWith_type1 (Bh (ha pos zc s σ H _ I h) λus s1 ⟨vs,H1,I1,r1,q1⟩=> ?_) hs rfl));obtain⟨j,e,q1,q2,q⟩:=q1;subst e;cases r1 with
 |cons r rr=>
  cases rr;obtain⟨t,rfl⟩:=r;exact call_range_1 (dd_1 I1 (by omega) (by omega) q1 q2 (by simpa using q))
def tFor(wi:TI)(g:TG)(tb:TS):TS:=λD σ H=>wi σ H λJ H1=>∃W:Nat->Nat->St->Hp->Prop,(∃m,W 0 m σ H1)/\∀i m σ H,W i m σ H->
 (J.stop i H/\D.nx σ H)\/(J.go i H/\∃N:St->Hp->Prop,(∀σ' H',N σ' H'->∃m',m' < m/\W (i + 1) m' σ' H')/\∀x H',J.yld i H x H'->g x σ H' λ σ2 H2=>tb {D with nx:=N,ct:=N,bk:=D.nx} σ2 H2)
def be_2(fp:List Addr)(h:Heap):List (Addr×Obj):=fp.filterMap λb=>(h.get? b).map λo=>(b,o)
def ae_3{fp:List Addr}{h:Heap}{b:Addr}{o:Obj}(hb:b∈fp)(e:h.get? b=some o):(b,o)∈be_2 fp h:=List.mem_filterMap.mpr ⟨b,hb,by rw [e];rfl⟩
def cv_8{fp:List Addr}{h:Heap}{p:Addr×Obj}(hp:p∈be_2 fp h):p.1∈fp/\h.get? p.1=some p.2:=by
 obtain⟨b,hb,e⟩:=List.mem_filterMap.mp hp;cases q:h.get? b with
 |none=>rw [q] at e;cases e
 |some o=>
  rw [q] at e;have e':(b,o)=p:=Option.some.inj e;subst e';exact⟨hb,q⟩
def Inv.pinned{zc:List (Addr×Obj)}{σ:St}{H:Hp}{s:Shared}{fp:List Addr}(I:Inv X zc σ H s)(hf:∀b∈fp,Eh X zc H b)(ho:∀b∈fp,∃o,s.heap.get? b=some o/\∀v,o.data≠ .cell v):Inv X (zc ++ be_2 fp s.heap) σ H s:=
 I.pins_of λp hp=>(List.mem_append.mp hp).elim (λz=>I.pin p (List.mem_append_right _ z)) λz=>by
  obtain⟨hb,e⟩:=cv_8 z;obtain⟨f0,f1,f2,_⟩:=hf p.1 hb;obtain⟨o,e',d⟩:=ho p.1 hb;rw [e] at e';cases e';exact⟨e,f0,f1,f2,d⟩
def Inv.unpinned{zc pl:List (Addr×Obj)}{σ:St}{H:Hp}{s:Shared}(I:Inv X (zc ++ pl) σ H s):Inv X zc σ H s:=I.pins_of λp hp=>I.pin p (List.mem_append_right _ (List.mem_append_left _ hp))
def eb_3{iter:Expr}{body:List Stmt}{wi:TI}{g:TG}{tb:TS}{pos:Pos}(hp:PassesOwn (model X.prog X.w) X.A X.env X.xe)(hc:X.calm=true)(hi:PI X tg iter wi)(hg:PG X tg g)(hb:PSs X body tb)
  (hs:∀x,foldedSetIterable iter X.env x=pure x:=by intro _;rfl):PS X (.For tg iter body [] pos) (tFor wi g tb):=by
 intro zc s σ H D I h;refine wpAny_For (Bh (hi zc s σ H _ I h) λv s1 h1=>Bh h1 λitv s2 h2=> ?_) hs;obtain⟨it,fp,tn,J,H2,e,I2,T,st2,f2,W,⟨m0,w0⟩,turn⟩:=h2;subst e
 
 have cq:∀{H':Hp},(∀b∈fp,H' b=none)->∀b∈fp,Eh X zc H' b:=λhn b hb=>⟨hn b hb,(f2 b hb).2⟩;refine codeAny_forLoop_any (λn s'=>∃i σ' H',Inv X zc σ' H' s'/\tn i s'.heap/\(∀b∈fp,H' b=none)/\W i n σ' H') ?_ m0 ⟨0,σ,H2,I2,st2,λb hb=>(f2 b hb).1,w0⟩
 rintro n s3 ⟨i,σ3,H3,I3,st3,fr3,w3⟩
 rcases turn i n σ3 H3 w3 with⟨stop,qn⟩|⟨go,N,hN,step⟩
 ·refine wpAny_passesOwn hp (Bh (T.done X rfl rfl rfl hc i zc s3 σ3 H3 X.xe I3 (cq fr3) st3 stop) λr s4 ⟨hr,I4⟩=> ?_);subst hr;exact wpAny_execs_nil ⟨σ3,H3,I4,qn⟩
 ·refine wpAny_passesOwn hp (Bh (T.item X rfl rfl rfl hc i zc s3 σ3 H3 X.xe I3 (cq fr3) st3 go) λr s4 ⟨u,hr,h4⟩=> ?_);subst hr;refine wpAny_passesOwn hp (Bh h4 λ_ s5 ⟨x,H5,I5,r5,y5,st5,fr5⟩=> ?_);have I5':=I5.pinned (cq fr5) (T.obj _ _ st5);refine wpAny_passesOwn hp (Bh (hg _ s5 σ3 H5 x u _ I5' r5 (step x H5 y5)) λ_ s6 ⟨σ6,H6,I6,q6⟩=> ?_);refine wpAny_passesOwn hp (Bh (hb _ s6 σ6 H6 _ I6 q6) λf s7 q7=> ?_);have again:∀{σ7:St} {H7:Hp},Inv X (zc ++ be_2 fp s5.heap) σ7 H7 s7->N σ7 H7->∃m,m < n/\∃i σ' H',Inv X zc σ' H' s7/\tn i s7.heap/\(∀b∈fp,H' b=none)/\W i m σ' H':=λ{σ7 H7} I7 n7=>by
   obtain⟨m',hm,w7⟩:=hN σ7 H7 n7;refine⟨m',hm,i + 1,σ7,H7,I7.unpinned,T.keep _ _ _ st5 λb hb o e=>(I7.pin (b,o) (List.mem_append_right _ (List.mem_append_right _ (ae_3 hb e)))).1,λb hb=> ?_,w7⟩;obtain⟨o,e,d⟩:=T.obj _ _ st5 b hb;exact(I7.pin (b,o) (List.mem_append_right _ (List.mem_append_right _ (ae_3 hb e)))).2.1
  cases f with
  |next=>obtain⟨σ7,H7,I7,n7⟩:=q7;exact again I7 n7
  |cont=>obtain⟨σ7,H7,I7,n7⟩:=q7;exact again I7 n7
  |brk=>obtain⟨σ7,H7,I7,q7⟩:=q7;exact⟨σ7,H7,I7.unpinned,q7⟩
  |ret v=>obtain⟨x7,σ7,H7,I7,r7,q7⟩:=q7;exact⟨x7,σ7,H7,I7.unpinned,r7,q7⟩
end
abbrev R2:=V->V->Hp->VK->Prop
def Ec(X:Cx)(f:Value->Value->Sem Value)(r:R2):Prop:=
 ∀(zc:List (Addr×Obj)) (s:Shared) (σ:St) (H:Hp) (x y:V) (v u:Value) (Q:VK),Inv X zc σ H s->RelV x v->RelV y u->r x y H Q->
  wpAny (model X.prog X.w) X.A (f v u) (EP X zc σ Q) X.xe s
def Fg(X:Cx)(f:Value)(r:List V->Hp->VK->Prop):Prop:=
 ∀(zc:List (Addr×Obj)) (s:Shared) (σ:St) (H:Hp) (xs:List V) (us:List Value) (Q:VK),Inv X zc σ H s->Vals xs us->r xs H Q->
  wpAny (model X.prog X.w) X.A (call f us) (EP X zc σ Q) X.xe s
def TruR(X:Cx)(r:V->Hp->(Bool->Hp->Prop)->Prop):Prop:=
 ∀(zc:List (Addr×Obj)) (s:Shared) (σ:St) (H:Hp) (x:V) (v:Value) (Q:Bool->Hp->Prop),Inv X zc σ H s->RelV x v->r x H Q->
  wpAny (model X.prog X.w) X.A (truthy v) (TP X zc σ Q) X.xe s
def tOp(r:R2)(ta tb:TE):TE:=λ σ H Q=>ta σ H λx H1=>tb σ H1 λy H2=>r x y H2 Q
def rI(C:Int->Int->Prop)(g:Int->Int->V):R2:=λx y H Q=>∃i j,x=.int i/\y=.int j/\C i j/\Q (g i j) H
def rI0(g:Int->Int->V):R2:=λx y H Q=>∃i j,x=.int i/\y=.int j/\Q (g i j) H
section
variable{X:Cx}{a b c:Expr}{ta tb tc:TE}{pos:Pos}
def binT(ha:PE X a ta)(hb:PE X b tb){zc:List (Addr×Obj)}{s:Shared}{σ:St}{H:Hp}{R:V->V->Hp->Prop}(I:Inv X zc σ H s)
  (h:ta σ H λx H1=>tb σ H1 λy H2=>R x y H2) {Q:Value->Shared->Prop} {f:Value->Value->Sem Value}
  (hf:∀v u s2 x y H2,Inv X zc σ H2 s2->RelV x v->RelV y u->R x y H2->wpAny (model X.prog X.w) X.A (f v u) Q X.xe s2):
  wpAny (model X.prog X.w) X.A (eval a X.env) (λv s₁=>wpAny (model X.prog X.w) X.A (eval b X.env) (λu s₂=>wpAny (model X.prog X.w) X.A (f v u) Q X.xe s₂) X.xe s₁) X.xe s:=by
 refine Bh (ha zc s σ H _ I h) λv s1 ⟨x,H1,I1,r1,q1⟩=> ?_;refine Bh (hb zc s1 σ H1 _ I1 q1) λu s2 ⟨y,H2,I2,r2,q2⟩=> ?_;exact hf v u s2 x y H2 I2 r1 r2 q2
def dy_5{op:Operator}{r:R2}(ho:Ec X (binaryOp op) r)(ha:PE X a ta)(hb:PE X b tb):PE X (.BinOp a op b pos) (tOp r ta tb):=by
 intro zc s σ H Q I h;exact wpAny_BinOp (binT ha hb I h λv u s2 x y H2 I2 rx ry q=>ho zc s2 σ H2 x y v u Q I2 rx ry q)
def opI{f:Value->Value->Sem Value}{C:Int->Int->Prop}{g:Int->Int->Int}
  (rule:∀(i j:Int) (t u:Tok) (s:Shared) (Q:Value->Shared->Prop) (E:Value->Shared->Prop),C i j->Q (.int (g i j) s.toks) {s with toks:=s.toks + 1}->wpAny (model X.prog X.w) X.A (f (.int i t) (.int j u)) Q E s):
  Ec X f (rI C λi j=> .int (g i j)):=by
 intro zc s σ H x y v u Q I rx ry h;obtain⟨i,j,rfl,rfl,hc,q⟩:=h;obtain⟨t,rfl⟩:=rx;obtain⟨t',rfl⟩:=ry;exact rule i j t t' s _ _ hc ⟨.int (g i j),H,I.tok _,⟨_,rfl⟩,q⟩
def opI0{f:Value->Value->Sem Value}{g:Int->Int->Int}
  (rule:∀(i j:Int) (t u:Tok) (s:Shared) (Q:Value->Shared->Prop) (E:Value->Shared->Prop),Q (.int (g i j) s.toks) {s with toks:=s.toks + 1}->wpAny (model X.prog X.w) X.A (f (.int i t) (.int j u)) Q E s):
  Ec X f (rI0 λi j=> .int (g i j)):=by
 intro zc s σ H x y v u Q I rx ry h;obtain⟨i,j,rfl,rfl,q⟩:=h;obtain⟨t,rfl⟩:=rx;obtain⟨t',rfl⟩:=ry;exact rule i j t t' s _ _ ⟨.int (g i j),H,I.tok _,⟨_,rfl⟩,q⟩
def opB0{f:Value->Value->Sem Value}{g:Int->Int->Bool}
  (rule:∀(i j:Int) (t u:Tok) (s:Shared) (Q:Value->Shared->Prop) (E:Value->Shared->Prop),Q (.bool (g i j)) s->wpAny (model X.prog X.w) X.A (f (.int i t) (.int j u)) Q E s):
  Ec X f (rI0 λi j=> .bl (g i j)):=by
 intro zc s σ H x y v u Q I rx ry h;obtain⟨i,j,rfl,rfl,q⟩:=h;obtain⟨t,rfl⟩:=rx;obtain⟨t',rfl⟩:=ry;exact rule i j t t' s _ _ ⟨.bl (g i j),H,I,rfl,q⟩
def CPow(i j:Int):Prop:=0<=j/\j<=1000000/\i.natAbs < 2 ^ 64
def CMul(i j:Int):Prop:=(-(2 ^ 64) < i/\i < 2 ^ 64)\/(-(2 ^ 64) < j/\j < 2 ^ 64)
def CMul.ok{i j:Int}(h:CMul i j):IntMulOk i j:=by
 rcases h with⟨h1,h2⟩|⟨h1,h2⟩
 ·exact .of_left (intBits_le_64 h1 h2)
 ·exact .of_right (intBits_le_64 h1 h2)
def eb_5:Ec X (binaryOp .Add) (rI0 λi j=> .int (i + j)):=opI0 λ_ _ _ _ _ _ _ q=>add_int q
def eb_6:Ec X (binaryOp .Mult) (rI CMul λi j=> .int (i * j)):=opI λ_ _ _ _ _ _ _ hc q=>mul_int q hc.ok
def eb_7:Ec X (binaryOp .Mod) (rI (λ_ j=>0 < j) λi j=> .int (i % j)):=opI λi j _ _ _ _ _ hc q=>by
 have h1:(0:Int) < j:=hc;exact mod_int' (by omega) (by rw [Int.fmod_eq_emod_of_nonneg i (by omega)];exact q)
def eb_8:Ec X (binaryOp .Pow) (rI CPow λi j=> .int (i ^ j.toNat)):=opI λ_ _ _ _ _ _ _ hc q=>pow_int_small hc.1 hc.2.1 hc.2.2 q
end
def scal:V->V->Bool
 | .non,.non=>true| .non,.int _=>true| .int _,.non=>true| .non,.bl _=>true| .bl _,.non=>true| .non,.str _=>true| .str _,.non=>true
 | .int _,.int _=>true| .bl _,.bl _=>true| .str _,.str _=>true| .byt _,.byt _=>true
 | .int _,.str _=>true| .str _,.int _=>true| .bl _,.str _=>true| .str _,.bl _=>true
 |_,_=>false
def rEq:R2:=λx y H Q=>scal x y=true/\Q (.bl (decide (x=y))) H
def rNe:R2:=λx y H Q=>scal x y=true/\Q (.bl (!decide (x=y))) H
def cq_1{i j:Int}:decide (V.int i=V.int j)=(i ==j):=by
 rw [Bool.eq_iff_iff];simp
def dd_2{i j:Bool}:decide (V.bl i=V.bl j)=(i ==j):=by
 rw [Bool.eq_iff_iff];simp
def cq_2{i j:Str}:decide (V.str i=V.str j)=(i ==j):=by
 rw [Bool.eq_iff_iff];simp
def cq_3{i j:Array UInt8}:decide (V.byt i=V.byt j)=(i.toList ==j.toList):=by
 rw [Bool.eq_iff_iff];cases i;cases j;simp
section
variable{X:Cx}{a b c:Expr}{ta tb tc:TE}{pos:Pos}
def Dr{zc:List (Addr×Obj)}{σ:St}{H:Hp}{s:Shared}{Q:VK}{k k':Bool}(I:Inv X zc σ H s)(q:Q (.bl k) H)(e:k=k'):EP X zc σ Q (.bool k') s:=by
 subst e;exact⟨.bl k,H,I,rfl,q⟩
def ek_0:Ec X (compareOp .Eq) rEq:=by
 intro zc s σ H x y v u Q I rx ry h;obtain⟨hs,q⟩:=h;cases x with
 |non=>
  cases rx;cases y with
  |non=>cases ry;exact PySem.EqNone.eq_none_none (Dr I q (by simp))
  |bl j=>cases ry;exact PySem.EqNone.eq_none_bool (Dr I q (by simp))
  |int j=>obtain⟨t',rfl⟩:=ry;exact PySem.EqNone.eq_none_int (Dr I q (by simp))
  |str j=>obtain⟨t',rfl⟩:=ry;exact PySem.EqNone.eq_none_str (Dr I q (by simp))
  |_=>exact absurd (show false=true from hs) Bool.false_ne_true
 |bl i=>
  cases rx;cases y with
  |non=>cases ry;exact PySem.EqNone.eq_bool_none (Dr I q (by simp))
  |bl j=>cases ry;exact eq_bool (Dr I q dd_2)
  |str j=>obtain⟨t',rfl⟩:=ry;exact PySem.EqMixed.eq_bool_str (Dr I q (by simp))
  |_=>exact absurd (show false=true from hs) Bool.false_ne_true
 |int i=>
  obtain⟨t,rfl⟩:=rx;cases y with
  |non=>cases ry;exact PySem.EqNone.eq_int_none (Dr I q (by simp))
  |int j=>obtain⟨t',rfl⟩:=ry;exact eq_int (Dr I q cq_1)
  |str j=>obtain⟨t',rfl⟩:=ry;exact PySem.EqMixed.eq_int_str (Dr I q (by simp))
  |_=>exact absurd (show false=true from hs) Bool.false_ne_true
 |str i=>
  obtain⟨t,rfl⟩:=rx;cases y with
  |non=>cases ry;exact PySem.EqNone.eq_str_none (Dr I q (by simp))
  |bl j=>cases ry;exact PySem.EqMixed.eq_str_bool (Dr I q (by simp))
  |int j=>obtain⟨t',rfl⟩:=ry;exact PySem.EqMixed.eq_str_int (Dr I q (by simp))
  |str j=>obtain⟨t',rfl⟩:=ry;exact eq_str (Dr I q cq_2)
  |_=>exact absurd (show false=true from hs) Bool.false_ne_true
 |byt i=>
  obtain⟨t,rfl⟩:=rx;cases y with
  |byt j=>obtain⟨t',rfl⟩:=ry;exact eq_bytes (Dr I q cq_3)
  |_=>exact absurd (show false=true from hs) Bool.false_ne_true
 |_=>cases y <;> exact absurd (show false=true from hs) Bool.false_ne_true
def ek_1:Ec X (compareOp .NotEq) rNe:=by
 intro zc s σ H x y v u Q I rx ry h;obtain⟨hs,q⟩:=h;cases x with
 |non=>
  cases rx;cases y with
  |non=>cases ry;exact PySem.EqNone.ne_none_none (Dr I q (by simp))
  |bl j=>cases ry;exact PySem.EqNone.ne_none_bool (Dr I q (by simp))
  |int j=>obtain⟨t',rfl⟩:=ry;exact PySem.EqNone.ne_none_int (Dr I q (by simp))
  |str j=>obtain⟨t',rfl⟩:=ry;exact PySem.EqNone.ne_none_str (Dr I q (by simp))
  |_=>exact absurd (show false=true from hs) Bool.false_ne_true
 |bl i=>
  cases rx;cases y with
  |non=>cases ry;exact PySem.EqNone.ne_bool_none (Dr I q (by simp))
  |bl j=>cases ry;exact ne_bool (Dr I q (congrArg not dd_2))
  |str j=>obtain⟨t',rfl⟩:=ry;exact PySem.EqMixed.ne_bool_str (Dr I q (by simp))
  |_=>exact absurd (show false=true from hs) Bool.false_ne_true
 |int i=>
  obtain⟨t,rfl⟩:=rx;cases y with
  |non=>cases ry;exact PySem.EqNone.ne_int_none (Dr I q (by simp))
  |int j=>obtain⟨t',rfl⟩:=ry;exact ne_int (Dr I q (congrArg not cq_1))
  |str j=>obtain⟨t',rfl⟩:=ry;exact PySem.EqMixed.ne_int_str (Dr I q (by simp))
  |_=>exact absurd (show false=true from hs) Bool.false_ne_true
 |str i=>
  obtain⟨t,rfl⟩:=rx;cases y with
  |non=>cases ry;exact PySem.EqNone.ne_str_none (Dr I q (by simp))
  |bl j=>cases ry;exact PySem.EqMixed.ne_str_bool (Dr I q (by simp))
  |int j=>obtain⟨t',rfl⟩:=ry;exact PySem.EqMixed.ne_str_int (Dr I q (by simp))
  |str j=>obtain⟨t',rfl⟩:=ry;exact ne_str (Dr I q (congrArg not cq_2))
  |_=>exact absurd (show false=true from hs) Bool.false_ne_true
 |byt i=>
  obtain⟨t,rfl⟩:=rx;cases y with
  |byt j=>obtain⟨t',rfl⟩:=ry;exact ne_bytes (Dr I q (congrArg not cq_3))
  |_=>exact absurd (show false=true from hs) Bool.false_ne_true
 |_=>cases y <;> exact absurd (show false=true from hs) Bool.false_ne_true
def ek_2:Ec X (compareOp .Lt) (rI0 λi j=> .bl (decide (i < j))):=opB0 λ_ _ _ _ _ _ _ q=>lt_int q
def ek_3:Ec X (compareOp .LtE) (rI0 λi j=> .bl (decide (i<=j))):=opB0 λ_ _ _ _ _ _ _ q=>le_int q
def ek_4:Ec X (compareOp .Gt) (rI0 λi j=> .bl (decide (j < i))):=opB0 λ_ _ _ _ _ _ _ q=>gt_int q
def ek_5:Ec X (compareOp .GtE) (rI0 λi j=> .bl (decide (j<=i))):=opB0 λ_ _ _ _ _ _ _ q=>ge_int q
def cv_9:Ec X (compareOp .In) (λx y H Q=>∃i j,x=.str i/\y=.str j/\Q (.bl (!(Builtin.Str.occurrences j i 0 j.length 1).isEmpty)) H):=by
 intro zc s σ H x y v u Q I rx ry h;obtain⟨i,j,rfl,rfl,q⟩:=h;obtain⟨t,rfl⟩:=rx;obtain⟨t',rfl⟩:=ry;exact in_str (Dr I q rfl)
def eb_9:Ec X (compareOp .Is) (λx y H Q=>y=.non/\Q (.bl (decide (x=.non))) H):=by
 intro zc s σ H x y v u Q I rx ry h;obtain⟨rfl,q⟩:=h;cases ry;refine is_none_gen (Dr I q ?_);cases x <;> first
  |(cases rx;rfl)
  |(obtain⟨t,rfl⟩:=rx;rfl)
def dp_4:Ec X (compareOp .IsNot) (λx y H Q=>y=.non/\Q (.bl (!decide (x=.non))) H):=by
 intro zc s σ H x y v u Q I rx ry h;obtain⟨rfl,q⟩:=h;cases ry;refine isnot_none_gen (Dr I q ?_);cases x <;> first
  |(cases rx;rfl)
  |(obtain⟨t,rfl⟩:=rx;rfl)
def Cj(b:Expr){op:CmpOp}(h:op≠ .In:=by decide)(h2:op≠ .NotIn:=by decide):behindInMarks op b=false:=by
 have e1:(op ==CmpOp.In)=false:=by cases op <;> first|rfl|exact absurd rfl h
 have e2:(op ==CmpOp.NotIn)=false:=by cases op <;> first|rfl|exact absurd rfl h2
 cases b <;> simp [behindInMarks,e1,e2]
def dp_5{op:CmpOp}{r:R2}(ho:Ec X (compareOp op) r)(ha:PE X a ta)(hb:PE X b tb)(hm:behindInMarks op b=false):PE X (.Compare a [op] [b] pos) (tOp r ta tb):=by
 intro zc s σ H Q I h;exact wpAny_Compare1 (binT ha hb I h λv u s2 x y H2 I2 rx ry q=>ho zc s2 σ H2 x y v u Q I2 rx ry q) hm
def ek_6(t:TE):TT:=λ σ H Q=>t σ H λx H'=>∃k,x=.bl k/\Q k H'
def dp_6{op:CmpOp}{r:R2}(ho:Ec X (compareOp op) r)(ha:PE X a ta)(hb:PE X b tb)(hm:behindInMarks op b=false):PT X (.Compare a [op] [b] pos) (ek_6 (tOp r ta tb)):=by
 intro zc s σ H Q I h;refine wpAny_isTrue_Compare1 (Bh (ha zc s σ H _ I h) λv s1 ⟨x,H1,I1,r1,q1⟩=>Bh (hb zc s1 σ H1 _ I1 q1) λu s2 ⟨y,H2,I2,r2,q2⟩=>
  Bh (ho zc s2 σ H2 x y v u _ I2 r1 r2 q2) λc s3 ⟨z,H3,I3,r3,k,e,q3⟩=> ?_) hm
 subst e;cases r3;exact wpAny_truthy_bool ⟨H3,I3,q3⟩
def dd_3(r r':R2)(ta tb tc:TE):TE:=λ σ H Q=>ta σ H λx H1=>tb σ H1 λy H2=>r x y H2 λz H3=>∃k,z=.bl k/\
 (if k=true then tc σ H3 λw' H4=>r' y w' H4 Q else Q (.bl false) H3)
def dd_4{op op':CmpOp}{r r':R2}(ho:Ec X (compareOp op) r)(ho':Ec X (compareOp op') r')(ha:PE X a ta)(hb:PE X b tb)(hc:PE X c tc)
  (hm:lastMarks [op,op'] [b,c]=false:=by with_unfolding_all rfl):PE X (.Compare a [op,op'] [b,c] pos) (dd_3 r r' ta tb tc):=by
 intro zc s σ H Q I h;refine Compare_chain (Bh (ha zc s σ H _ I h) λv s1 ⟨x,H1,I1,r1,q1⟩=>chain_link (Bh (hb zc s1 σ H1 _ I1 q1) λu s2 ⟨y,H2,I2,r2,q2⟩=>
  Bh (ho zc s2 σ H2 x y v u _ I2 r1 r2 q2) λd s3 ⟨z,H3,I3,r3,k,e,q3⟩=> ?_)) hm
 subst e;cases r3;refine wpAny_truthy_bool ?_;cases k with
 |false=>exact ite_ff ⟨.bl false,H3,I3,rfl,q3⟩
 |true=>exact ite_tt (chain_last (Bh (hc zc s3 σ H3 _ I3 q3) λw' s4 ⟨z',H4,I4,r4,q4⟩=>ho' zc s4 σ H4 y z' u w' Q I4 r2 r4 q4))
def TruV(K:Frag)(x:V)(H:Hp)(k:Bool):Prop:=
 match x with
 | .non=>k=false
 | .bl b=>k=b
 | .int i=>k=(i != 0)
 | .str y=>y.length<=sizeLine/\k=((y.length:Int) != 0)
 | .byt y=>y.size<=sizeLine/\k=((y.size:Int) != 0)
 | .ref p=>(∃xs,SqL K H p xs/\k= !xs.isEmpty)\/(∃xs,SqT K H p xs/\k= !xs.isEmpty)\/∃kvs,H p=some (.dK kvs)/\k= !kvs.isEmpty
 |_=>False
def ck_0{κ:Type}{kvs:List (κ×V)}{vs:List (κ×Value)}(r:KV kvs vs):(!vs.isEmpty)= !kvs.isEmpty:=by
 cases r <;> rfl
def be_3{xs:List V}{its:List Value}(r:Vals xs its):(!its.toArray.isEmpty)= !xs.isEmpty:=by
 cases r <;> simp
def ap_1:(sizeLine:Nat) < 2 ^ 63:=by rw [sizeLine_eq];decide
def ec_1:TruR X (λx H Q=>∃k,TruV X.K x H k/\Q k H):=by
 intro zc s σ H x v Q I rx h;obtain⟨k,e,q⟩:=h;have hl:=ap_1;have hs:sizeLine=16777216:=sizeLine_eq;cases x with
 |non=>
  cases rx;have e':k=false:=e;subst e';exact truthy_none ⟨H,I,q⟩
 |bl b=>
  cases rx;have e':k=b:=e;subst e';exact wpAny_truthy_bool ⟨H,I,q⟩
 |int i=>
  obtain⟨t,rfl⟩:=rx;have e':k=(i != 0):=e;subst e';exact PySem.P.truthy_int ⟨H,I,q⟩
 |str y=>
  obtain⟨t,rfl⟩:=rx;obtain⟨hy,e'⟩:y.length<=sizeLine/\k=((y.length:Int) != 0):=e;subst e';exact PySem.P.truthy_str (by omega) ⟨H,I.tok _,q⟩
 |byt y=>
  obtain⟨t,rfl⟩:=rx;obtain⟨hy,e'⟩:y.size<=sizeLine/\k=((y.size:Int) != 0):=e;subst e';exact truthy_bytes (by omega) ⟨H,I.tok _,q⟩
 |ref p=>
  cases rx;have e':(∃xs,SqL X.K H p xs/\k= !xs.isEmpty)\/(∃xs,SqT X.K H p xs/\k= !xs.isEmpty)\/∃kvs,H p=some (.dK kvs)/\k= !kvs.isEmpty:=e;rcases e' with⟨xs,hx,e'⟩|⟨xs,hx,e'⟩|⟨kvs,hx,e'⟩
  ·subst e';obtain⟨its,r,pl,hz⟩:=I.list hx;have zj:=r.length;exact wpAny_truthy_list pl.isList (by simp only [List.size_toArray];omega) ⟨H,I.tok _,by rw [be_3 r];exact q⟩
  ·subst e';obtain⟨its,r,pl,hz⟩:=I.tuple hx;have zj:=r.length;exact truthy_tuple pl (by simp only [List.size_toArray];omega) ⟨H,I.tok _,by rw [be_3 r];exact q⟩
  ·subst e';obtain⟨hz,hS,vs,r,m⟩:kvs.length<=sizeLine/\(p ==sysModules)=false/\∃vs,KV kvs vs/\s.heap.DictOf (j_0 X.prog X.w) p vs:=I.hok p _ hx;have zj:kvs.length=vs.length:=Paired.length r;exact wpAny_truthy_dict hS m (by omega) ⟨H,I.tok _,by rw [ck_0 r];exact q⟩
 |_=>exact(show False from e).elim
def dd_5(ha:PE X a ta)(he:∀whole,isTrue a X.env whole=(do let v<-whole;standAt a.pos;holding [v] (truthy v))):
  PT X a (λ σ H Q=>ta σ H λx H'=>∃k,TruV X.K x H' k/\Q k H'):=by
 intro zc s σ H Q I h;exact isTrue_plain (Bh (ha zc s σ H _ I h) λv s1 ⟨x,H1,I1,r1,q1⟩=>ec_1 zc s1 σ H1 x v Q I1 r1 q1) (he _)
def ck_1:Ec X (binaryOp .Add) (λx y H Q=>∃i j,x=.str i/\y=.str j/\i.length + j.length<=sizeLine/\Q (.str (i ++ j)) H):=by
 intro zc s σ H x y v u Q I rx ry h;obtain⟨i,j,rfl,rfl,hz,q⟩:=h;obtain⟨t,rfl⟩:=rx;obtain⟨t',rfl⟩:=ry;exact add_str (λt' tk=>⟨.str (i ++ j),H,I.tok _,⟨_,rfl⟩,q⟩) hz
def ca_0{x:V}{us:List Value}(r:Vals [x] us):∃u,us= [u]/\RelV x u:=by
 cases r with
 |cons r1 r2=>cases r2;exact⟨_,rfl,r1⟩
def dy_6{x y:V}{us:List Value}(r:Vals [x,y] us):∃u w',us= [u,w']/\RelV x u/\RelV y w':=by
 cases r with
 |cons r1 r2=>
  cases r2 with
  |cons r3 r4=>cases r4;exact⟨_,_,rfl,r1,r3⟩
def cw_0(hc:X.calm=true):Fg X (.builtin "max") (λxs H Q=>∃i j,xs= [.int i,.int j]/\Q (.int (if j > i then j else i)) H):=by
 intro zc s σ H xs us Q I r h;obtain⟨i,j,rfl,q⟩:=h;obtain⟨u,w',rfl,⟨t,rfl⟩,⟨t',rfl⟩⟩:=dy_6 r;refine max_two_ints (I.ok.hd hc) λh' tk k=>⟨_,H,I.kept k, ?_,q⟩
 by_cases hj:j > i
 ·rw [if_pos hj,if_pos hj];exact⟨_,rfl⟩
 ·rw [if_neg hj,if_neg hj];exact⟨_,rfl⟩
def cw_1(hc:X.calm=true):Fg X (.builtin "min") (λxs H Q=>∃i j,xs= [.int i,.int j]/\Q (.int (if j < i then j else i)) H):=by
 intro zc s σ H xs us Q I r h;obtain⟨i,j,rfl,q⟩:=h;obtain⟨u,w',rfl,⟨t,rfl⟩,⟨t',rfl⟩⟩:=dy_6 r;refine min_two_ints (I.ok.hd hc) λh' tk k=>⟨_,H,I.kept k, ?_,q⟩
 by_cases hj:j < i
 ·rw [if_pos hj,if_pos hj];exact⟨_,rfl⟩
 ·rw [if_neg hj,if_neg hj];exact⟨_,rfl⟩
def bs_7:Fg X (.type "str") (λxs H Q=>∃i,xs= [.int i]/\i.natAbs.log2 < 1920/\Q (.str (toString i)) H):=by
 intro zc s σ H xs us Q I r h;obtain⟨i,rfl,hz,q⟩:=h;obtain⟨u,rfl,t,rfl⟩:=ca_0 r;exact PySem.P.str_of_int hz ⟨.str _,H,I.tok _,⟨_,rfl⟩,q⟩
end
structure ObjM(h:Heap)(x dx C:Addr)(mA:Str->Option Value):Prop where
 obj:h.get? x=some (instObj C dx)
 ns:h.Ns1 dx mA
 ne:dx≠x
def cw_2{h:Heap}{dx:Addr}{mA:Str->Option Value}(n:h.Ns1 dx mA):∃od,h.get? dx=some od/\∀name,lookIn name od=some (mA name):=by
 obtain⟨o,es,ep,ho,hd,hk,_,hm⟩:=n;refine⟨o,ho,λname=> ?_⟩;have e:=hm name;unfold nsFind findBy at e;rw [<-Array.find?_toList] at e;unfold lookIn;rw [hd];dsimp only
 split
 ·rename_i y q;rw [q] at e;exact congrArg some e
 ·rename_i q;rw [q] at e;have a:es.toList.any (·.refKey)=false:=by
   rw [List.any_eq_false];intro y hy;obtain⟨z,t,di⟩:=hk y (Array.mem_toList_iff.mp hy);simp [DictEntry.refKey,di]
  have a':¬es.toList.any (·.refKey)=true:=by rw [a];exact Bool.false_ne_true
  rw [if_neg a'];exact congrArg some e
def ObjM.look{h:Heap}{x dx C:Addr}{mA:Str->Option Value}(I:ObjM h x dx C mA):∃od,InstAt h x (instObj C dx) C (some od)/\∀name,lookIn name od=some (mA name):=
 let⟨od,ho,hl⟩:=cw_2 I.ns
 ⟨od,⟨I.obj,rfl,rfl,ho⟩,hl⟩
section
variable{prog:Program}{w:World}{A:Around}{E:Value->Shared->Prop}{s:Shared}{K:Frag}{x dx C f:Addr}{mA:Str->Option Value}{name:Str}{v:Value}
def dp_7{expr:Bool}{Q:Value->Shared->Prop}(X:K.In s.heap)(I:ObjM s.heap x dx C mA)(hg:plainGet K C name=true)(hh:hasDictIn K C=true)
  (ha:findIn K (.ref C) name=some none) (hv:mA name=some v) (hv':handedIn v=true) (h:Q v {s with toks:=s.toks + 1}):
  wpAny (model prog w) A (getAttr (.ref x) name expr) Q E s:=by
 obtain⟨od,J,hl⟩:=I.look;exact get_value X J (plainGet_of hg).1 (findObj_own hh ha rfl (by rw [hl,hv])) hv' h
def dd_6{pl:Sem Bool}{Q:Value×List Value->Shared->Prop}(X:K.In s.heap)(I:ObjM s.heap x dx C mA)(hg:plainGet K C name=true)
  (hf:findIn K (.ref C) name=some (some (.ref f))) (ht:isFn K (.ref f)=true) (hv:mA name=none) (h:Q (.ref f,[.ref x]) s):
  wpAny (model prog w) A (getMethod (.ref x) name pl) Q E s:=by
 obtain⟨od,J,hl⟩:=I.look;exact method_fn X J (plainGet_of hg).1 (plainGet_of hg).2 hf (beq_iff_eq.mp ht) (by show(lookIn name od).map (·.isSome)=some false;rw [hl,hv];rfl) h
def dp_8{ns:List Str}{Q:Unit->Shared->Prop}(X:K.In s.heap)(I:ObjM s.heap x dx C mA)
  (hs:findIn K (.ref C) "__setattr__" =some (some (.builtin "object.__setattr__"))) (hp:plainOver K C=true) (ht:takerIn K C name=some none) (hh:hasDictIn K C=true)
  (hw:PySem.Within mA ns) (hsz:ns.length<=sizeLine)
  (h:∀h',ObjM h' x dx C (λy=>if y=name then some v else mA y)->Heap.SameBut dx s.heap h'->Q () {s with heap:=h',toks:=s.toks + 2}):
  wpAny (model prog w) A (setAttr (.ref x) name v) Q E s:=by
 obtain⟨od,J,hl⟩:=I.look;refine set_plain X J hs (osa_open (s:={s with toks:=s.toks + 1}) (r:=none) X J hp ht λb=> ?_);obtain⟨cd,hc,hd'⟩:=any_some hh;have hx:s.heap.get? x=some ⟨.ref C,some dx,.plain, #[]⟩:=I.obj;refine wpAny_bind (wpAny_pure (wpAny_bind (wpAny_bind (wpAny_loadPart hx (wpAny_bind (Looks.here (s:={s with toks:=s.toks + 1}) (looks_clsIn X hc) ?_))))));rw [hd'];refine wpAny_pure (a:=some dx) (wpAny_bind (wpAny_pure (wpAny_bind ?_)));refine wpAny_nsSet1 (s:={s with toks:=s.toks + 1}) I.ns λh' hn2 hs2=> ?_;obtain⟨oD,esD,epD,hoD,hdD,hcD⟩:=hn2.count (PySem.Within.cons name v hw);refine wpAny_bind (wpAny_lookBehind hoD (by rw [hdD];exact pastItsLine_dict (Nat.le_trans hcD (by rw [List.length_cons];omega))) ?_);exact wpAny_pure (h _ ⟨(hs2.2 _ (Ne.symm I.ne)).trans I.obj,hn2,I.ne⟩ hs2)
def dd_7{R:Result->Shared->Prop}{vs:List Value}{kw:List (Str×Value)}(X:K.In s.heap)(hm:makesIn K C=true)
  (hi:findIn K (.ref C) "__init__" =some (some (.ref f))) (hf:typeIn K (.ref f)=some (.type "function"))
  (h:codeAny (model prog w) (A.under (.builtin "type.__call__" ⟨.ref C::vs,kw⟩)) (.call (.ref f) ⟨.ref (s.heap.objs.size + 1)::vs,kw⟩) (InitBack (s.heap.objs.size + 1) R)
   {s with heap:=(s.heap.push emptyDict).push (instObj C s.heap.objs.size)}):
  codeAny (model prog w) A (.call (.ref C) ⟨vs,kw⟩) R s:=by
 obtain⟨hh,g,d,t,os⟩:=s;exact make_core (makes_of X hm) (looks_findIn X hi) (λself=>bind_fn X self hf) (.inl rfl) h
end
def Cz(f:Str)(v:V):List (Str×V)->List (Str×V)
 | []=> [(f,v)]
 |(g,x)::r=>if g=f then(g,v)::r else(g,x)::Cz f v r
theorem ay_1(f g:Str)(v:V):∀fs:List (Str×V),(Cz f v fs).lookup g=if g=f then some v else fs.lookup g
 | []=>by
  show List.lookup g [(f,v)]=_
  by_cases h:g=f
  ·have hb:(g ==f)=true:=beq_iff_eq.mpr h;simp only [List.lookup,hb,if_pos h]
  ·have hb:(g ==f)=false:=beq_eq_false_iff_ne.mpr h;simp only [List.lookup,hb,if_neg h]
 |(k,x)::r=>by
  have ih:=ay_1 f g v r;rw [show Cz f v ((k,x)::r)=(if k=f then(k,v)::r else(k,x)::Cz f v r) from rfl]
  by_cases hk:k=f
  ·rw [if_pos hk]
   by_cases h:g=k
   ·have hb:(g ==k)=true:=beq_iff_eq.mpr h;simp only [List.lookup,hb,if_pos (h.trans hk)]
   ·have hb:(g ==k)=false:=beq_eq_false_iff_ne.mpr h;simp only [List.lookup,hb,if_neg (λe:g=f=>h (e.trans hk.symm))]
  ·rw [if_neg hk]
   by_cases h:g=k
   ·have hb:(g ==k)=true:=beq_iff_eq.mpr h;simp only [List.lookup,hb,if_neg (λe:g=f=>hk (h.symm.trans e))]
   ·have hb:(g ==k)=false:=beq_eq_false_iff_ne.mpr h;simp only [List.lookup,hb];exact ih
theorem au_7(f:Str)(v:V):∀fs:List (Str×V),f∈(Cz f v fs).map (·.1)/\∀g,g∈fs.map (·.1)->g∈(Cz f v fs).map (·.1)
 | []=>⟨by simp [Cz],λg h=>by simp at h⟩
 |(k,x)::r=>by
  obtain⟨i1,i2⟩:=au_7 f v r;rw [show Cz f v ((k,x)::r)=(if k=f then(k,v)::r else(k,x)::Cz f v r) from rfl]
  by_cases hk:k=f
  ·rw [if_pos hk];subst hk;exact⟨by simp,λg h=>by simpa using h⟩
  ·rw [if_neg hk];refine⟨?_,λg h=> ?_⟩
   ·rw [List.map_cons];exact List.mem_cons_of_mem _ i1
   ·rw [List.map_cons] at h⊢;rcases List.mem_cons.mp h with e|e
    ·exact List.mem_cons.mpr (.inl e)
    ·exact List.mem_cons_of_mem _ (i2 g e)
theorem ay_2(f:Str)(v:V):∀fs:List (Str×V),(Cz f v fs).length<=fs.length + 1
 | []=>by simp [Cz]
 |(k,x)::r=>by
  have ih:=ay_2 f v r;rw [show Cz f v ((k,x)::r)=(if k=f then(k,v)::r else(k,x)::Cz f v r) from rfl]
  by_cases hk:k=f
  ·rw [if_pos hk,List.length_cons,List.length_cons];omega
  ·rw [if_neg hk,List.length_cons,List.length_cons];omega
def RelO.some_of{v:V}{o:Option Value}(r:RelO (some v) o):∃u,o=some u/\RelV v u:=by
 cases o with
 |none=>exact(show False from r).elim
 |some u=>exact⟨u,rfl,r⟩
def RelO.none_of{o:Option Value}(r:RelO none o):o=none:=by
 cases o with
 |none=>rfl
 |some u=>exact(show False from r).elim
def cw_3{v:V}{u:Value}(r:RelV v u):handedIn u=true:=by
 cases v with
 |non=>cases(show u=Value.none from r);rfl
 |bl b=>cases(show u=Value.bool b from r);rfl
 |int i=>obtain⟨t,e⟩:=(show∃t,u=Value.int i t from r);cases e;rfl
 |str x=>obtain⟨t,e⟩:=(show∃t,u=Value.str x t from r);cases e;rfl
 |byt b=>obtain⟨t,e⟩:=(show∃t,u=Value.bytes b t from r);cases e;rfl
 |flt b=>obtain⟨t,e⟩:=(show∃t,u=Value.float b t from r);cases e;rfl
 |ref a=>cases(show u=Value.ref a from r);rfl
 |ty n=>cases(show u=Value.type n from r);rfl
section
variable{P:Program}{w:World}{H H':Hp}{h h':Heap}{a C dx:Addr}{fs fs':List (Str×V)}
def bs_8(hok:HOk P w H h)(e:H a=some (.ins C dx fs)):∃mA,ObjM h a dx C mA/\(∀f,RelO (fs.lookup f) (mA f))/\PySem.Within mA (fs.map (·.1))/\fs.length<=1000/\H dx=some (.own a):=by
 obtain⟨d,z,ne,ob,mA,n,r,q⟩:=(show ObjOk P w H h a (.ins C dx fs) from hok a _ e);exact⟨mA,⟨ob,n,ne⟩,r,q,z,d⟩
end
structure Cls(K:Frag)(C:Addr):Prop where
 pg:plainGet K C Str.empty=true
 hd:hasDictIn K C=true
 po:plainOver K C=true
 sa:findIn K (.ref C) "__setattr__" =some (some (.builtin "object.__setattr__"))
def Cls.get{K:Frag}{C:Addr}(c:Cls K C)(f:Str):plainGet K C f=true:=c.pg
def NoAttr(K:Frag)(C:Addr)(f:Str):Prop:=findIn K (.ref C) f=some none
def NoAttr.taker{K:Frag}{C:Addr}{f:Str}(n:NoAttr K C f):takerIn K C f=some none:=by
 unfold takerIn;rw [show findIn K (.ref C) f=some none from n];rfl
structure Con(K:Frag)(C:Addr)(f:Str)(v:V)(u:Value):Prop where
 at_:findIn K (.ref C) f=some (some u)
 rel:RelV v u
 get:specialIn K u "__get__" =some none
 cp:PySem.W.copiedNames.contains f=false
structure Meth(K:Frag)(C:Addr)(m:Str)(f:Addr):Prop where
 at_:findIn K (.ref C) m=some (some (.ref f))
 fn:isFn K (.ref f)=true
 kp:keepIn K (.ref f)=true
section
variable{X:Cx}{zc:List (Addr×Obj)}{σ:St}{H:Hp}{s:Shared}{a C dx:Addr}{fs:List (Str×V)}{f:Str}{v:V}{A:Around}{E:Value->Shared->Prop}
def ck_2{b:Bool}{Q:Value->Shared->Prop}(I:Inv X zc σ H s)(e:H a=some (.ins C dx fs))(c:Cls X.K C)(n:NoAttr X.K C f)(l:fs.lookup f=some v)
  (h:∀u s',Inv X zc σ H s'->RelV v u->Q u s'):wpAny (model X.prog X.w) A (getAttr (.ref a) f b) Q E s:=by
 obtain⟨mA,O,r,_,_,_⟩:=bs_8 I.hok e;obtain⟨u,hu,ru⟩:=RelO.some_of (v:=v) (o:=mA f) (by rw [<-l];exact r f);exact dp_7 I.kIn O (c.get f) c.hd n hu (cw_3 ru) (h u _ (I.tok _) ru)
def be_4{m:Str}{g:Addr}{pl:Sem Bool}{Q:Value×List Value->Shared->Prop}(I:Inv X zc σ H s)(e:H a=some (.ins C dx fs))(c:Cls X.K C)(k:Meth X.K C m g)(l:fs.lookup m=none)
  (h:Q (.ref g,[.ref a]) s):wpAny (model X.prog X.w) A (getMethod (.ref a) m pl) Q E s:=by
 obtain⟨mA,O,r,_,_,_⟩:=bs_8 I.hok e;have hn:mA m=none:=RelO.none_of (by rw [<-l];exact r m);exact dd_6 I.kIn O (c.get m) k.at_ k.fn hn h
def ck_3{y:V}{u:Value}{Q:Unit->Shared->Prop}(I:Inv X zc σ H s)(e:H a=some (.ins C dx fs))(c:Cls X.K C)(n:NoAttr X.K C f)(hl:fs.length < 1000)(ry:RelV y u)
  (h:∀s',Inv X zc σ (upd H a (.ins C dx (Cz f y fs))) s'->Q () s'):wpAny (model X.prog X.w) A (setAttr (.ref a) f u) Q E s:=by
 obtain⟨mA,O,r,wi,_,ho⟩:=bs_8 I.hok e;have hz:(fs.map (·.1)).length<=sizeLine:=by rw [List.length_map,sizeLine_eq];omega
 refine dp_8 I.kIn O c.sa c.po n.taker c.hd wi hz λh' O' sb=>h _ ?_;have hd:∃o,h'.get? dx=some o:=let⟨o,_,_,e',_⟩:=O'.ns;⟨o,e'⟩;refine I.write (x:=a) (e:=dx) (by rw [e];exact True.intro) (.inr ho) (λb q hb z=>(sb.2 b hb).trans z) hd ?_;refine⟨by rw [Bm O.ne];exact ho, ?_,O.ne,O'.obj,_,O'.ns,λg=> ?_,λg hg=> ?_⟩
 ·have:=ay_2 f y fs;omega
 ·show RelO ((Cz f y fs).lookup g) (if g=f then some u else mA g);rw [ay_1]
  by_cases q:g=f
  ·rw [if_pos q,if_pos q];exact ry
  ·rw [if_neg q,if_neg q];exact r g
 ·by_cases q:g=f
  ·rw [q];exact(au_7 f y fs).1
  ·refine(au_7 f y fs).2 g (wi g λz=>hg ?_);show(if g=f then some u else mA g)=none;rw [if_neg q];exact z
def Inv.made(I:Inv X zc σ H s):Inv X zc σ (upd (upd H s.heap.objs.size (.own (s.heap.objs.size + 1))) (s.heap.objs.size + 1) (.ins C s.heap.objs.size []))
  {s with heap:=(s.heap.push emptyDict).push (instObj C s.heap.objs.size)}:=by
 have e1:(s.heap.push emptyDict).get? s.heap.objs.size=some emptyDict:=Heap.get?_push_size s.heap rfl;have e2:((s.heap.push emptyDict).push (instObj C s.heap.objs.size)).get? (s.heap.objs.size + 1)=some (instObj C s.heap.objs.size):=by
  have:=Heap.get?_push_size (s.heap.push emptyDict) (o:=instObj C s.heap.objs.size) rfl
  rwa [Heap.size_push] at this
 have e3:(s.heap.push emptyDict).Ns s.heap.objs.size (λ_=>none):=⟨emptyDict, #[],_,e1,rfl,(λe he=>absurd he (by simp)),λ_=>rfl⟩;have I1:=I.laid (a:=s.heap.objs.size) (o:=.own (s.heap.objs.size + 1)) (h':=s.heap.push emptyDict) (t':=s.toks) (λb u q=>Heap.get?_push_of_some _ q) (Nat.le_refl _) ⟨_,e1⟩;refine I1.laid (a:=s.heap.objs.size + 1) (o:=.ins C s.heap.objs.size []) (t':=s.toks) (λb u q=>Heap.get?_push_of_some _ q) (Nat.le_of_eq (Heap.size_push _ _)) ?_;have ne:s.heap.objs.size≠s.heap.objs.size + 1:=Nat.ne_of_lt (Nat.lt_succ_self _);refine⟨by rw [Bm ne,Cw],Nat.zero_le _,ne,e2,λ_=>none,(Heap.Ns1.of_empty e3).at λo q=>Heap.get?_push_of_some _ q,λ_=>True.intro,λy hy=>absurd rfl hy⟩
def dp_9{prog:Program}{w:World}{env:Env}{e:Expr}{f:Str}{pos:Pos}{s:Shared}{Q:Value->Shared->Prop}(hb:attributeBase e f env (eval e env)=eval e env)
  (h:wpAny (model prog w) A (eval e env) (λo s₁=>wpAny (model prog w) A (getAttr o f true) Q E s₁) E s):wpAny (model prog w) A (eval (.Attribute e f pos) env) Q E s:=
 Attribute_any_ h (by rw [arm_eval_Attribute,hb])
end
def tFld(K:Frag)(ta:TE)(f:Str):TE:=λ σ H Q=>ta σ H λx H1=>∃a C dx fs v,x=.ref a/\H1 a=some (.ins C dx fs)/\Cls K C/\NoAttr K C f/\fs.lookup f=some v/\Q v H1
def sFld(K:Frag)(ta tv:TE)(f:Str):TS:=λD σ H=>tv σ H λy H1=>ta σ H1 λx H2=>∃a C dx fs,x=.ref a/\H2 a=some (.ins C dx fs)/\Cls K C/\NoAttr K C f/\fs.length < 1000/\
 D.nx σ (upd H2 a (.ins C dx (Cz f y fs)))
section
variable{X:Cx}{o e value:Expr}{f:Str}{pos pos' zg:Pos}{ta tv:TE}
def ec_2(he:PE X e ta)(hb:attributeBase e f X.env (eval e X.env)=eval e X.env):PE X (.Attribute e f pos) (tFld X.K ta f):=by
 intro zc s σ H Q I h;refine dp_9 hb (Bh (he zc s σ H _ I h) λu s1 ⟨x,H1,I1,rx,a,C,dx,fs,v,ex,ea,c,n,l,q⟩=> ?_);subst ex;obtain rfl:u=Value.ref a:=rx;exact ck_2 I1 ea c n l λu' s2 I2 ru=>⟨v,H1,I2,ru,q⟩
def ec_3(ha:PE X o ta)(hv:PE X value tv)(hs:swapsWith value (some (.Attribute o f pos')) pos.line X.env=pure false):PS X (.Assign [.Attribute o f pos'] value pos) (sFld X.K ta tv f):=by
 intro zc s σ H D I h;refine plainObj_wpAny_Assign_Attribute (Bh (hv zc s σ H _ I h) λu s1 ⟨y,H1,I1,ry,q⟩=>Bh (ha zc s1 σ H1 _ I1 q) λov s2 ⟨x,H2,I2,rx,a,C,dx,fs,ex,ea,c,n,l,q2⟩=> ?_) hs;subst ex;obtain rfl:ov=Value.ref a:=rx;exact ck_3 I2 ea c n l ry λs3 I3=>⟨σ,_,I3,q2⟩
end
section
variable{X:Cx}{zc:List (Addr×Obj)}{σ:St}{H:Hp}{s:Shared}{A:Around}{E:Value->Shared->Prop}{Q:Value->Shared->Prop}{c:Value}{b:Bool}
inductive TyOf(K:Frag)(H:Hp):V->Value->Prop where
 |non:TyOf K H .non (.type "NoneType")
 |bl (x:Bool):TyOf K H (.bl x) (.type "bool")
 |int (i:Int):TyOf K H (.int i) (.type "int")
 |str (x:Str):TyOf K H (.str x) (.type "str")
 |flt (x:UInt64):TyOf K H (.flt x) (.type "float")
 |lst {a:Addr} {xs:List V} (e:H a=some (.lst xs)):TyOf K H (.ref a) (.type "list")
 |frz {a:Addr} {o:Obj} {xs:List V} (e:H a=some (.frz o (.lst xs))):TyOf K H (.ref a) (.type "list")
 |tup {a:Addr} {xs:List V} (e:H a=some (.tup xs)):TyOf K H (.ref a) (.type "tuple")
 |dK {a:Addr} {kvs:List (Au×V)} (e:H a=some (.dK kvs)):TyOf K H (.ref a) (.type "dict")
 |dT {a:Addr} {kvs:List (List Au×V)} (e:H a=some (.dT kvs)):TyOf K H (.ref a) (.type "dict")
 |ins {a C dx:Addr} {fs:List (Str×V)} (e:H a=some (.ins C dx fs)) (cl:Cls K C) (ha:findIn K (.ref C) "__class__" =some (some (.builtin "object.__class__")))
   (hn:specialIn K (.builtin "object.__class__") "__get__" =some (some (.builtin "getset_descriptor.__get__"))) (htk:takesIn K (.builtin "object.__class__")=some true)
   (hm:mroIn K C (.type "object")=some true):TyOf K H (.ref a) (.ref C)
end
structure Room(k:Nat)(A:Around):Prop where
 hd:A.handled=none
 dp:A.depth + 3 * k + 5 < recursionLimit
 un:A.units + 16 * k + 200 < cLine
theorem Room.in1{k:Nat}{A:Around}(r:Room (k + 1) A):Room k A.in1:=
 ⟨r.hd,by have:=r.dp;show A.depth + 3 * k + 5 < _;omega,by have:=r.un;show A.units + 1 + 16 * k + 200 < _;omega⟩
def ck_4{A:Around}{C:Addr}{us:List Value}{kw:List (Str×Value)}:(A.under (.builtin "type.__call__" ⟨.ref C::us,kw⟩)).depth=A.depth + 1:=by
 first|rfl|simp [Around.under,Code.weight,Code.isCreation,Code.isGuard,Code.isCaller,Code.frames,Code.isFrame,guardIds]
def ck_5{A:Around}{C:Addr}{us:List Value}{kw:List (Str×Value)}:(A.under (.builtin "type.__call__" ⟨.ref C::us,kw⟩)).units=A.units + 1:=by
 first|rfl|simp [Around.under,Code.cUnits,Code.frames,Code.isFrame]
theorem Room.depth{k:Nat}{A:Around}(r:Room k A):A.depth < recursionLimit:=by have:=r.dp;omega
def tNil:TA:=λ_ H Q=>Q [] H
def ek_8(ta:TE)(tr:TA):TA:=λ σ H Q=>ta σ H λx H1=>tr σ H1 λxs H2=>Q (x::xs) H2
section
variable{X:Cx}{e:Expr}{es:List Expr}{te:TE}{t:TA}{pos:Pos}
def y_5:PA X [] tNil:=λ_ _ _ _ H Q I h=>Calls.spliced_nil ⟨[],H,I,.nil,h⟩
def k_9(ha:PE X e te)(hr:PA X es t)(hs:starEach (e::es) X.env=(false,eval e X.env)::starEach es X.env:=by rfl):PA X (e::es) (ek_8 te t):=by
 intro pos zc s σ H Q I h;rw [hs];show wpAny _ _ (spliced ((false,eval e X.env)::backTo pos (starEach es X.env))) _ _ s;refine Calls.spliced_cons (Bh (ha zc s σ H _ I h) λu s1 ⟨x,H1,I1,r1,q1⟩=> ?_);exact Bh (hr pos zc s1 σ H1 _ I1 q1) λus s2 ⟨xs,H2,I2,r2,q2⟩=>⟨x::xs,H2,I2,.cons r1 r2,q2⟩
def tTup(t:TA):TE:=λ σ H Q=>t σ H λxs H1=>xs.length<=sizeLine/\∀p,H1 p=none->Q (.ref p) (upd H1 p (.tup xs))
def tLst(t:TA):TE:=λ σ H Q=>t σ H λxs H1=>xs.length<=sizeLine/\∀p,H1 p=none->Q (.ref p) (upd H1 p (.lst xs))
def dd_8{x1}(h:PA X es t):PE X (.Tuple es x1 pos) (tTup t):=by
 intro zc s σ H Q I hq;refine wpAny_Tuple_spliced (Bh (h pos zc s σ H _ I hq) λus s1 ⟨xs,H1,I1,r,z,q⟩=>⟨by rw [<-r.length];exact z, ?_⟩);have hf:H1 s1.heap.objs.size=none:=I1.hok.fresh (Nat.le_refl _);refine⟨.ref s1.heap.objs.size,upd H1 s1.heap.objs.size (.tup xs),I1.laid (t':=s1.toks) (λb u e=>Heap.get?_push_of_some _ e) (Nat.le_refl _) ?_,rfl,q _ hf⟩;exact⟨z,us,r,⟨_,Heap.get?_push_size _ rfl,rfl,_,rfl⟩⟩
def dd_9(h:PA X es t):PE X (.List es pos) (tLst t):=by
 intro zc s σ H Q I hq;refine wpAny_List_spliced (Bh (h pos zc s σ H _ I hq) λus s1 ⟨xs,H1,I1,r,z,q⟩=>⟨by rw [<-r.length];exact z, ?_⟩);have hf:H1 s1.heap.objs.size=none:=I1.hok.fresh (Nat.le_refl _);refine⟨.ref s1.heap.objs.size,upd H1 s1.heap.objs.size (.lst xs),I1.laid (t':=s1.toks) (λb u e=>Heap.get?_push_of_some _ e) (Nat.le_refl _) ?_,rfl,q _ hf⟩;exact⟨z,us,0,r,Heap.get?_push_size _ rfl⟩
end
abbrev Sp:=List V->Hp->VK->XK->Prop
abbrev CXT:=List Env->Hp->Shared->XK->Value->Shared->Prop
structure Env0(P:Program)(w:World)(K:Frag)(mg:Str->Option Value)(base:Heap)(A:Around)(outer:List Env)(s:Shared)(H:Hp):Prop where
 frames:A.frames=some outer
 mod:Mod K mg base
 bs:∀b o,base.get? b=some o->s.heap.get? b=some o/\H b=none
 bsz:base.objs.size<=s.heap.objs.size
 funs:s.heap.FunFrames base outer
 frf:∀b∈frs outer,H b=none
 hok:HOk P w H s.heap
 bare:AllBare s.gens
def CE(outer:List Env)(P:Program)(w:World)(H:Hp)(s:Shared)(Q:VK)(u:Value)(s':Shared):Prop:=
 ∃v H',s'.os=s.os/\AllBare s'.gens/\Un (frs outer) [] H H' s.heap s'.heap/\HOk P w H' s'.heap/\RelV v u/\Q v H'
def CR(CX:CXT)(outer:List Env)(P:Program)(w:World)(H:Hp)(s:Shared)(Q:VK)(E:XK)(r:Result)(s':Shared):Prop:=
 match r with
 | .ok (.ret u)=>CE outer P w H s Q u s'
 | .ok _=>False
 | .error e=>CX outer H s E e s'
structure FnOk(P:Program)(w:World)(K:Frag)(mg:Str->Option Value)(base:Heap)(CX:CXT)(k:Nat)(f:Addr)(fd:FuncData)(ps:List Str)(sp:Sp):Prop where
 len:∀vs H Q E,sp vs H Q E->vs.length=ps.length
 run:∀(A:Around) (outer:List Env) (s:Shared) (H:Hp) (args:Args) (us:List Value) (vs:List V) (Q:VK) (E:XK),Room k A->Env0 P w K mg base A outer s H->BindsTo s fd args (ps.zip us)->Vals vs us->sp vs H Q E->
  codeAny (model P w) A (.call (.ref f) args) (CR CX outer P w H s Q E) s
def Env0.make{P:Program}{w:World}{K:Frag}{mg:Str->Option Value}{base:Heap}{A:Around}{outer:List Env}{s:Shared}{H:Hp}(e:Env0 P w K mg base A outer s H)(C:Addr)(us:List Value)(kw:List (Str×Value)):
  Env0 P w K mg base (A.under (.builtin "type.__call__" ⟨.ref C::us,kw⟩)) outer s H:=⟨by first|exact e.frames|(simpa [Around.under,Code.envs,Code.isFrame,pushEnvs] using e.frames),e.mod,e.bs,e.bsz,e.funs,e.frf,e.hok,e.bare⟩
theorem Env0.in1{P:Program}{w:World}{K:Frag}{mg:Str->Option Value}{base:Heap}{A:Around}{outer:List Env}{s:Shared}{H:Hp}(e:Env0 P w K mg base A outer s H):
  Env0 P w K mg base A.in1 outer s H:=⟨e.frames,e.mod,e.bs,e.bsz,e.funs,e.frf,e.hok,e.bare⟩
section
variable{X:Cx}{zc:List (Addr×Obj)}{σ:St}{H:Hp}{s s':Shared}
def Inv.env0(I:Inv X zc σ H s):Env0 X.prog X.w X.K X.mg X.base X.A X.stack s H:=
 ⟨I.ok.frames,I.ok.mod,I.bs,Nat.le_trans I.ok.bsz I.sz,I.stack,I.stkFree,I.hok,I.bare⟩
def Inv.after{Q:VK}{u:Value}(I:Inv X zc σ H s)(h:CE X.stack X.prog X.w H s Q u s'):EP X zc σ Q u s':=by
 obtain⟨v,H',os,bare,un,hok,r,q⟩:=h;obtain⟨hh,g,d,t,os'⟩:=s';obtain rfl:os'=s.os:=os;exact⟨v,H',I.call (h':=hh) (g':=g) (d':=d) (t':=t) (ch:=[]) un hok bare (λb z=>absurd z (by simp)),r,q⟩
end
def Binds(K:Frag)(fd:FuncData)(ps:List Str)(ds:List Value):Prop:=
 ∀(s:Shared) (us:List Value),K.In s.heap->(us ++ ds).length=ps.length->BindsTo s fd ⟨us,[]⟩ (ps.zip (us ++ ds))
def Binds.all{K:Frag}{fd:FuncData}{ps:List Str}(h:∀us:List Value,us.length=ps.length->bindArgs fd ⟨us,[]⟩=pure (ps.zip us)):Binds K fd ps []:=λs us _ hl=>by
 rw [List.append_nil] at hl⊢;exact .of_eq (h us hl)
section
variable{X:Cx}{CX:CXT}{k:Nat}{f C:Addr}{fd:FuncData}{ps:List Str}{sp:Sp}{dvs:List V}{ds:List Value}{E:XK}{x m:Str}{p pos zf:Pos}{e o:Expr}{es:List Expr}{ta:TE}{t:TA}
structure Mk(K:Frag)(C f:Addr):Prop where
 makes:makesIn K C=true
 init:findIn K (.ref C) "__init__" =some (some (.ref f))
 fn:isFn K (.ref f)=true
 kp:keepIn K (.ref C)=true
end
section
variable{X:Cx}{CX:CXT}{k:Nat}{f C:Addr}{fd:FuncData}{ps ks:List Str}{sp:Sp}{E:XK}{x m:Str}{p pos zf gr:Pos}{e o:Expr}{es:List Expr}{kws:List Keyword}{te ta:TE}{t tk:TA}{nm:Option Str}
structure KBinds(K:Frag)(fd:FuncData)(ps ks:List Str)(g:List Value->List Value->List Value)(gV:List V->List V->List V):Prop where
 to:∀(s:Shared) (us ws:List Value),K.In s.heap->(g us ws).length=ps.length->BindsTo s fd ⟨us,ks.zip ws⟩ (ps.zip (g us ws))
 rel:∀{vs:List V} {us:List Value} {zs:List V} {ws:List Value},Vals vs us->Vals zs ws->Vals (gV vs zs) (g us ws)
variable{g:List Value->List Value->List Value}{gV:List V->List V->List V}
end
structure FnScope(N P:List Str)(sc:Scope):Prop where
 kind:sc.kind=.function
 co:sc.isCoroutine=false
 gen:sc.isGenerator=false
 nd:N.Nodup
 pre:N.take P.length=P
 par:∀x∈P,sc.names.lookup x=some .local\/sc.names.lookup x=some .cell
 nofree:∀y∈sc.names,y.2≠ .free
theorem bn_3{kindOf:Str->Option NameKind}{x:Str}:∀{binds:List (Str×Value)} {m:Str->Option Value},(∀v,(x,v)∉binds)->bindL kindOf binds m x=m x
 | [],_,_=>rfl
 |(n,v)::r,m,h=>by
  unfold bindL;rw [bn_3 λw hw=>h w (List.mem_cons_of_mem _ hw)]
  split
  ·have:x≠n:=by rintro rfl;exact h v List.mem_cons_self
   simp [this]
  ·rfl
theorem bn_4{kindOf:Str->Option NameKind}{x:Str}:∀{binds:List (Str×Value)} {m:Str->Option Value},(∀v,(x,v)∉binds)->bindC kindOf binds m x=m x
 | [],_,_=>rfl
 |(n,v)::r,m,h=>by
  unfold bindC;rw [bn_4 λw hw=>h w (List.mem_cons_of_mem _ hw)]
  split
  ·rfl
  ·have:x≠n:=by rintro rfl;exact h v List.mem_cons_self
   simp [this]
theorem bn_5{kindOf:Str->Option NameKind}{x:Str}{v:Value}:∀{P:List Str} {vs:List Value} {i:Nat} {m:Str->Option Value},P.Nodup->P[i]? =some x->vs[i]? =some v->kindOf x=some .local->
  bindL kindOf (P.zip vs) m x=some v
 | [],_,_,_,_,h,_,_=>by simp at h
 |_::_,[],_,_,_,_,h,_=>by simp at h
 |p::P,w::vs,0,m,nd,h1,h2,hk=>by
  simp at h1 h2;subst h1;subst h2;show bindL kindOf ((p,w)::P.zip vs) m p=_;unfold bindL;rw [bn_3 λv hv=>(List.nodup_cons.mp nd).1 (List.of_mem_zip hv).1,if_pos hk];simp
 |p::P,w::vs,i + 1,m,nd,h1,h2,hk=>by
  show bindL kindOf ((p,w)::P.zip vs) m x=_;unfold bindL;exact bn_5 (i:=i) (List.nodup_cons.mp nd).2 (by simpa using h1) (by simpa using h2) hk
theorem bn_6{kindOf:Str->Option NameKind}{x:Str}{v:Value}:∀{P:List Str} {vs:List Value} {i:Nat} {m:Str->Option Value},P.Nodup->P[i]? =some x->vs[i]? =some v->kindOf x≠some .local->
  bindC kindOf (P.zip vs) m x=some v
 | [],_,_,_,_,h,_,_=>by simp at h
 |_::_,[],_,_,_,_,h,_=>by simp at h
 |p::P,w::vs,0,m,nd,h1,h2,hk=>by
  simp at h1 h2;subst h1;subst h2;show bindC kindOf ((p,w)::P.zip vs) m p=_;unfold bindC;rw [bn_4 λv hv=>(List.nodup_cons.mp nd).1 (List.of_mem_zip hv).1,if_neg hk];simp
 |p::P,w::vs,i + 1,m,nd,h1,h2,hk=>by
  show bindC kindOf ((p,w)::P.zip vs) m x=_;unfold bindC;exact bn_6 (i:=i) (List.nodup_cons.mp nd).2 (by simpa using h1) (by simpa using h2) hk
def Hb(N:List Str)(vs:List V):St:=vs.map some ++ List.replicate (N.length - vs.length) none
def Fy(CX:CXT)(P:Program)(w:World)(K:Frag)(mg:Str->Option Value)(base:Heap)(N:List Str)(qual:Str)(scope:Scope)(f:Addr)(cd:Value)(A:Around)(outer:List Env)(s:Shared)(H:Hp)(E:XK):Cx where
 prog:=P
 w:=w
 K:=K
 mg:=mg
 base:=base
 A:=A.deeper (envOfC qual scope s.heap.objs.size f cd)
 N:=N
 s₀:=s
 H₀:=H
 env:=envOfC qual scope s.heap.objs.size f cd
 outer:=outer
 stack:=envOfC qual scope s.heap.objs.size f cd::outer
 ex:=[]
 calm:=true
 fn:=λ_=>true
 pn:=[]
 xe:=λe s'=>wpAny (model P w) (A.deeper (envOfC qual scope s.heap.objs.size f cd)) (leaving (envOfC qual scope s.heap.objs.size f cd) e) (λ_ s''=>CX outer H s E e s'') (λe' s''=>CX outer H s E e' s'') s'
def ca_1{sc:Scope}{n:Nat}{x:Str}(h:sc.names.lookup x=some .cell):∃c,(cellsFrom n sc.names []).lookup x=some c:=by
 have q:=cellsFrom_some sc.names n [] (.inl h);exact Option.isSome_iff_exists.mp q
def cw_4{CX:CXT}{P:Program}{w:World}{K:Frag}{mg:Str->Option Value}{base:Heap}{N ps:List Str}{qual:Str}{scope:Scope}{f:Addr}{cd:Value}{A:Around}{outer:List Env}{s s1:Shared}{H:Hp}{E:XK}{us:List Value}{vs:List V}
  (S:FnScope N ps scope) (hd:A.handled=none) (e0:Env0 P w K mg base A outer s H) (hl:vs.length=ps.length) (r:Vals vs us)
  (x:InCallC s s.heap.objs.size (bindL (envOfC qual scope s.heap.objs.size f cd).kindOf (ps.zip us) λ_=>none) (cellsFrom (s.heap.objs.size + 1) scope.names []) (bindC (envOfC qual scope s.heap.objs.size f cd).kindOf (ps.zip us) λ_=>none) s1):
  Inv (Fy CX P w K mg base N qual scope f cd A outer s H E) [] (Hb N vs) H s1:=by
 have hpl:ps.length<=N.length:=by have:=congrArg List.length S.pre;rw [List.length_take] at this;omega
 obtain⟨h1,tk,rfl,hk⟩:=x.done;have noA:∀b:Addr,b∉(Fy CX P w K mg base N qual scope f cd A outer s H E).ex:=λb z=>absurd (show b∈([]:List Addr) from z) (by simp);refine⟨⟨e0.mod,S.kind,rfl,rfl,Nat.le_refl _,λy z c h1 h2=> ?_,λy hy=> ?_,λy c _ h=> ?_,λ_=>hd,Around.frames_deeper e0.frames,.inr ⟨rfl,rfl⟩,λb z=>absurd z (noA b),e0.bs,e0.bsz,λb _ _=>noA b,λb z=>absurd z (noA b),e0.funs,e0.frf⟩,
  rfl,e0.bare,Un.kept hk,⟨_,x.toInCall.ns,λi y v h1 h2 h3=> ?_⟩,λy c h=>⟨_,x.cell y c h⟩,e0.hok.fresh (Nat.le_refl _),λy c h=> ?_,λp hp=>absurd (show p∈([]:List (Addr×Obj)) from hp) (by simp),e0.hok.kept hk, ?_⟩
 ·exact name_of_addr x.apart (PySem.mem_of_lookup h1) (PySem.mem_of_lookup h2)
 ·have hy:scope.names.lookup y=some .cell\/scope.names.lookup y=some .free:=hy;rcases hy with hy|hy
  ·exact ca_1 hy
  ·exact absurd rfl (S.nofree _ (PySem.mem_of_lookup hy))
 ·exact Nat.le_of_lt (x.above y c (PySem.mem_of_lookup h))
 ·have hi:i < vs.length:=by
   unfold Hb at h2
   by_cases hi:i < vs.length
   ·exact hi
   ·rw [List.getElem?_append_right (by simpa using hi)] at h2;rw [List.getElem?_replicate] at h2
    split at h2 <;> cases h2
  have ha:vs[i]? =some v:=by
   unfold Hb at h2;rw [List.getElem?_append_left (by simpa using hi),List.getElem?_map] at h2;cases e:vs[i]? with
   |none=>rw [e] at h2;cases h2
   |some a=>rw [e] at h2;cases h2;rfl
  obtain⟨u,hu,rv⟩:=r.get ha;have hp:ps[i]? =some y:=by
   rw [<-S.pre,List.getElem?_take_of_lt (by omega)];exact h1
  have ndP:ps.Nodup:=by rw [<-S.pre];exact S.nd.sublist (List.take_sublist _ _)
  refine⟨u,rv, ?_⟩;rcases S.par y (List.mem_of_getElem? hp) with k|k
  ·exact .inl ⟨k,bn_5 ndP hp hu k⟩
  ·obtain⟨c,e⟩:=ca_1 (n:=s.heap.objs.size + 1) k;refine .inr ⟨.inl k,c,e, ?_⟩;have q:=x.cell y c e;rw [bn_6 ndP hp hu (by show scope.names.lookup y≠_;rw [k];decide)] at q;exact q
 ·exact e0.hok.fresh (Nat.le_of_lt (x.above y c (PySem.mem_of_lookup h)))
 ·unfold Hb;show _=N.length;rw [List.length_append,List.length_map,List.length_replicate];omega
section
variable{X:Cx}{x:Str}{p pos:Pos}{e:Expr}{es:List Expr}{t:TA}{id T:String}{r:List V->Hp->VK->Prop}
def tCB(r:List V->Hp->VK->Prop)(t:TA):TE:=λ σ H Q=>t σ H λvs H1=>r vs H1 Q
def be_6(hc:Fg X (.builtin id) r)(hg:Gl X x)(hm:X.mg x=none)(hv:bootBuiltins x=some (.builtin id))(ha:PA X (e::es) t)(hn:x≠ "__name__" :=by decide)(hdb:(x ==("__debug__" :Str))=false:=by decide)
  (he:starEach (e::es) X.env=(false,eval e X.env)::starEach es X.env:=by rfl) (hpl:(backTo pos (starEach es X.env)).any (·.1)=false:=by rfl):PE X (.Call (.Name x p) (e::es) [] pos) (tCB r t):=by
 intro zc s σ H Q I h;refine wpAny_Call_Name_kw (ae_2 I hg hm hv ?_ hn hdb);exact PyProof.Rows.callWith_builtin1 (Bh (ha pos zc s σ H _ I h) λus s1 ⟨vs,H1,I1,r1,q1⟩=>hc zc s1 σ H1 vs us Q I1 r1 q1) he hpl
def cw_5(hc:Fg X (.type T) r)(hg:Gl X x)(hm:X.mg x=none)(hv:bootBuiltins x=some (.type T))(ha:PA X (e::es) t)(hn:x≠ "__name__" :=by decide)(hdb:(x ==("__debug__" :Str))=false:=by decide)
  (he:starEach (e::es) X.env=(false,eval e X.env)::starEach es X.env:=by rfl) (hpl:(backTo pos (starEach es X.env)).any (·.1)=false:=by rfl):PE X (.Call (.Name x p) (e::es) [] pos) (tCB r t):=by
 intro zc s σ H Q I h;refine wpAny_Call_Name_kw (ae_2 I hg hm hv ?_ hn hdb);exact PyProof.Rows.callWith_type1 (Bh (ha pos zc s σ H _ I h) λus s1 ⟨vs,H1,I1,r1,q1⟩=>hc zc s1 σ H1 vs us Q I1 r1 q1) he hpl
end
end L2
namespace HT
open PySem PyProof.Rows
section
open PySem.SeqAt
open PySem.AutoSeq1 (wpAny_loadPart')
open PySem.MeetsSeq PySem.MeetsSeq2 PySem.MeetsSeq3
end
section
variable{prog:Program}{w:World}{A:Around}{E:Value->Shared->Prop}{s:Shared}
def sIx(n d:Nat):Option Int->Nat
 |none=>d
 |some v=>if v < 0 then(v + (n:Int)).toNat else min v.toNat n
def sIx_le(n d:Nat)(hd:d<=n)(o:Option Int):sIx n d o<=n:=by
 cases o with
 |none=>exact hd
 |some v=>
  show(if v < 0 then(v + (n:Int)).toNat else min v.toNat n)<=n
  by_cases hv:v < 0
  ·rw [if_pos hv];omega
  ·rw [if_neg hv];exact Nat.min_le_right _ _
end
end HT
namespace L2
open PySem PySem.Spec PyProof.Rows
abbrev TO:=St->Hp->(Option Int->Hp->Prop)->Prop
def PO(X:Cx)(e:Option Expr)(t:TO):Prop:=
 ∀(zc:List (Addr×Obj)) (s:Shared) (σ:St) (H:Hp) (Q:Option Int->Hp->Prop),Inv X zc σ H s->t σ H Q->
  wpAny (model X.prog X.w) X.A (evalPart e X.env) (λu s'=>∃o H',Inv X zc σ H' s'/\IsPart u o/\Q o H') X.xe s
def dq_0:TO:=λ_ H Q=>Q none H
def ek_9(t:TE):TO:=λ σ H Q=>t σ H λx H1=>∃i,x=.int i/\Q (some i) H1
section
variable{X:Cx}{e:Expr}{te:TE}{lo hi:Option Expr}{tl th:TO}{pos p2:Pos}
def dq_1:PO X none dq_0:=by
 intro zc s σ H Q I h;rw [evalPart_none];exact wpAny_pure ⟨none,H,I,.none,h⟩
def dq_2(h:PE X e te):PO X (some e) (ek_9 te):=by
 intro zc s σ H Q I hw;rw [evalPart_some];refine Bh (h zc s σ H _ I hw) λu s1 ⟨x,H1,I1,r1,q1⟩=> ?_;obtain⟨i,rfl,q⟩:=q1;obtain⟨t,rfl⟩:=r1;exact⟨some i,H1,I1,.int i t,q⟩
def SlR(X:Cx)(r:V->Option Int->Option Int->Hp->VK->Prop):Prop:=
 ∀(zc:List (Addr×Obj)) (s:Shared) (σ:St) (H:Hp) (x:V) (v vl vu:Value) (lo hi:Option Int) (sl:Addr) (Q:VK),Inv X zc σ H s->RelV x v->s.heap.IsSliceOf sl vl vu .none->IsPart vl lo->IsPart vu hi->r x lo hi H Q->
  ∃T id,typeLookup (.type T) "__getitem__" =pure (some (.builtin id))/\s.TypeIs v T/\wpAny (model X.prog X.w) X.A (getItem v (.ref sl)) (EP X zc σ Q) X.xe s
def tSl(r:V->Option Int->Option Int->Hp->VK->Prop)(te:TE)(tl th:TO):TE:=λ σ H Q=>te σ H λx H1=>tl σ H1 λl H2=>th σ H2 λu H3=>r x l u H3 Q
def de_0{r:V->Option Int->Option Int->Hp->VK->Prop}(hr:SlR X r)(he:PE X e te)(hl:PO X lo tl)(hu:PO X hi th):PE X (.Subscript e (.Slice lo hi none p2) pos) (tSl r te tl th):=by
 intro zc s σ H Q I h;refine Subscript_ (Bh (he zc s σ H _ I h) λv s1 ⟨x,H1,I1,r1,q1⟩=> ?_);refine wpAny_Slice (Bh (hl zc s1 σ H1 _ I1 q1) λvl s2 ⟨l,H2,I2,pl,q2⟩=>Bh (hu zc s2 σ H2 _ I2 q2) λvu s3 ⟨u,H3,I3,pu,q3⟩=> ?_);rw [evalPart_none];refine wpAny_pure ?_;have I4:Inv X zc σ H3 {s3 with heap:=s3.heap.push {cls:=.type "slice",data:=.fields #[vl,vu,.none]}}:=I3.kept (t':=s3.toks) λb ob q=>Heap.get?_push_of_some _ q;obtain⟨T,id,hT,ht,hg⟩:=hr zc {s3 with heap:=s3.heap.push {cls:=.type "slice",data:=.fields #[vl,vu,.none]}} σ H3 x v vl vu l u s3.heap.objs.size Q I4 r1 (Heap.IsSliceOf.new ..) pl pu q3;show wpAny (model X.prog X.w) X.A (subscriptTail e (.Slice lo hi none p2) v (.ref s3.heap.objs.size)) (EP X zc σ Q) X.xe {s3 with heap:=s3.heap.push {cls:=.type "slice",data:=.fields #[vl,vu,.none]}};exact tail_any (ops:=[.ref s3.heap.objs.size,v]) ht hT hg (by with_unfolding_all rfl)
def cutV(xs:List V)(lo hi:Option Int):List V:=(xs.drop (HT.sIx xs.length 0 lo)).take (HT.sIx xs.length xs.length hi - HT.sIx xs.length 0 lo)
def ca_2(xs:List V)(lo hi:Option Int):(cutV xs lo hi).length<=xs.length:=by
 unfold cutV;rw [List.length_take,List.length_drop];omega
end
def ixN(n:Nat)(i:Int):Option Nat:=if 0<=i then(if i < n then some i.toNat else none) else if -(n:Int)<=i then some (i + n).toNat else none
def atI{α:Type}(xs:List α)(i:Int):Option α:=(ixN xs.length i).bind λj=>xs[j]?
def cq_4{n:Nat}{i:Int}{j:Nat}(h:ixN n i=some j):seqIndex? i n=some j/\j < n/\ -(n:Int)<=i/\i < n:=by
 unfold ixN at h
 by_cases h0:0<=i
 ·rw [if_pos h0] at h
  by_cases h1:i < n
  ·rw [if_pos h1] at h;have e:i.toNat=j:=Option.some.inj h;exact⟨by rw [seqIndex_of h0 h1,e],by omega,by omega,h1⟩
  ·rw [if_neg h1] at h;cases h
 ·rw [if_neg h0] at h
  by_cases h1: -(n:Int)<=i
  ·rw [if_pos h1] at h;have e:(i + n).toNat=j:=Option.some.inj h;exact⟨by rw [seqIndex_neg (by omega) h1,e],by omega,h1,by omega⟩
  ·rw [if_neg h1] at h;cases h
def bs_9{α:Type}{xs:List α}{i:Int}{v:α}(h:atI xs i=some v):∃j,seqIndex? i xs.length=some j/\xs[j]? =some v/\j < xs.length/\ -(xs.length:Int)<=i/\i < xs.length:=by
 unfold atI at h;cases e:ixN xs.length i with
 |none=>rw [e] at h;cases h
 |some j=>
  rw [e] at h;obtain⟨h1,h2,h3,h4⟩:=cq_4 e;exact⟨j,h1,h,h2,h3,h4⟩
def cq_5(b:Expr):Prop:=∀o i,subscripted b false o i=operate [o,i] (getItem o i)
def IxR(X:Cx)(r:R2):Prop:=
 ∀(value slice:Expr) (zc:List (Addr×Obj)) (s:Shared) (σ:St) (H:Hp) (x y:V) (v u:Value) (Q:VK),Inv X zc σ H s->RelV x v->RelV y u->r x y H Q->
  subscripted slice false v u=operate [v,u] (getItem v u)->wpAny (model X.prog X.w) X.A (subscriptTail value slice v u) (EP X zc σ Q) X.xe s
def MtR(X:Cx)(id:String)(r:V->List V->Hp->VK->Prop):Prop:=
 ∀(zc:List (Addr×Obj)) (s:Shared) (σ:St) (H:Hp) (x:V) (xs:List V) (v:Value) (us:List Value) (Q:VK),Inv X zc σ H s->RelV x v->Vals xs us->r x xs H Q->
  wpAny (model X.prog X.w) X.A (call (.builtin id) (v::us)) (EP X zc σ Q) X.xe s
section
variable{X:Cx}{a b:Expr}{ta tb:TE}{pos:Pos}
def el_0{r:R2}(hr:IxR X r)(ha:PE X a ta)(hb:PE X b tb)(hs:cq_5 b):PE X (.Subscript a b pos) (tOp r ta tb):=by
 intro zc s σ H Q I h;exact Subscript_ (binT ha hb I h λv u s2 x y H2 I2 rx ry q=>hr a b zc s2 σ H2 x y v u Q I2 rx ry q (hs _ _))
def rIxL(K:Frag):R2:=λx y H Q=>∃p xs i v,x=.ref p/\y=.int i/\SqL K H p xs/\atI xs i=some v/\Q v H
def rIxT(K:Frag):R2:=λx y H Q=>∃p xs i v,x=.ref p/\y=.int i/\SqT K H p xs/\atI xs i=some v/\Q v H
def rIxS:R2:=λx y H Q=>∃z i c,x=.str z/\y=.int i/\z.length<=sizeLine/\atI z.cps.toList i=some c/\Q (.str ⟨#[c]⟩) H
def dq_3:IxR X (rIxL X.K):=by
 intro value slice zc s σ H x y v u Q I rx ry h hs;obtain⟨p,xs,i,z,rfl,rfl,hq,he,q⟩:=h;cases rx;obtain⟨t,rfl⟩:=ry;obtain⟨its,r,pl,hz⟩:=I.list hq;obtain⟨j,h1,h2,h3,h4,h5⟩:=bs_9 he;obtain⟨w,ew,rw'⟩:=r.get h2;have hl:=r.length;have hn:=ap_1;have fin:EP X zc σ Q w s:=⟨z,H,I,rw',q⟩
 by_cases h0:0<=i
 ·have hj:i.toNat=j:=by
   rw [seqIndex_of h0 h5] at h1;exact Option.some.inj h1
  exact item_listR pl.isList h0 (by omega) (by rw [hj];simpa using ew) fin hs
 ·have hj:(i + (its.toArray.size:Int)).toNat=j:=by
   rw [seqIndex_neg (by omega) h4] at h1;rw [List.size_toArray,<-hl];exact Option.some.inj h1
  exact subscriptTail_builtinR (x:=w) pl.isList.typeIs slot_list_getitem.lookup
   (wpAny_getItem_list_neg (Q:=λr s'=>r=w/\EP X zc σ Q r s') pl.isList (by omega) (by rw [List.size_toArray] <;> omega) (by omega) (by rw [hj];simpa using ew) ⟨rfl,fin⟩) hs
def ec_4:IxR X (rIxT X.K):=by
 intro value slice zc s σ H x y v u Q I rx ry h hs;obtain⟨p,xs,i,z,rfl,rfl,hq,he,q⟩:=h;cases rx;obtain⟨t,rfl⟩:=ry;obtain⟨its,r,pl,hz⟩:=I.tuple hq;obtain⟨j,h1,h2,h3,h4,h5⟩:=bs_9 he;obtain⟨w,ew,rw'⟩:=r.get h2;have hl:=r.length;have hn:=ap_1;have fin:EP X zc σ Q w s:=⟨z,H,I,rw',q⟩;exact subscriptTail_builtinR (x:=w) pl.typeIs slot_tuple_getitem.lookup
  (getItem_tuple (j:=j) (Q:=λr s'=>r=w/\EP X zc σ Q r s') pl (by omega) (by omega) (by rw [List.size_toArray,<-hl];exact h1) (by simpa using ew) ⟨rfl,fin⟩) hs
def ec_5:IxR X rIxS:=by
 intro value slice zc s σ H x y v u Q I rx ry h hs;obtain⟨z,i,c,rfl,rfl,hz,he,q⟩:=h;obtain⟨t,rfl⟩:=rx;obtain⟨t',rfl⟩:=ry;obtain⟨j,h1,h2,h3,h4,h5⟩:=bs_9 he;have hl:z.cps.toList.length=z.length:=by simp [Str.length]
 rw [hl] at h1 h4 h5;have hn:=ap_1;exact tail_any (typeIs_str s z t) slot_str_getitem.lookup (getItem_str (c:=c) (by
  have e1:decide (i < -(2 ^ 63:Int))=false:=decide_eq_false (by omega);have e2:decide (i≥2 ^ 63)=false:=decide_eq_false (by omega);rw [e1,e2,Bool.or_false]) (by rw [h1];simpa using h2) ⟨.str ⟨#[c]⟩,H,I.tok _,⟨_,rfl⟩,q⟩) hs
def ck_6(its:List Value)(n j:Nat)(u:Value):Obj.mapSeq (·.setIfInBounds j u) {cls:=.type "list",data:=.seq its.toArray n}={cls:=.type "list",data:=.seq (its.set j u).toArray n}:=by
 simp [Obj.mapSeq]
theorem Inv.lst{zc:List (Addr×Obj)}{σ:St}{H:Hp}{s:Shared}{p:Addr}{xs:List V}(I:Inv X zc σ H s)(h:H p=some (.lst xs)):
  ∃(its:List Value) (n:Nat),Vals xs its/\s.heap.get? p=some {cls:=.type "list",data:=.seq its.toArray n}/\xs.length<=sizeLine:=by
 obtain⟨z,its,n,r,e⟩:=I.hok p _ h;exact⟨its,n,r,e,z⟩
def Inv.lstUpd{zc:List (Addr×Obj)}{σ:St}{H:Hp}{s:Shared}{p:Addr}{xs ys:List V}{its its':List Value}{n n':Nat}{f:Obj->Obj}(I:Inv X zc σ H s)(h:H p=some (.lst xs))
  (ho:s.heap.get? p=some {cls:=.type "list",data:=.seq its.toArray n}) (hf:f {cls:=.type "list",data:=.seq its.toArray n}={cls:=.type "list",data:=.seq its'.toArray n'}) (r:Vals ys its') (hz:ys.length<=sizeLine) (t:Nat):
  Inv X zc σ (upd H p (.lst ys)) {s with heap:=s.heap.update p f,toks:=t}:=by
 have e:(s.heap.update p f).get? p=some {cls:=.type "list",data:=.seq its'.toArray n'}:=by
  rw [Heap.get?_update_self f ho (by rw [hf] <;> rfl),hf]
 refine I.write (x:=p) (e:=p) (by rw [h];trivial) (.inl rfl) (λb u hb q=>(Heap.get?_update_other _ _ (Ne.symm hb)).trans q) ⟨_,e⟩ ?_;exact⟨hz,its',n',r,e⟩
def el_1:V->V->V->Hp->(Hp->Prop)->Prop:=λo i v H Q=>∃p xs k j,o=.ref p/\i=.int k/\H p=some (.lst xs)/\ixN xs.length k=some j/\Q (upd H p (.lst (xs.set j v)))
def ca_3:PSet X el_1:=by
 intro zc s σ H o i v ov iv u Q I ro ri rv h;obtain⟨p,xs,k,j,rfl,rfl,hp,hj,q⟩:=h;cases ro;obtain⟨t,rfl⟩:=ri;obtain⟨its,n,r,ho,hz⟩:=I.lst hp;obtain⟨h1,h2,h3,h4⟩:=cq_4 hj;have hl:=r.length;have hn:=ap_1;have I':Inv X zc σ (upd H p (.lst (xs.set j v))) {s with heap:=s.heap.update p (Obj.mapSeq (·.setIfInBounds j u))}:=
  I.lstUpd hp ho (ck_6 its n j u) (r.set rv j) (by rw [List.length_set];exact hz) s.toks
 by_cases h0:0<=k
 ·have hk:k.toNat=j:=by
   rw [seqIndex_of h0 h4] at h1;exact Option.some.inj h1
  exact ki_setAt ho h0 (by omega) (by rw [List.size_toArray,<-hl];exact h4) (by rw [hk];exact⟨_,I',q⟩)
 ·have hk:(k + (its.toArray.size:Int)).toNat=j:=by
   rw [seqIndex_neg (by omega) h3] at h1;rw [List.size_toArray,<-hl];exact Option.some.inj h1
  exact ki_setBack ho (by omega) (by rw [List.size_toArray,<-hl];exact h3) (by omega) (by rw [hk];exact⟨_,I',q⟩)
def bt_0(lo hi:Option Int)(n:Nat):(sliceBounds lo hi none n).1=((HT.sIx n 0 lo:Nat):Int)/\(sliceBounds lo hi none n).2.1=((HT.sIx n n hi:Nat):Int)/\(sliceBounds lo hi none n).2.2=1:=by
 refine⟨?_, ?_,rfl⟩
 ·cases lo with
  |none=>simp [sliceBounds,HT.sIx]
  |some i=>
   simp only [sliceBounds,HT.sIx,Option.getD_none,show(1:Int) > 0 by decide,if_true]
   by_cases h:i < 0
   ·simp only [h,if_true] <;> omega
   ·simp only [h,if_false] <;> omega
 ·cases hi with
  |none=>simp [sliceBounds,HT.sIx]
  |some i=>
   simp only [sliceBounds,HT.sIx,Option.getD_none,show(1:Int) > 0 by decide,if_true]
   by_cases h:i < 0
   ·simp only [h,if_true] <;> omega
   ·simp only [h,if_false] <;> omega
def bk_4(its:List Value)(lo hi:Option Int):slicePick its.toArray lo hi none=((its.drop (HT.sIx its.length 0 lo)).take (HT.sIx its.length its.length hi - HT.sIx its.length 0 lo)).toArray:=by
 obtain⟨h1,h2,h3⟩:=bt_0 lo hi its.toArray.size;unfold slicePick;rw [h1,h2,h3];simp only [sliceRange_one,pick_run,List.size_toArray] <;> rfl
def rSlL(K:Frag):V->Option Int->Option Int->Hp->VK->Prop:=λx lo hi H Q=>∃a xs,x=.ref a/\SqL K H a xs/\∀p,H p=none->Q (.ref p) (upd H p (.lst (cutV xs lo hi)))
def dq_4:SlR X (rSlL X.K):=by
 intro zc s σ H x v vl vu lo hi sl Q I rx hs pl pu h;obtain⟨a,xs,rfl,hx,q⟩:=h;cases rx;obtain⟨its,r,ht,hz⟩:=I.list hx;have zj:=r.length;refine⟨"list",_,slot_list_getitem.lookup,ht.isList.typeIs, ?_⟩;refine wpAny_getItem_list_slice ht.isList hs pl pu .none (by simp) ?_ (by rw [List.size_toArray] <;> omega);rw [bk_4,<-zj];refine⟨.ref s.heap.objs.size,_,I.laid (t':=s.toks) (o:=.lst (cutV xs lo hi)) (λb ob q=>Heap.get?_push_of_some _ q) (Nat.le_refl _) ?_,rfl,q _ (I.hok.fresh (Nat.le_refl _))⟩;exact⟨Nat.le_trans (ca_2 xs lo hi) hz,_,0,(r.drop (HT.sIx xs.length 0 lo)).take (HT.sIx xs.length xs.length hi - HT.sIx xs.length 0 lo),Heap.get?_push_size _ rfl⟩
def He:V->Bool
 | .non=>true
 | .bl _=>true
 | .int _=>true
 | .str _=>true
 |_=>false
def eqV:V->V->Bool
 | .non,.non=>true
 | .bl a,.bl b=>a ==b
 | .bl a,.int b=>(if a then 1 else 0) ==b
 | .int a,.bl b=>a ==(if b then 1 else 0)
 | .int a,.int b=>a ==b
 | .str a,.str b=>a ==b
 |_,_=>false
def ec_6{A:Around}{s:Shared}{y x:V}{u v:Value}(ry:RelV y u)(rx:RelV x v)(fy:He y=true)(fx:He x=true):SeqAt.EqAt A s u v (eqV y x):=by
 cases y with
 |non=>
  cases ry;cases x with
  |non=>cases rx;exact SeqAt.EqAt.same _
  |bl b=>cases rx;exact SeqAt.EqAt.none_bool b
  |int b=>obtain⟨t,rfl⟩:=rx;exact SeqAt.EqAt.none_int b t
  |str b=>obtain⟨t,rfl⟩:=rx;exact SeqAt.EqAt.none_str b t
  |_=>exact absurd (show false=true from fx) Bool.false_ne_true
 |bl a=>
  cases ry;cases x with
  |non=>cases rx;exact SeqAt.EqAt.bool_none a
  |bl b=>cases rx;exact SeqAt.EqAt.bool_bool a b
  |int b=>obtain⟨t,rfl⟩:=rx;exact SeqAt.EqAt.bool_int a b t
  |str b=>obtain⟨t,rfl⟩:=rx;exact SeqAt.EqAt.bool_str a b t
  |_=>exact absurd (show false=true from fx) Bool.false_ne_true
 |int a=>
  obtain⟨t',rfl⟩:=ry;cases x with
  |non=>cases rx;exact SeqAt.EqAt.int_none a t'
  |bl b=>cases rx;exact SeqAt.EqAt.int_bool a t' b
  |int b=>obtain⟨t,rfl⟩:=rx;exact SeqAt.EqAt.int_int a t' b t
  |str b=>obtain⟨t,rfl⟩:=rx;exact SeqAt.EqAt.int_str a t' b t
  |_=>exact absurd (show false=true from fx) Bool.false_ne_true
 |str a=>
  obtain⟨t',rfl⟩:=ry;cases x with
  |non=>cases rx;exact SeqAt.EqAt.str_none a t'
  |bl b=>cases rx;exact SeqAt.EqAt.str_bool a t' b
  |int b=>obtain⟨t,rfl⟩:=rx;exact SeqAt.EqAt.str_int a t' b t
  |str b=>obtain⟨t,rfl⟩:=rx;exact SeqAt.EqAt.str_str a t' b t
  |_=>exact absurd (show false=true from fx) Bool.false_ne_true
 |_=>exact absurd (show false=true from fy) Bool.false_ne_true
def eqU(x:V)(u:Value):Bool:=match u with
 | .none=>eqV .non x
 | .bool b=>eqV (.bl b) x
 | .int i _=>eqV (.int i) x
 | .str z _=>eqV (.str z) x
 |_=>false
def de_1{x y:V}{u:Value}(r:RelV y u)(f:He y=true):eqU x u=eqV y x:=by
 cases y with
 |non=>cases r;rfl
 |bl b=>cases r;rfl
 |int i=>obtain⟨t,rfl⟩:=r;rfl
 |str z=>obtain⟨t,rfl⟩:=r;rfl
 |_=>exact absurd (show false=true from f) Bool.false_ne_true
theorem ar_0{x:V}:∀{xs:List V} {us:List Value},Vals xs us->xs.all He=true->us.any (eqU x)=xs.any λy=>eqV y x
 |_,_,.nil,_=>rfl
 |y::xs,u::us,.cons r t,f=>by
  rw [List.all_cons,Bool.and_eq_true] at f;rw [List.any_cons,List.any_cons,de_1 r f.1,ar_0 t f.2]
theorem ah_9{A:Around}{s:Shared}{x:V}{v:Value}(rx:RelV x v)(fx:He x=true):∀{xs:List V} {us:List Value},Vals xs us->xs.all He=true->∀u∈us,SeqAt.EqAt A s u v (eqU x u)
 |_,_,.nil,_=>λu hu=>by cases hu
 |y::xs,u::us,.cons r t,f=>λu' hu=>by
  rw [List.all_cons,Bool.and_eq_true] at f;rcases List.mem_cons.mp hu with rfl|hu
  ·rw [de_1 r f.1];exact ec_6 r rx f.1 fx
  ·exact ah_9 rx fx t f.2 u' hu
def inV(x:V)(xs:List V):Bool:=xs.any λy=>eqV y x
def rIn(K:Frag)(neg:Bool):R2:=λx y H Q=>∃p xs,y=.ref p/\(SqL K H p xs\/SqT K H p xs)/\He x=true/\xs.all He=true/\Q (.bl (if neg then !inV x xs else inV x xs)) H
def cw_7:Ec X (compareOp .In) (rIn X.K false):=by
 intro zc s σ H x y v u Q I rx ry h;obtain⟨p,xs,rfl,hq,fx,fs,q⟩:=h;cases ry;rcases hq with hq|hq
 ·obtain⟨its,r,pl,hz⟩:=I.list hq;refine SeqAt.in_listAt (eqU x) pl.isList (λw hw=>ah_9 rx fx r fs w (by simpa using hw)) ⟨.bl _,H,I,rfl, ?_⟩;rw [show its.toArray.any (eqU x)=its.any (eqU x) by simp,ar_0 r fs];exact q
 ·obtain⟨its,r,pl,hz⟩:=I.tuple hq;refine SeqAt.in_tupleAt (eqU x) pl (λw hw=>ah_9 rx fx r fs w (by simpa using hw)) ⟨.bl _,H,I,rfl, ?_⟩;rw [show its.toArray.any (eqU x)=its.any (eqU x) by simp,ar_0 r fs];exact q
def bt_1:Ec X (compareOp .NotIn) (rIn X.K true):=by
 intro zc s σ H x y v u Q I rx ry h;obtain⟨p,xs,rfl,hq,fx,fs,q⟩:=h;cases ry;rcases hq with hq|hq
 ·obtain⟨its,r,pl,hz⟩:=I.list hq;refine SeqAt.notIn_listAt (eqU x) pl.isList (λw hw=>ah_9 rx fx r fs w (by simpa using hw)) ⟨.bl _,H,I,rfl, ?_⟩;rw [show its.toArray.any (eqU x)=its.any (eqU x) by simp,ar_0 r fs];exact q
 ·obtain⟨its,r,pl,hz⟩:=I.tuple hq;refine SeqAt.notIn_tupleAt (eqU x) pl (λw hw=>ah_9 rx fx r fs w (by simpa using hw)) ⟨.bl _,H,I,rfl, ?_⟩;rw [show its.toArray.any (eqU x)=its.any (eqU x) by simp,ar_0 r fs];exact q
def bt_2:Ec X (compareOp .NotIn) (λx y H Q=>∃i j,x=.str i/\y=.str j/\Q (.bl (!(!(Builtin.Str.occurrences j i 0 j.length 1).isEmpty))) H):=by
 intro zc s σ H x y v u Q I rx ry h;obtain⟨i,j,rfl,rfl,q⟩:=h;obtain⟨t,rfl⟩:=rx;obtain⟨t',rfl⟩:=ry;exact notIn_str ⟨.bl _,H,I,rfl,q⟩
def ar_1:Fg X (.builtin "len") (λxs H Q=>∃p ys,xs= [.ref p]/\(SqL X.K H p ys\/SqT X.K H p ys)/\Q (.int ys.length) H):=by
 intro zc s σ H xs us Q I r h;obtain⟨p,ys,rfl,hq,q⟩:=h;obtain⟨u,rfl,rx⟩:=ca_0 r;cases rx;have hn:=ap_1;rcases hq with hq|hq
 ·obtain⟨its,r',pl,hz⟩:=I.list hq;have zj:=r'.length;exact Calls.call_len_list pl.isList (by simp only [List.size_toArray] <;> omega) ⟨.int ys.length,H,I.tok _,⟨s.toks + 1,by rw [List.size_toArray,zj]⟩,q⟩
 ·obtain⟨its,r',pl,hz⟩:=I.tuple hq;have zj:=r'.length;exact len_tuple pl (by simp only [List.size_toArray] <;> omega) ⟨.int ys.length,H,I.tok _,⟨s.toks + 1,by rw [List.size_toArray,zj]⟩,q⟩
def bt_3:Fg X (.builtin "len") (λxs H Q=>∃z,xs= [.str z]/\z.length<=sizeLine/\Q (.int z.length) H):=by
 intro zc s σ H xs us Q I r h;obtain⟨z,rfl,hz,q⟩:=h;obtain⟨u,rfl,t,rfl⟩:=ca_0 r;have hn:=ap_1;exact len_str (by omega) ⟨.int z.length,H,I.tok _,⟨_,rfl⟩,q⟩
def ar_2:Fg X (.type "list") (λxs H Q=>∃p ys,xs= [.ref p]/\(SqL X.K H p ys\/SqT X.K H p ys)/\∀l,H l=none->Q (.ref l) (upd H l (.lst ys))):=by
 intro zc s σ H xs us Q I r h;obtain⟨p,ys,rfl,hq,q⟩:=h;obtain⟨u,rfl,rx⟩:=ca_0 r;cases rx;have fin:∀(its:List Value),Vals ys its->ys.length<=sizeLine->∀(h':Heap) (c':Nat),(∀b o',s.heap.get? b=some o'->h'.get? b=some o')->
   h'.get? s.heap.objs.size=some {cls:=.type "list",dict:=none,data:=.seq its.toArray c',slots:= #[]}->EP X zc σ Q (.ref s.heap.objs.size) {s with heap:=h'}:=λits r' hz h' c' kp e=>
  ⟨.ref s.heap.objs.size,_,I.laid (t':=s.toks) kp (Nat.le_refl _) (show ObjOk X.prog X.w _ h' _ (.lst ys) from⟨hz,its,c',r',e⟩),rfl,q _ (I.hok.fresh (Nat.le_refl _))⟩
 rcases hq with hq|hq
 ·obtain⟨its,r',pl,hz⟩:=I.list hq;have zj:=r'.length;obtain⟨o,ho,hc,n,hd⟩:=pl.isList;exact call_list_seq p (.inl rfl) ho hc hd (λh' c' kp e=>fin its r' hz h' c' kp e) (by simp only [List.size_toArray] <;> omega)
 ·obtain⟨its,r',pl,hz⟩:=I.tuple hq;have zj:=r'.length;obtain⟨o,ho,hc,n,hd⟩:=pl;exact call_list_seq p (.inr rfl) ho hc hd (λh' c' kp e=>fin its r' hz h' c' kp e) (by simp only [List.size_toArray] <;> omega)
def am_2:Fg X (.type "tuple") (λxs H Q=>∃p ys,xs= [.ref p]/\((SqL X.K H p ys/\∀l,H l=none->Q (.ref l) (upd H l (.tup ys)))\/(SqT X.K H p ys/\Q (.ref p) H))):=by
 intro zc s σ H xs us Q I r h;obtain⟨p,ys,rfl,h⟩:=h;obtain⟨u,rfl,rx⟩:=ca_0 r;cases rx;rcases h with⟨hq,q⟩|⟨hq,q⟩
 ·obtain⟨its,r',pl,hz⟩:=I.list hq;have zj:=r'.length;refine call_tuple_list pl.isList (λh' kp=> ?_) (by simp only [List.size_toArray] <;> omega);have I1:Inv X zc σ H {s with heap:=h'}:=I.kept (t':=s.toks) kp;have I2:Inv X zc σ (upd H h'.objs.size (.tup ys)) {s with heap:=h'.push {cls:=.type "tuple",data:=.seq its.toArray}}:=
   I1.laid (t':=s.toks) (λb o e=>Heap.get?_push_of_some _ e) (Nat.le_refl _) (show ObjOk X.prog X.w _ _ _ (.tup ys) from⟨hz,its,r',IsTup.new _ _⟩)
  exact⟨.ref h'.objs.size,_,I2,rfl,q _ (I1.hok.fresh (Nat.le_refl _))⟩
 ·obtain⟨its,r',pl,hz⟩:=I.tuple hq;exact call_tuple_same pl ⟨.ref p,H,I,rfl,q⟩
def tyV(K:Frag)(T:String)(x:V)(H:Hp):Prop:=match x with
 | .str _=>T= "str"
 | .int _=>T= "int"
 | .ref p=>(T= "list" /\∃xs,SqL K H p xs)\/(T= "tuple" /\∃o,K.lookup p=some o/\o.cls=.type "tuple" /\o.dict=none)\/
   (T= "dict" /\((∃kvs,H p=some (.dK kvs))\/∃kvs,H p=some (.dT kvs)))\/(T= "set" /\∃S n,H p=some (.set S n))
 |_=>False
def de_2{zc:List (Addr×Obj)}{σ:St}{H:Hp}{s:Shared}{T:String}{x:V}{v:Value}(I:Inv X zc σ H s)(r:RelV x v)(ty:tyV X.K T x H):
  s.TypeIs v T/\∀a,v=.ref a->∃ob,s.heap.get? a=some ob/\ob.dict=none:=by
 cases x with
 |str z=>
  obtain⟨t,rfl⟩:=r;cases(show T= "str" from ty);exact⟨typeIs_str s z t,λ_ e=>nomatch e⟩
 |int i=>
  obtain⟨t,rfl⟩:=r;cases(show T= "int" from ty);exact⟨typeIs_int s i t,λ_ e=>nomatch e⟩
 |ref p=>
  cases r;rcases ty with⟨rfl,xs,hq⟩|⟨rfl,o,hk,hc,hd⟩|⟨rfl,hk⟩|⟨rfl,S,n,hk⟩
  ·obtain⟨its,_,pl,_⟩:=I.list hq;refine⟨pl.isList.typeIs,λa e=> ?_⟩;cases e;obtain⟨o,n,e,c,hd,_⟩:=pl;exact⟨o,e,hd⟩
  ·refine⟨⟨o,I.kIn p o hk,hc⟩,λa e=> ?_⟩;cases e;exact⟨o,I.kIn _ o hk,hd⟩
  ·have z:∃o,s.heap.get? p=some o/\o.ExactDict:=by
    rcases hk with⟨kvs,hk⟩|⟨kvs,hk⟩
    ·obtain⟨_,_,_,_,o,_,_,e,ex,_⟩:=I.hok p _ hk;exact⟨o,e,ex⟩
    ·obtain⟨_,_,_,_,o,_,_,e,ex,_⟩:=I.hok p _ hk;exact⟨o,e,ex⟩
   obtain⟨o,e,ex⟩:=z;refine⟨⟨o,e,ex.1⟩,λa e2=> ?_⟩;cases e2;exact⟨o,e,ex.2.1⟩
  ·obtain⟨o,_,_,_,e,ex,_⟩:=I.hok p _ hk;refine⟨⟨o,e,ex.1⟩,λa e2=> ?_⟩;cases e2;exact⟨o,e,ex.2.1⟩
 |_=>exact False.elim ty
def tBM0(K:Frag)(T:String)(r:V->List V->Hp->VK->Prop)(to:TE):TE:=λ σ H Q=>to σ H λx H1=>tyV K T x H1/\r x [] H1 Q
def tBM(K:Frag)(T:String)(r:V->List V->Hp->VK->Prop)(to:TE)(t:TA):TE:=λ σ H Q=>to σ H λx H1=>tyV K T x H1/\t σ H1 λxs H2=>r x xs H2 Q
variable{o e:Expr}{es:List Expr}{to:TE}{t:TA}{name:Str}{zf zd:Pos}{T id:String}{r:V->List V->Hp->VK->Prop}
def de_3(pa:PlainAttrs T)(slot:Slot T name id)(hty:typeOf (.builtin id)=pure (.type "method_descriptor"))(hm:MtR X id r)(ho:PE X o to)
  (aa:attributeBase o name X.env (eval o X.env)=eval o X.env:=by rfl) (ae:(zf.endLine ==zd.line)=true:=by rfl):PE X (.Call (.Attribute o name zf) [] [] zd) (tBM0 X.K T r to):=by
 intro zc s σ H Q I h;refine wpAny_Call_method0_late aa ae (Bh (ho zc s σ H _ I h) λv s1 ⟨x,H1,I1,r1,ty,q1⟩=> ?_);obtain⟨h1,h2⟩:=de_2 I1 r1 ty;exact⟨T,id,pa,slot,hty,h1,h2,Calls.callWith_builtin rfl (PySem.evalArgs_none (hm zc s1 σ H1 x [] v [] Q I1 r1 .nil q1))⟩
def de_4(pa:PlainAttrs T)(slot:Slot T name id)(hty:typeOf (.builtin id)=pure (.type "method_descriptor"))(hm:MtR X id r)(ho:PE X o to)(ha:PA X (e::es) t)
  (aa:attributeBase o name X.env (eval o X.env)=eval o X.env:=by rfl)
  (ay:((backTo zd (starEach (e::es) X.env)).all (λx=> !x.1) && (backToKw zd (keywordEach [] X.env)).all (λx=>x.1.isSome)
   && decide ((e::es).length + ([]:List Keyword).length + (if([]:List Keyword).isEmpty then 0 else 1) < 30))=true:=by rfl)
  (ae:(zf.endLine ==zd.line)=true:=by rfl) (hs:starEach (e::es) X.env=(false,eval e X.env)::starEach es X.env:=by rfl) (af:(backTo zd (starEach es X.env)).any (·.1)=false:=by rfl):
  PE X (.Call (.Attribute o name zf) (e::es) [] zd) (tBM X.K T r to t):=by
 intro zc s σ H Q I h;refine wpAny_Call_method_late aa ay ae rfl (Bh (ho zc s σ H _ I h) λv s1 ⟨x,H1,I1,r1,ty,q1⟩=> ?_);obtain⟨h1,h2⟩:=de_2 I1 r1 ty;refine⟨T,id,pa,slot,hty,h1,h2, ?_⟩;have hA:=ha zd zc s1 σ H1 _ I1 q1;rw [hs] at hA⊢;refine Calls.callWith_builtin (by show(false || (backTo zd (starEach es X.env)).any (·.1))=false;rw [af] <;> rfl) (Calls.evalArgs_plain ?_);exact Bh hA λus s2 ⟨vs,H2,I2,r2,q2⟩=>hm zc s2 σ H2 x vs v us Q I2 r1 r2 q2
end
def MtM(X:Cx)(id:String)(r:V->List V->Hp->VK->Prop):Prop:=
 ∀(zc:List (Addr×Obj)) (s:Shared) (σ:St) (H:Hp) (x:V) (xs:List V) (v:Value) (us:List Value) (Q:VK),Inv X zc σ H s->RelV x v->Vals xs us->r x xs H Q->
  wpAny (model X.prog X.w) X.A (call (.builtin id) (v::us)) (EP X zc σ Q) X.xe s
def Vals.one:∀{x:V} {us:List Value},Vals [x] us->∃u,us= [u]/\RelV x u
 |_,_,.cons r .nil=>⟨_,rfl,r⟩
def Vals.two:∀{x y:V} {us:List Value},Vals [x,y] us->∃u v,us= [u,v]/\RelV x u/\RelV y v
 |_,_,_,.cons r (.cons q .nil)=>⟨_,_,rfl,r,q⟩
def Vals.zero:∀{us:List Value},Vals [] us->us= []
 |_,.nil=>rfl
theorem Vals.dropLast{xs:List V}{us:List Value}(h:Vals xs us):Vals xs.dropLast us.dropLast:=by
 induction h with
 |nil=>exact .nil
 |cons r t ih=>
  cases t with
  |nil=>exact .nil
  |cons q t'=>exact .cons r ih
theorem Vals.eraseIdx:∀{xs:List V} {us:List Value} (i:Nat),Vals xs us->Vals (xs.eraseIdx i) (us.eraseIdx i)
 |_,_,_,.nil=> .nil
 |_,_,0,.cons _ t=>t
 |_,_,i + 1,.cons r t=> .cons r (Vals.eraseIdx i t)
theorem Vals.reverse{xs:List V}{us:List Value}(h:Vals xs us):Vals xs.reverse us.reverse:=by
 induction h with
 |nil=>exact .nil
 |cons r t ih=>rw [List.reverse_cons,List.reverse_cons];exact Vals.append ih (.cons r .nil)
theorem Vals.rep{xs:List V}{us:List Value}(h:Vals xs us):∀k:Nat,Vals (List.replicate k xs).flatten (List.replicate k us).flatten
 |0=> .nil
 |k + 1=>by
  rw [List.replicate_succ,List.replicate_succ,List.flatten_cons,List.flatten_cons];exact Vals.append h (Vals.rep h k)
def ck_7{α:Type}(l:List α):l.eraseIdx (l.length - 1)=l.dropLast:=by
 induction l with
 |nil=>rfl
 |cons a r ih=>
  cases r with
  |nil=>rfl
  |cons b r=>
   have e:(a::b::r).length - 1=((b::r).length - 1) + 1:=by
    have h1:(a::b::r).length=r.length + 2:=rfl;have h2:(b::r).length=r.length + 1:=rfl;omega
   rw [e,List.eraseIdx_cons_succ,ih]
   all_goals rfl
theorem bn_7(its:List Value):∀(k:Nat) (zm:List Value),
  List.foldl (λx1 x2=>x1 ++ x2) zm.toArray (List.replicate k its.toArray)=(zm ++ (List.replicate k its).flatten).toArray
 |0,zm=>by simp
 |k + 1,zm=>by
  have e:zm.toArray ++ its.toArray=(zm ++ its).toArray:=by simp
  have e2:(zm ++ its) ++ (List.replicate k its).flatten=zm ++ (List.replicate (k + 1) its).flatten:=by
   rw [List.replicate_succ,List.flatten_cons,List.append_assoc]
  rw [<-e2,<-bn_7 its k (zm ++ its),<-e,List.replicate_succ,List.foldl_cons]
section
variable{X:Cx}{zc:List (Addr×Obj)}{σ:St}{H:Hp}{s:Shared}{l b:Addr}{xs ys zs:List V}
def Inv.lset{its its':List Value}{n:Nat}{f:Array Value->Array Value}{t':Nat}(I:Inv X zc σ H s)(hH:H l=some (.lst xs))
  (e:s.heap.get? l=some {cls:=.type "list",data:=.seq its.toArray n}) (hf:f its.toArray=its'.toArray) (hv:Vals ys its') (hz:ys.length<=sizeLine):
  Inv X zc σ (upd H l (.lst ys)) {s with heap:=s.heap.update l (Obj.mapSeq f),toks:=t'}:=by
 have q:=PySem.IsL.update e f;rw [hf] at q;refine I.write (x:=l) (e:=l) (by rw [hH];exact trivial) (.inl rfl) (λb' u hb hu=>(Heap.get?_update_other s.heap (Obj.mapSeq f) (Ne.symm hb)).trans hu) ⟨_,q⟩ ?_;exact⟨hz,its',_,hv,q⟩
def Inv.lnew{its:List Value}{t':Nat}(I:Inv X zc σ H s)(hv:Vals ys its)(hz:ys.length<=sizeLine):
  Inv X zc σ (upd H s.heap.objs.size (.lst ys)) {s with heap:=s.heap.push {cls:=.type "list",data:=.seq its.toArray},toks:=t'}:=
 I.laid (λ_ _ q=>Heap.get?_push_of_some _ q) (Nat.le_refl _) ⟨hz,its,0,hv,Heap.get?_push_size _ rfl⟩
theorem Inv.fresh(I:Inv X zc σ H s):H s.heap.objs.size=none:=I.hok.fresh (Nat.le_refl _)
def Inv.lstM(I:Inv X zc σ H s)(hH:H l=some (.lst xs)):xs.length<=sizeLine/\∃(its:List Value) (n:Nat),Vals xs its/\xs.length=its.length/\s.heap.get? l=some {cls:=.type "list",data:=.seq its.toArray n}:=by
 obtain⟨z,its,n,r,e⟩:=I.hok l _ hH;exact⟨z,its,n,r,r.length,e⟩
def ca_4{n:Nat}(h:n<=sizeLine):Builtin.List.listTooLong n=false:=by
 unfold Builtin.List.listTooLong;exact decide_eq_false (by omega)
end
section
variable{X:Cx}
def cq_6:V->List V->Hp->VK->Prop:=λx vs H Q=>∃l xs y,x=.ref l/\vs= [y]/\H l=some (.lst xs)/\xs.length < sizeLine/\Q .non (upd H l (.lst (xs ++ [y])))
def bn_8:MtM X "list.append" cq_6:=by
 intro zc s σ H x vs v us Q I rx rv h;obtain⟨l,xs,y,rfl,rfl,hH,hz,q⟩:=h;cases rx;obtain⟨u,rfl,ru⟩:=rv.one;obtain⟨z,its,n,r,hl,e⟩:=I.lstM hH;refine call_meets F.slot_list_append ⟨_,e,rfl⟩ F.entry_list_append (F.args_list_append_2 _ _) (PySem.list_append l its.toArray n u (by rw [List.size_toArray];omega)) ⟨e, ?_⟩;refine⟨.non,_,I.lset (its':=its ++ [u]) hH e (by simp) (r.append (.cons ru .nil)) ?_,rfl,q⟩;rw [List.length_append,List.length_singleton];omega
def rPop:V->List V->Hp->VK->Prop:=λx vs H Q=>∃l xs y,x=.ref l/\vs= []/\H l=some (.lst xs)/\xs[xs.length - 1]? =some y/\Q y (upd H l (.lst xs.dropLast))
def ec_7:MtM X "list.pop" rPop:=by
 intro zc s σ H x vs v us Q I rx rv h;obtain⟨l,xs,y,rfl,rfl,hH,hy,q⟩:=h;cases rx;have hus:=rv.zero;subst hus;obtain⟨z,its,n,r,hl,e⟩:=I.lstM hH;obtain⟨u,hu,ru⟩:=r.get hy;have hy':its.toArray[its.toArray.size - 1]? =some u:=by
  show its.toArray[its.length - 1]? =some u;rw [<-Array.getElem?_toList,<-hl];exact hu
 refine call_meets F.slot_list_pop ⟨_,e,rfl⟩ F.entry_list_pop (F.args_list_pop_1 _) (MeetsSeq.list_pop_last l its.toArray n u hy' (by rw [List.size_toArray];omega)) ⟨e, ?_⟩;refine⟨y,_,I.lset (its':=its.dropLast) hH e ?_ r.dropLast ?_,ru,q⟩
 ·show its.toArray.eraseIdxIfInBounds (its.toArray.size - 1)=its.dropLast.toArray;rw [List.size_toArray,List.eraseIdxIfInBounds_toArray,ck_7]
 ·rw [List.length_dropLast];omega
def rRep:R2:=λx y H Q=>∃l k xs,x=.ref l/\y=.int k/\H l=some (.lst xs)/\ -(2 ^ 63)<=k/\k < 2 ^ 63/\xs.length * k.toNat<=sizeLine/\
 ∀p,H p=none->Q (.ref p) (upd H p (.lst (List.replicate k.toNat xs).flatten))
def dq_5{α:Type}(xs:List α)(k:Nat):(List.replicate k xs).flatten.length=k * xs.length:=by
 induction k with
 |zero=>simp
 |succ k ih=>rw [List.replicate_succ,List.flatten_cons,List.length_append,ih,Nat.succ_mul,Nat.add_comm]
def ec_8:Ec X (binaryOp .Mult) rRep:=by
 intro zc s σ H x y v u Q I rx ry h;obtain⟨l,k,xs,rfl,rfl,hH,h1,h2,hz,q⟩:=h;cases rx;obtain⟨t,rfl⟩:=ry;obtain⟨z,its,n,r,hl,e⟩:=I.lstM hH;have zj:its.toArray.size * k.toNat<=sizeLine:=by rw [List.size_toArray,<-hl];exact hz
 have dn:¬its.toArray.size * k.toNat > (2 ^ 63 - 1) / 8:=by
  have:(sizeLine:Nat)<=(2 ^ 63 - 1) / 8:=by decide
  omega
 have fj:¬(!Builtin.List.listFitsIndex k)=true:=by
  rw [fitsIndex_both h1 h2];exact Bool.false_ne_true
 have aw:¬Builtin.List.listTooLong (its.toArray.size * k.toNat)=true:=by
  rw [ca_4 zj];exact Bool.false_ne_true
 have gi:List.foldl (λx1 x2=>x1 ++ x2) #[] (List.replicate (if its.toArray.isEmpty=true then 0 else k.toNat) its.toArray)=(List.replicate k.toNat its).flatten.toArray:=by
  have f0:∀m:Nat,List.foldl (λx1 x2=>x1 ++ x2) #[] (List.replicate m its.toArray)=(List.replicate m its).flatten.toArray:=λm=>by
   have:=bn_7 its m [];rw [List.nil_append] at this;exact this
  rw [f0];cases its with
  |nil=>simp
  |cons a r'=>rw [if_neg (by simp)]
 refine wpAny_binaryOp_repeat_ref (T:= "list") (U:= "int") (by decide) ⟨_,e,rfl⟩ (λs'=>typeIs_int s' k t) noFill_list_mul F.fills_int_mul F.slot_int_rmul repeat_list F.slot_int_index.lookup
  (call_meets F.slot_int_rmul (typeIs_int s k t) F.entry_int_rmul (F.args_int_rmul_2 _ _) (int___rmul___int_list k t l its.toArray n)
   ⟨e,rfl,⟨_,e,rfl⟩,call_meets F.slot_list_mul ⟨_,e,rfl⟩ F.entry_list_mul (F.args_list_mul_2 _ _) (AutoListH.list___mul___list_int_3 l its.toArray n k t fj dn aw) ⟨e, ?_⟩⟩)
 rw [gi];exact⟨.ref _,_,I.lnew (t':=s.toks) (r.rep k.toNat) (by rw [dq_5,Nat.mul_comm];exact hz),rfl,q _ I.fresh⟩
end
section
variable{prog:Program}{w:World}{A:Around}{E:Value->Shared->Prop}{s:Shared}
end
section
variable{X:Cx}
end
end L2
namespace Att
open PySem PySem.W PySem.Calls PyProof.Rows
def bb_5{P:Params}{h:Heap}:∀(ns:List Int) (vs:List Value),WellAll P h vs (ns.map WData.int)->IntsAre vs ns:=by
 intro ns
 induction ns with
 |nil=>
  intro vs w;rw [List.map_nil] at w;cases w;exact .nil
 |cons n ns ih=>
  intro vs w;rw [List.map_cons] at w;cases w with
  |cons a b=>
   cases a;exact .cons _ _ (ih _ b)
def cw_8{l:OpenLaw}{n:Nat}(hn:l.most=some n){P:Params}{h:Heap}{args:List WData}{vals:List Value}
  (bh:l.row.toRowW.claim.pre args=true) (hwl:WellAll P h vals args):
  ∃a vs ns,vals= [Value.ref a]/\args= [WData.list (ns.map WData.int)]/\h.get? a=some {cls:=.type "list",data:=.seq vs.toArray}/\IntsAre vs ns/\ns.length<=n:=by
 have hsh:WShape.hasAll [] args [.list .int]=true:=(pre_splitW bh).1;have hc:l.pre.holds [] {args:=args}=true:=(pre_splitW bh).2;obtain⟨d,r,rfl,h1,h2⟩:=hasAllW_cons hsh;obtain rfl:=hasAllW_nil h2;obtain⟨xs,rfl,h3⟩:=hasW_list h1;obtain⟨ns,rfl⟩:=items_int h3;have zj:ns.length<=n:=by
  unfold OpenLaw.pre at hc;have h4:(WTm.not (.lt (.lit (.int (n:Int))) (.len (.arg 0)))).holds [] {args:=[.list (ns.map .int)]}=true:=by
   have h4:=(holds_andW hc).1;rw [hn] at h4;exact h4
  have h5:=condW_of h4 (w_not (w_lt w_lit (w_len_list (w_arg rfl))));rw [List.length_map] at h5;refine Nat.le_of_not_lt λq=> ?_;have q':(n:Int) < ((ns.length:Nat):Int):=by omega
  first
   |(rw [decide_eq_true q'] at h5;exact absurd h5 (by decide))
   |(simp at h5;omega)
 cases hwl with
 |cons w1 w2=>
  cases w2;cases w1 with
  |list ho hall=>exact⟨_,_,ns,rfl,rfl,ho,bb_5 ns _ hall,zj⟩
def cw_9(l:OpenLaw)(args:List WData):l.row.toRowW.claim.post args (.bool true) args=true:=
 postW_of (r:=l.row.toRowW) (X:=(true ==true))
  (show WShape.has [] (.bool true) .bool=true by first|rfl|decide|simp [WShape.has,WShape.arms,WShape.armsAll])
  (show(WTm.eq .res (.lit (.bool true))).value [] {args:=args,res:=some (.bool true),after:=args}=some (.bool (true ==true)) from w_eq_bool (w_res rfl) w_lit) rfl
def attach_call{l:OpenLaw}{n:Nat}{q:Program}{loose:List Str}{XP:(Str->Option Value)->Heap->Prop}{YP:World->Heap->Prop}{d:DefRec}
  (hn:l.most=some n) (hdf:d.params.defaults= [])
  (call:∀(w:World) (s₀ s₁:Shared) (mg mb:Str->Option Value) (fa:Addr) (o:Obj) (pm cd doc:Value) (a:Addr) (vs:List Value) (ns:List Int),
   Ground q loose [] XP w s₀ mg mb s₁.heap->YP w s₁.heap->
   s₁.heap.get? fa=some o->o.data=.func (docDef d.name d.params d.body d.scope pm cd doc)->s₁.heap.CodeRec cd d.name->mg d.name=some (.ref fa)->
   s₁.heap.get? a=some {cls:=.type "list",data:=.seq vs.toArray}->IntsAre vs ns->ns.length<=n->s₁.gens= #[]->
   codeAny (model l.prog w) callerA (.call (.ref fa) ⟨[.ref a],[]⟩) (λr s'=>r=.ok (.ret (.bool true))/\OldK s₁.heap s'.heap/\s'.os=s₁.os/\AllBare s'.gens) s₁):
  WalkO q loose XP YP l.row.toRowW d [] (λf vs=>PySem.call f vs):=by
 intro w s₀ s₁ mg mb G Y fa o pm cd doc dV kV ho hd hcd hD hmg hg args vals as bh hlay hrd hwl hlo;obtain rfl:dV=.none:=Dflts.none hD hdf;obtain rfl:kV=.none:=Dflts.noKw hD;obtain⟨a,vs,ns,rfl,rfl,az,hints,zj⟩:=cw_8 hn bh hwl;refine enter_call (codeAny_mono (call w s₀ s₁ mg mb fa o pm cd doc a vs ns G Y ho (fd_plain hd) hcd hmg az hints zj hg) λr s' hq=> ?_);obtain⟨rfl,h2,h3,h4⟩:=hq;exact⟨.inl ⟨.bool true,.bool true,[],rfl,λ_=>rfl,.bool true,cw_9 l _,λ_=>⟨List.Pairwise.nil,λ_ hm=>(nomatch hm)⟩⟩,h2,h3,h4⟩
section
variable{prog:Program}{w:World}{A:Around}{E:Value->Shared->Prop}{s:Shared}{K:Frag}
end
end Att
namespace L2
open PySem PySem.Spec PyProof.Rows
theorem bn_9:∀{vs:List Value} {ns:List Int},IntsAre vs ns->Vals (ns.map V.int) vs
 |_,_,.nil=> .nil
 |_,_,.cons n t h=> .cons ⟨t,rfl⟩ (bn_9 h)
def Only(H:Hp):Prop:=∀b,H b=none\/∃o xs,H b=some (.frz o (.lst xs))
def de_5{P:Program}{w:World}{K:Frag}{mg mb:Str->Option Value}{CX:CXT}{k:Nat}{fa a:Addr}{fd:FuncData}{x:Str}{sp:Sp}{s₁:Shared}{vs:List Value}{ns:List Int}
  (KX:K.In s₁.heap) (hns:s₁.heap.Ns mainGlobals mg) (hb:s₁.heap.Ns builtinsNs mb) (hbb:∀x:Str,x≠ "__name__" ->mb x=bootBuiltins x) (dq:s₁.heap.NoLimit) (hg:s₁.gens= #[])
  (ha:s₁.heap.get? a=some {cls:=.type "list",data:=.seq vs.toArray}) (hi:IntsAre vs ns) (hl:ns.length<=sizeLine) (hr:Room k callerA)
  (F:∀base:Heap,K.In base->base.Ns mainGlobals mg->FnOk P w K mg base CX k fa fd [x] sp) (bw:∀(s:Shared) (u:Value),BindsTo s fd ⟨[u],[]⟩ [(x,u)])
  (hsp:∀H:Hp,Only H->SqL K H a (ns.map V.int)->sp [.ref a] H (λv _=>v=.bl true) λ_ _ _=>False)
  (hCX:∀H e s',CX [] H s₁ (λ_ _ _=>False) e s'->False):
  codeAny (model P w) callerA (.call (.ref fa) ⟨[.ref a],[]⟩) (λr s'=>r=.ok (.ret (.bool true))/\OldK s₁.heap s'.heap/\s'.os=s₁.os/\AllBare s'.gens) s₁:=by
 have rv:=bn_9 hi;have ff:=hi.length
 
 have core:∀H:Hp,Only H->SqL K H a (ns.map V.int)->HOk P w H s₁.heap->(∀b,H b≠none->b=a)->(H a≠none->K.lookup a=none)->
   codeAny (model P w) callerA (.call (.ref fa) ⟨[.ref a],[]⟩) (λr s'=>r=.ok (.ret (.bool true))/\OldK s₁.heap s'.heap/\s'.os=s₁.os/\AllBare s'.gens) s₁:=by
  intro H hO hS hok hA hK;have ak:∀{b:Addr} {o:Obj},s₁.heap.get? b=some o->H b=none->(hidT s₁.heap H).get? b=some o:=λe n=>dc_4 e n;have noA:∀{b:Addr} {o:Obj} {es:Array DictEntry} {ep:Nat},s₁.heap.get? b=some o->o.data=.dict es ep->H b=none:=λ{b o es ep} e d=>by
   cases q:H b with
   |none=>rfl
   |some u=>
    have e':b=a:=hA b (by rw [q];simp);subst e';rw [ha] at e;cases e;have d':Data.seq vs.toArray _=Data.dict es ep:=d;cases d'
  have nsK:∀{b:Addr} {m:Str->Option Value},s₁.heap.Ns b m->(hidT s₁.heap H).Ns b m:=λ{b m} ⟨o,es,ep,e,d,r⟩=>⟨o,es,ep,ak e (noA e d),d,r⟩;have hKb:K.In (hidT s₁.heap H):=λb o e=>ak (KX b o e) (by
   cases q:H b with
   |none=>rfl
   |some u=>
    have e':b=a:=hA b (by rw [q];simp);subst e';rw [hK (by rw [q];simp)] at e;cases e)
  have hM:Mod K mg (hidT s₁.heap H):=⟨hKb,nsK hns,⟨mb,nsK hb,hbb⟩,let⟨mc,h1,h2⟩:=dq;⟨mc,nsK h1,h2⟩⟩;have e0:Env0 P w K mg (hidT s₁.heap H) callerA [] s₁ H:=⟨rfl,hM,λb o e=>do_8 e,Nat.le_of_eq (cv_5 _ _),trivial,λb hb=>absurd (show b∈([]:List Addr) from hb) (by simp),hok,.of_eq hg⟩;refine codeAny_mono ((F _ hKb (nsK hns)).run callerA [] s₁ H ⟨[.ref a],[]⟩ [.ref a] [.ref a] _ _ hr e0 (bw s₁ (.ref a)) (.cons rfl .nil) (hsp H hO hS)) λr s' h=> ?_;cases r with
  |error e=>exact(hCX H e s' h).elim
  |ok fl=>
   cases fl with
   |next=>exact False.elim h
   |brk=>exact False.elim h
   |cont=>exact False.elim h
   |ret u=>
    obtain⟨v,H',os,bare,un,dk,r',q⟩:=h;have q':v=.bl true:=q;subst q';obtain rfl:u=Value.bool true:=r';refine⟨rfl,OldK.of_keep λb o e=> ?_,os,bare⟩;cases q:H b with
    |none=>exact un.keep b o e q (by intro z;exact absurd (show b∈([]:List Addr) from z) (by simp)) (by simp)
    |some u=>
     rcases hO b with z|⟨ob,xs,z⟩
     ·rw [q] at z;cases z
     ·have z2:=un.frzs b ob _ z;obtain⟨e1,_⟩:=hok b _ z;obtain⟨e2,_⟩:=dk b _ z2;rw [e] at e1;cases e1;exact e2
 cases hk:K.lookup a with
 |some o=>
  
  have e:=KX a o hk;rw [ha] at e;cases e;refine core (λ_=>none) (λ_=> .inl rfl) (.inr ⟨_,vs.toArray,_,hk,rfl,rfl,rfl,by rw [List.size_toArray,ff];exact hl,by simpa using rv⟩) (λb u z=>by have z':(none:Option HO)=some u:=z;cases z') (λb z=>absurd rfl z) λz=>absurd rfl z
 |none=>
  refine core (λb=>if b=a then some (.frz {cls:=.type "list",data:=.seq vs.toArray} (.lst (ns.map V.int))) else none) (λb=> ?_) (.inl (.inr ⟨{cls:=.type "list",data:=.seq vs.toArray},if_pos rfl⟩)) (λb u z=> ?_) (λb z=> ?_) λ_=>hk
  ·by_cases hb:b=a
   ·exact .inr ⟨_,_,if_pos hb⟩
   ·exact .inl (if_neg hb)
  ·by_cases hb:b=a
   ·have z':=(if_pos hb).symm.trans z;cases z';subst hb;exact⟨ha,by rw [List.length_map];exact hl,vs,_,rv,ha⟩
   ·have z':=(if_neg hb).symm.trans z;cases z'
  ·by_cases hb:b=a
   ·exact hb
   ·exact absurd (if_neg hb) z
def dq_6{l:PySem.W.OpenLaw}{n k:Nat}{q:Program}{loose:List Str}{XP:(Str->Option Value)->Heap->Prop}{YP:World->Heap->Prop}{d:DefRec}{K:Params->Frag}{CX:World->CXT}{sp:World->Sp}{x:Str}
  (hn:l.most=some n) (hn2:n<=sizeLine) (hdf:d.params.defaults= []) (hr:Room k callerA)
  (hY:∀(w:World) (h:Heap),YP w h->(K w.params).In h)
  (F:∀(w:World) (mg:Str->Option Value) (fa:Addr) (h:Heap),(K w.params).In h->h.Ns mainGlobals mg->mg d.name=some (.ref fa)->
   ∃fd:FuncData,(∀(s:Shared) (u:Value),BindsTo s fd ⟨[u],[]⟩ [(x,u)])/\
    ∀base:Heap,(K w.params).In base->base.Ns mainGlobals mg->FnOk l.prog w (K w.params) mg base (CX w) k fa fd [x] (sp w))
  (hsp:∀(w:World) (H:Hp) (a:Addr) (ns:List Int),ns.length<=n->Only H->SqL (K w.params) H a (ns.map V.int)->sp w [.ref a] H (λv _=>v=.bl true) λ_ _ _=>False)
  (hCX:∀(w:World) (H:Hp) (s:Shared) (e:Value) (s':Shared),CX w [] H s (λ_ _ _=>False) e s'->False):
  PySem.W.WalkO q loose XP YP l.row.toRowW d [] (λf vs=>PySem.call f vs):=by
 refine Att.attach_call hn hdf λw s₀ s₁ mg mb fa o pm cd doc a vs ns G Y ho hd hcd hmg az hints zj hg=> ?_;have KX:=hY w _ Y;obtain⟨fd,hb,hF⟩:=F w mg fa _ KX G.T.g hmg;exact de_5 KX G.T.g G.T.b G.T.builtins G.T.nolimit hg az hints (Nat.le_trans zj hn2) hr hF hb (λH hO hS=>hsp w H a ns zj hO hS) λH e s'=>hCX w H s₁ e s'
def k_3(s:Stmt):Arguments:=match s with
 | .FunctionDef _ a _ _ _ _ _ _ _ _=>a
 |_=>{posonlyargs:=[],args:=[],vararg:=none,kwonlyargs:=[],kw_defaults:=[],kwarg:=none,defaults:=[]}
def Fs(s:Stmt):List Stmt:=match s with
 | .FunctionDef _ _ b _ _ _ _ _ _ _=>b
 |_=> []
def Cn(s:Stmt):Scope:=match s with
 | .FunctionDef _ _ _ _ _ _ sc _ _ _=>sc
 |_=>{kind:=.function,names:=[],isGenerator:=false,isCoroutine:=false}
abbrev CX0:CXT:=λ_ _ _ _ _ _=>False
abbrev E0:XK:=λ_ _ _=>False
structure Fun(K:Frag)(x qual:Str)(st:Stmt)(f:Addr)(fd:FuncData):Prop where
 ex:∃(oc:Value) (od:Option Addr) (kV doc pm:Value) (an:Option Addr) (zn ct:Value) (osl:Array (Option Value)),
  fd=fnOf x qual (k_3 st) (Fs st) (Cn st) .none kV doc pm an zn ct/\K.lookup f=some ⟨oc,od,.func fd,osl⟩/\codeIn K zn qual=true
 kp:keepIn K (.ref f)=true
section
variable{P:Program}{w:World}{K:Frag}{mg:Str->Option Value}{base:Heap}
def Fun.binds{x qual:Str}{st:Stmt}{f:Addr}{fd:FuncData}{ps:List Str}(F:Fun K x qual st f fd)
  (h:∀(kV doc pm:Value) (an:Option Addr) (zn ct:Value) (us:List Value),us.length=ps.length->bindArgs (fnOf x qual (k_3 st) (Fs st) (Cn st) .none kV doc pm an zn ct) ⟨us,[]⟩=pure (ps.zip us)):Binds K fd ps []:=by
 obtain⟨oc,od,kV,doc,pm,an,zn,ct,osl,rfl,lk,hcd⟩:=F.ex;exact .all (h kV doc pm an zn ct)
def ck_8{x qual:Str}{st:Stmt}{f:Addr}{oc:Value}{od an:Option Addr}{osl:Array (Option Value)}{kV doc pm zn ct:Value}(l:K.lookup f=some ⟨oc,od,.func (fnOf x qual (k_3 st) (Fs st) (Cn st) .none kV doc pm an zn ct),osl⟩)
  (c:codeIn K zn qual=true) (k:keepIn K (.ref f)=true):Fun K x qual st f (fnOf x qual (k_3 st) (Fs st) (Cn st) .none kV doc pm an zn ct):=⟨⟨oc,od,kV,doc,pm,an,zn,ct,osl,rfl,l,c⟩,k⟩
end
section
variable{X:Cx}
end
def Same(H H':Hp):Prop:=∀b o,H b=some o->H' b=some o
def Same.refl(H:Hp):Same H H:=λ_ _ h=>h
def Same.trans{H H1 H2:Hp}(a:Same H H1)(b:Same H1 H2):Same H H2:=λc o h=>b c o (a c o h)
def Same.free{H H':Hp}(e:Same H H'){l:Addr}(h:H' l=Option.none):H l=Option.none:=by
 cases q:H l with
 |none=>rfl
 |some o=>
  rw [e l o q] at h;cases h
def Same.seq{K:Frag}{H H':Hp}{a:Addr}{xs:List V}(e:Same H H')(h:SqL K H a xs):SqL K H' a xs:=by
 rcases h with(h|⟨o,h⟩)|h
 ·exact .inl (.inl (e _ _ h))
 ·exact .inl (.inr ⟨o,e _ _ h⟩)
 ·exact .inr h
end L2
namespace L3
open PySem PySem.Spec PyProof.Rows L2
variable{K:Frag}{fd:FuncData}{mg:Str->Option Value}{P:Program}{vs:List V}{us:List Value}{base:Heap}{H:Hp}{X:Cx}{pos:Pos}{v:V}
abbrev Sg:=L2.St
inductive D where
 |non|bl (b:Bool)|int (i:Int)|str (x:Str)|lst (ds:List D)|tup (ds:List D)|dic (kvs:List (Au×D))
 |exn (c:Str) (ns:List Str) (vs:List D)|obj (c:Str) (ns:List Str) (vs:List D)
structure Xn where
 c:Str
 ns:List Str
 vs:List D
inductive R(α:Type) where
 |ok (a:α)|ex (x:Xn)|no
namespace R
def bind{α β:Type}(r:R α)(k:α->R β):R β:=match r with
 | .ok a=>k a
 | .ex x=> .ex x
 | .no=> .no
@[simp] theorem bind_ok{α β:Type}(a:α)(k:α->R β):(R.ok a).bind k=k a:=rfl
@[simp] theorem bind_ex{α β:Type}(x:Xn)(k:α->R β):(R.ex x).bind k=.ex x:=rfl
@[simp] theorem bind_no{α β:Type}(k:α->R β):(R.no).bind k=.no:=rfl
end R
inductive Tn where
 |sh (d:D)|lst (ts:List Tn)|tup (ts:List Tn)|dic (zk:List (Au×Tn))|obj (c:Str) (ns:List Str) (ts:List Tn)
mutual
def Tn.d:Tn->D
 | .sh d=>d
 | .lst ts=> .lst (Tn.ds ts)
 | .tup ts=> .tup (Tn.ds ts)
 | .dic zk=> .dic (Tn.ks zk)
 | .obj c ns ts=> .obj c ns (Tn.ds ts)
def Tn.ds:List Tn->List D
 | []=> []
 |t::ts=>t.d::Tn.ds ts
def Tn.ks:List (Au×Tn)->List (Au×D)
 | []=> []
 |(k,t)::ts=>(k,t.d)::Tn.ks ts
end
def Tn.of:D->Tn
 | .lst ds=> .lst (ds.map .sh)
 | .dic kvs=> .dic (kvs.map λp=>(p.1,.sh p.2))
 | .obj c ns vs=> .obj c ns (vs.map .sh)
 |d=> .sh d
theorem Tn.ds_sh:∀ds:List D,Tn.ds (ds.map .sh)=ds
 | []=>rfl
 |d::ds=>by
  show(Tn.sh d).d::Tn.ds (ds.map .sh)=_;rw [Tn.ds_sh ds];rfl
theorem Tn.ks_sh:∀kvs:List (Au×D),Tn.ks (kvs.map λp=>(p.1,Tn.sh p.2))=kvs
 | []=>rfl
 |(k,d)::kvs=>by
  show(k,(Tn.sh d).d)::Tn.ks (kvs.map λp=>(p.1,Tn.sh p.2))=_;rw [Tn.ks_sh kvs];rfl
theorem Tn.ks_fst:∀zk:List (Au×Tn),(Tn.ks zk).map (·.1)=zk.map (·.1)
 | []=>rfl
 |(k,t)::zk=>by show k::(Tn.ks zk).map (·.1)=_;rw [Tn.ks_fst zk];rfl
theorem Tn.ks_snd:∀zk:List (Au×Tn),(Tn.ks zk).map (·.2)=Tn.ds (zk.map (·.2))
 | []=>rfl
 |(k,t)::zk=>by show t.d::(Tn.ks zk).map (·.2)=_;rw [Tn.ks_snd zk];rfl
def Tn.of_d(d:D):(Tn.of d).d=d:=by
 cases d with
 |lst ds=>show D.lst (Tn.ds (ds.map .sh))=_;rw [Tn.ds_sh]
 |dic kvs=>show D.dic (Tn.ks (kvs.map λp=>(p.1,.sh p.2)))=_;rw [Tn.ks_sh]
 |obj c ns vs=>show D.obj c ns (Tn.ds (vs.map .sh))=_;rw [Tn.ds_sh]
 |_=>rfl
inductive W where
 |sh (d:D)|ow (d:D)|tr (t:Tn)
def W.d:W->D
 | .sh d=>d
 | .ow d=>d
 | .tr t=>t.d
@[simp] theorem W.d_sh(d:D):(W.sh d).d=d:=rfl
@[simp] theorem W.d_ow(d:D):(W.ow d).d=d:=rfl
@[simp] theorem W.d_tr(t:Tn):(W.tr t).d=t.d:=rfl
def ClsAt(K:Frag)(c:Str)(C:Addr):Prop:=nsIn K mainGlobals c=some (some (.ref C))
def XO(a C:Addr)(dx:Option Addr):HO:=.ext λh=>∃us sl,h.get? a=some ⟨.ref C,dx,.fields us,sl⟩
mutual
inductive Has(K:Frag)(G:Hp):V->D->Prop where
 |non:Has K G .non .non
 |bl (b:Bool):Has K G (.bl b) (.bl b)
 |int (i:Int):Has K G (.int i) (.int i)
 |str (x:Str):Has K G (.str x) (.str x)
 |lst {a:Addr} {vs:List V} {ds:List D} (h:SqL K G a vs) (r:HasL K G vs ds):Has K G (.ref a) (.lst ds)
 |tup {a:Addr} {vs:List V} {ds:List D} (h:SqT K G a vs) (r:HasL K G vs ds):Has K G (.ref a) (.tup ds)
 |exn0 {a C:Addr} {c:Str} (hc:ClsAt K c C) (h:G a=some (XO a C none)):Has K G (.ref a) (.exn c [] [])
 |exn1 {a C d:Addr} {c:Str} {ns:List Str} {us:List V} {vs:List D} (hc:ClsAt K c C) (h:G a=some (XO a C (some d))) (hd:G d=some (.xd (ns.zip us))) (hl:ns.length=us.length) (r:HasL K G us vs):Has K G (.ref a) (.exn c ns vs)
 |dic {a:Addr} {kvs:List (Au×V)} {kds:List (Au×D)} (h:Rd G a (.dK kvs)) (hk:kvs.map (·.1)=kds.map (·.1)) (r:HasL K G (kvs.map (·.2)) (kds.map (·.2))):Has K G (.ref a) (.dic kds)
 |obj {a C dx:Addr} {c:Str} {ns:List Str} {us:List V} {vs:List D} (hc:ClsAt K c C) (h:G a=some (.ins C dx (ns.zip us))) (hl:ns.length=us.length) (r:HasL K G us vs):Has K G (.ref a) (.obj c ns vs)
inductive HasL(K:Frag)(G:Hp):List V->List D->Prop where
 |nil:HasL K G [] []
 |cons {v:V} {d:D} {vs:List V} {ds:List D} (h:Has K G v d) (r:HasL K G vs ds):HasL K G (v::vs) (d::ds)
end
abbrev AS:=Addr->Prop
mutual
inductive Ow(K:Frag)(G H:Hp):V->Tn->AS->Prop where
 |sh {v:V} {d:D} {S:AS} (h:Has K G v d):Ow K G H v (.sh d) S
 |lst {a:Addr} {vs:List V} {ts:List Tn} {S S1:AS} (h:H a=some (.lst vs)) (ha:S a) (sub:∀b,S1 b->S b/\b≠a) (r:OwL K G H vs ts S1):Ow K G H (.ref a) (.lst ts) S
 |tup {a:Addr} {vs:List V} {ts:List Tn} {S S1:AS} (h:H a=some (.tup vs)) (ha:S a) (sub:∀b,S1 b->S b/\b≠a) (r:OwL K G H vs ts S1):Ow K G H (.ref a) (.tup ts) S
 |dic {a:Addr} {kvs:List (Au×V)} {zk:List (Au×Tn)} {S S1:AS} (h:H a=some (.dK kvs)) (hk:kvs.map (·.1)=zk.map (·.1)) (ha:S a) (sub:∀b,S1 b->S b/\b≠a) (r:OwL K G H (kvs.map (·.2)) (zk.map (·.2)) S1):Ow K G H (.ref a) (.dic zk) S
 |obj {a C dx:Addr} {c:Str} {ns:List Str} {us:List V} {ts:List Tn} {S S1:AS} (hc:ClsAt K c C) (h:H a=some (.ins C dx (ns.zip us))) (hl:ns.length=us.length) (ha:S a) (sub:∀b,S1 b->S b/\b≠a) (r:OwL K G H us ts S1):Ow K G H (.ref a) (.obj c ns ts) S
inductive OwL(K:Frag)(G H:Hp):List V->List Tn->AS->Prop where
 |nil {S:AS}:OwL K G H [] [] S
 |cons {v:V} {t:Tn} {vs:List V} {ts:List Tn} {S S1 S2:AS} (h:Ow K G H v t S1) (r:OwL K G H vs ts S2) (dj:∀b,S1 b->S2 b->False) (s1:∀b,S1 b->S b) (s2:∀b,S2 b->S b):OwL K G H (v::vs) (t::ts) S
end
def Same.rdD{H H':Hp}{a:Addr}{u:HO}(e:Same H H')(h:Rd H a u):Rd H' a u:=by
 rcases h with h|⟨o,h⟩
 ·exact .inl (e _ _ h)
 ·exact .inr ⟨o,e _ _ h⟩
def Same.tupS{H H':Hp}{a:Addr}{xs:List V}(e:Same H H')(h:SqT K H a xs):SqT K H' a xs:=by
 rcases h with(h|⟨o,h⟩)|h
 ·exact .inl (.inl (e _ _ h))
 ·exact .inl (.inr ⟨o,e _ _ h⟩)
 ·exact .inr h
mutual
theorem Has.mono{G G':Hp}(e:Same G G'):∀{v:V} {d:D},Has K G v d->Has K G' v d
 |_,_,.non=> .non
 |_,_,.bl b=> .bl b
 |_,_,.int i=> .int i
 |_,_,.str x=> .str x
 |_,_,.lst h r=> .lst (e.seq h) (HasL.mono e r)
 |_,_,.tup h r=> .tup (Same.tupS e h) (HasL.mono e r)
 |_,_,.exn0 hc h=> .exn0 hc (e _ _ h)
 |_,_,.exn1 hc h hd hl r=> .exn1 hc (e _ _ h) (e _ _ hd) hl (HasL.mono e r)
 |_,_,.dic h hk r=> .dic (Same.rdD e h) hk (HasL.mono e r)
 |_,_,.obj hc h hl r=> .obj hc (e _ _ h) hl (HasL.mono e r)
theorem HasL.mono{G G':Hp}(e:Same G G'):∀{vs:List V} {ds:List D},HasL K G vs ds->HasL K G' vs ds
 |_,_,.nil=> .nil
 |_,_,.cons h r=> .cons (Has.mono e h) (HasL.mono e r)
end
theorem HasL.length{G:Hp}:∀{vs:List V} {ds:List D},HasL K G vs ds->vs.length=ds.length
 |_,_,.nil=>rfl
 |_,_,.cons _ r=>by rw [List.length_cons,List.length_cons,r.length]
theorem HasL.append{G:Hp}:∀{vs ws:List V} {ds es:List D},HasL K G vs ds->HasL K G ws es->HasL K G (vs ++ ws) (ds ++ es)
 |_,_,_,_,.nil,s=>s
 |_,_,_,_,.cons h r,s=> .cons h (r.append s)
theorem HasL.get{G:Hp}:∀{vs:List V} {ds:List D} {i:Nat} {d:D},HasL K G vs ds->ds[i]? =some d->∃v,vs[i]? =some v/\Has K G v d
 |_,_,_,_,.nil,e=>by simp at e
 |_,_,0,_,.cons h _,e=>by simp at e;subst e;exact⟨_,rfl,h⟩
 |_,_,i + 1,d,.cons _ r,e=>by
  obtain⟨u,h1,h2⟩:=HasL.get (i:=i) (d:=d) r (by simpa using e);exact⟨u,by simpa using h1,h2⟩
theorem HasL.take{G:Hp}:∀{vs:List V} {ds:List D} (n:Nat),HasL K G vs ds->HasL K G (vs.take n) (ds.take n)
 |_,_,0,_=> .nil
 |_,_,_ + 1,.nil=> .nil
 |_,_,n + 1,.cons h r=> .cons h (HasL.take n r)
theorem HasL.drop{G:Hp}:∀{vs:List V} {ds:List D} (n:Nat),HasL K G vs ds->HasL K G (vs.drop n) (ds.drop n)
 |_,_,0,r=>r
 |_,_,_ + 1,.nil=> .nil
 |_,_,n + 1,.cons _ r=>HasL.drop n r
theorem HasL.set{G:Hp}{d:D}(h:Has K G v d):∀{vs:List V} {ds:List D} (i:Nat),HasL K G vs ds->HasL K G (vs.set i v) (ds.set i d)
 |_,_,_,.nil=> .nil
 |_,_,0,.cons _ r=> .cons h r
 |_,_,i + 1,.cons q r=> .cons q (HasL.set h i r)
mutual
theorem Ow.mono{G G' H H':Hp}(e:Same G G'):∀{v:V} {d:Tn} {S S':AS},Ow K G H v d S->(∀b o,S b->H b=some o->H' b=some o)->(∀b,S b->S' b)->Ow K G' H' v d S'
 |_,_,_,_,.sh h,_,_=> .sh (h.mono e)
 |_,_,_,_,.lst h ha sub r,f,i=> .lst (f _ _ ha h) (i _ ha) (λb hb=>⟨i b (sub b hb).1,(sub b hb).2⟩) (OwL.mono e r (λb o hb q=>f b o (sub b hb).1 q) λ_ q=>q)
 |_,_,_,_,.tup h ha sub r,f,i=> .tup (f _ _ ha h) (i _ ha) (λb hb=>⟨i b (sub b hb).1,(sub b hb).2⟩) (OwL.mono e r (λb o hb q=>f b o (sub b hb).1 q) λ_ q=>q)
 |_,_,_,_,.dic h hk ha sub r,f,i=> .dic (f _ _ ha h) hk (i _ ha) (λb hb=>⟨i b (sub b hb).1,(sub b hb).2⟩) (OwL.mono e r (λb o hb q=>f b o (sub b hb).1 q) λ_ q=>q)
 |_,_,_,_,.obj hc h hl ha sub r,f,i=> .obj hc (f _ _ ha h) hl (i _ ha) (λb hb=>⟨i b (sub b hb).1,(sub b hb).2⟩) (OwL.mono e r (λb o hb q=>f b o (sub b hb).1 q) λ_ q=>q)
theorem OwL.mono{G G' H H':Hp}(e:Same G G'):∀{vs:List V} {ds:List Tn} {S S':AS},OwL K G H vs ds S->(∀b o,S b->H b=some o->H' b=some o)->(∀b,S b->S' b)->OwL K G' H' vs ds S'
 |_,_,_,_,.nil,_,_=> .nil
 |_,_,_,_,.cons h r dj s1 s2,f,i=> .cons (Ow.mono e h (λb o hb q=>f b o (s1 b hb) q) λ_ q=>q) (OwL.mono e r (λb o hb q=>f b o (s2 b hb) q) λ_ q=>q) dj (λb q=>i b (s1 b q)) λb q=>i b (s2 b q)
end
mutual
theorem Ow.has{G G' H:Hp}(e:Same G G'):∀{v:V} {d:Tn} {S:AS},Ow K G H v d S->(∀b o,S b->H b=some o->G' b=some o)->Has K G' v d.d
 |_,_,_,.sh h,_=>h.mono e
 |_,_,_,.lst h ha sub r,f=> .lst (SqL.of (f _ _ ha h)) (OwL.has e r λb o hb q=>f b o (sub b hb).1 q)
 |_,_,_,.tup h ha sub r,f=> .tup (SqT.of (f _ _ ha h)) (OwL.has e r λb o hb q=>f b o (sub b hb).1 q)
 |_,_,_,.dic h hk ha sub r,f=> .dic (.inl (f _ _ ha h)) (by rw [Tn.ks_fst];exact hk) (by rw [Tn.ks_snd];exact OwL.has e r λb o hb q=>f b o (sub b hb).1 q)
 |_,_,_,.obj hc h hl ha sub r,f=> .obj hc (f _ _ ha h) hl (OwL.has e r λb o hb q=>f b o (sub b hb).1 q)
theorem OwL.has{G G' H:Hp}(e:Same G G'):∀{vs:List V} {ds:List Tn} {S:AS},OwL K G H vs ds S->(∀b o,S b->H b=some o->G' b=some o)->HasL K G' vs (Tn.ds ds)
 |_,_,_,.nil,_=> .nil
 |_,_,_,.cons h r dj s1 s2,f=> .cons (Ow.has e h λb o hb q=>f b o (s1 b hb) q) (OwL.has e r λb o hb q=>f b o (s2 b hb) q)
end
theorem OwL.of{G H:Hp}:∀{vs:List V} {ds:List D} {S:AS},HasL K G vs ds->OwL K G H vs (ds.map .sh) S
 |_,_,_,.nil=> .nil
 |_,_,_,.cons h r=> .cons (S1:=λ_=>False) (S2:=λ_=>False) (.sh h) (OwL.of r) (λ_ z _=>z) (λ_ z=>z.elim) λ_ z=>z.elim
theorem OwL.off{G H:Hp}:∀{vs:List V} {ds:List D} {S:AS},OwL K G H vs (ds.map .sh) S->HasL K G vs ds
 |_,[],_,h=>by cases h;exact .nil
 |_,d::ds,_,h=>by
  cases h with
  |cons h r dj s1 s2=>
   cases h with
   |sh h=>exact .cons h (OwL.off r)
def Ow.list{G H:Hp}{a:Addr}{ds:List D}{S:AS}(h:H a=some (.lst vs))(ha:S a)(r:HasL K G vs ds):Ow K G H (.ref a) (Tn.of (.lst ds)) S:=
 .lst (S1:=λ_=>False) h ha (λ_ z=>z.elim) (.of r)
def Ow.list_of{G H:Hp}{ds:List D}{S:AS}(t:Ow K G H v (Tn.of (.lst ds)) S):∃a vs,v=.ref a/\S a/\H a=some (.lst vs)/\HasL K G vs ds:=by
 cases t with
 |lst h ha sub r=>exact⟨_,_,rfl,ha,h,r.off⟩
def de_6(kds:List (Au×D)):(kds.map λp=>(p.1,Tn.sh p.2)).map (·.2)=(kds.map (·.2)).map Tn.sh:=by
 rw [List.map_map,List.map_map];rfl
def cq_7(kds:List (Au×D)):(kds.map λp=>(p.1,Tn.sh p.2)).map (·.1)=kds.map (·.1):=by
 rw [List.map_map];rfl
def Ow.dict{G H:Hp}{a:Addr}{kvs:List (Au×V)}{kds:List (Au×D)}{S:AS}(h:H a=some (.dK kvs))(hk:kvs.map (·.1)=kds.map (·.1))(ha:S a)(r:HasL K G (kvs.map (·.2)) (kds.map (·.2))):Ow K G H (.ref a) (Tn.of (.dic kds)) S:=
 .dic (S1:=λ_=>False) h (by rw [cq_7];exact hk) ha (λ_ z=>z.elim) (by rw [de_6];exact .of r)
def Ow.dict_of{G H:Hp}{kds:List (Au×D)}{S:AS}(t:Ow K G H v (Tn.of (.dic kds)) S):∃a kvs,v=.ref a/\S a/\H a=some (.dK kvs)/\kvs.map (·.1)=kds.map (·.1)/\HasL K G (kvs.map (·.2)) (kds.map (·.2)):=by
 generalize e:Tn.of (.dic kds)=t' at t;cases t with
 |dic h hk ha sub r=>
  injection e with e
  subst e;rw [de_6] at r;rw [cq_7] at hk;exact⟨_,_,rfl,ha,h,hk,r.off⟩
 |_=>cases e
structure Step(G H G' H':Hp):Prop where
 hh:Same H H'
 gh:Same G' H'
 gg:Same G G'
 nw:∀b,G b=none->H b≠none->G' b=none
theorem Step.refl{G H:Hp}(h:Same G H):Step G H G H:=⟨Same.refl _,h,Same.refl _,λ_ e _=>e⟩
theorem Step.trans{G H G1 H1 G2 H2:Hp}(a:Step G H G1 H1)(b:Step G1 H1 G2 H2):Step G H G2 H2:=
 ⟨a.hh.trans b.hh,b.gh,a.gg.trans b.gg,λc e n=>b.nw c (a.nw c e n) λz=>n (a.hh.free z)⟩
def n_5{p:Addr}(h:H p=none)(o:HO):Same H (upd H p o):=λb u q=>by rw [Bm (Hg q h)];exact q
def de_7{G H:Hp}(h:Same G H)(p:Addr)(o:HO):Same (upd G p o) (upd H p o):=λb u q=>by
 by_cases e:b=p
 ·subst e;rw [Cw] at q⊢;exact q
 ·rw [Bm e] at q⊢;exact h b u q
def Step.new{G H:Hp}(h:Same G H){p:Addr}(e:H p=none)(o:HO):Step G H (L2.upd G p o) (L2.upd H p o):=
 ⟨n_5 e o,de_7 h p o,n_5 (h.free e) o,λb n z=>by
  by_cases q:b=p
  ·subst q;exact absurd e z
  ·rw [Bm q];exact n⟩
def Step.own{G H:Hp}(h:Same G H){p:Addr}(e:H p=none)(o:HO):Step G H G (L2.upd H p o):=
 ⟨n_5 e o,h.trans (n_5 e o),Same.refl _,λ_ n _=>n⟩
open Classical in
def Hh(G H:Hp)(S:AS):Hp:=λb=>if S b then H b else G b
def WP(K:Frag)(G H:Hp)(w:W)(Q:VK):Prop:=match w with
 | .sh d=>∀v G' H',Step G H G' H'->Has K G' v d->Q v H'
 | .ow d=>∀v S G' H',Step G H G' H'->(∀a,S a->H a=none/\G' a=none/\H' a≠none)->Ow K G' H' v (Tn.of d) S->Q v H'
 | .tr t=>∀v S G' H',Step G H G' H'->(∀a,S a->H a=none/\G' a=none/\H' a≠none)->Ow K G' H' v t S->Q v H'
structure EXT where
 p:Xn->Hp->Hp->Prop
 mono:∀x G H G' H',Step G H G' H'->p x G H->p x G' H'
def EX0:EXT:=⟨λ_ _ _=>False,λ_ _ _ _ _ _ h=>h⟩
abbrev Bq:=Sg->EXT
def Ee:Bq:=λ_=>EX0
def Out(K:Frag)(EX:EXT)(G H:Hp)(r:R W)(Q:VK):Prop:=match r with
 | .ok w=>WP K G H w Q
 | .ex x=>EX.p x G H
 | .no=>False
section
variable{K:Frag}{EX:EXT}{G H G' H':Hp}{Q Q':VK}{w:W}
def WP.mono(s:Step G H G' H')(h:WP K G H w Q):WP K G' H' w Q:=by
 cases w with
 |sh d=>exact λv G2 H2 s2 r=>h v G2 H2 (s.trans s2) r
 |ow d=>exact λv S G2 H2 s2 fr t=>h v S G2 H2 (s.trans s2) (λa ha=>⟨s.hh.free (fr a ha).1,(fr a ha).2⟩) t
 |tr d=>exact λv S G2 H2 s2 fr t=>h v S G2 H2 (s.trans s2) (λa ha=>⟨s.hh.free (fr a ha).1,(fr a ha).2⟩) t
theorem Out.mono{r:R W}(s:Step G H G' H')(h:Out K EX G H r Q):Out K EX G' H' r Q:=by
 cases r with
 |ok w=>exact WP.mono s h
 |ex x=>exact EX.mono _ _ _ _ _ s h
 |no=>exact h
def WP.join{t:Tn}{S:AS}(h:∀v G' H',Step G H G' H'->Has K G' v t.d->Q v H')(s:Step G H G' H')(fr:∀a,S a->H a=none/\G' a=none/\H' a≠none)(t:Ow K G' H' v t S):Q v H':=by
 have sg:Same G' (Hh G' H' S):=λb o q=>by
  unfold Hh
  split
  ·rename_i hb;rw [(fr b hb).2.1] at q;cases q
  ·exact q
 refine h v (Hh G' H' S) H' ⟨s.hh,λb o q=> ?_,s.gg.trans sg,λb n z=> ?_⟩ (t.has sg λb o hb q=> ?_)
 ·unfold Hh at q
  split at q
  ·exact q
  ·exact s.gh b o q
 ·unfold Hh
  split
  ·rename_i hb;exact absurd (fr b hb).1 z
  ·exact s.nw b n z
 ·unfold Hh;rw [if_pos hb];exact q
def WP.intro(h:∀v G' H',Step G H G' H'->Has K G' v w.d->Q v H'):WP K G H w Q:=by
 cases w with
 |sh d=>exact h
 |ow d=>exact λv S G' H' s fr t=>WP.join (t:=Tn.of d) (by rw [Tn.of_d];exact h) s fr t
 |tr d=>exact λv S G' H' s fr t=>WP.join h s fr t
theorem WP.sh(h:WP K G H (.sh w.d) Q):WP K G H w Q:=WP.intro h
def WP.use{d:D}(h:WP K G H (.sh d) Q)(s:Same G H)(r:Has K G v d):Q v H:=h v G H (Step.refl s) r
end
inductive ExcAt(K:Frag)(G:Hp):Value->Option Addr->Xn->Prop where
 |bare {C:Addr} {c:Str} (hc:ClsAt K c C):ExcAt K G (.ref C) none ⟨c,[],[]⟩
 |with_ {C d:Addr} {c:Str} {ns:List Str} {us:List V} {vs:List D} (hc:ClsAt K c C) (hd:G d=some (.xd (ns.zip us))) (hl:ns.length=us.length) (r:HasL K G us vs):ExcAt K G (.ref C) (some d) ⟨c,ns,vs⟩
def EXof(K:Frag)(E:XK):EXT:=⟨λx G H=>∀cls dx G' H',Step G H G' H'->ExcAt K G' cls dx x->E cls dx H',λ_ _ _ _ _ s h cls dx G2 H2 s2=>h cls dx G2 H2 (s.trans s2)⟩
def EXE(K:Frag)(EX:EXT):XK:=λcls dx H=>∃x G,Same G H/\ExcAt K G cls dx x/\EX.p x G H
def EXE.of{E:XK}{cls:Value}{dx:Option Addr}(h:EXE K (EXof K E) cls dx H):E cls dx H:=by
 obtain⟨x,G,s,e,q⟩:=h;exact q cls dx G H (Step.refl s) e
def EXof.in{EX:EXT}{G H:Hp}{x:Xn}(q:EX.p x G H):(EXof K (EXE K EX)).p x G H:=λ_ _ G' H' st e=>⟨x,G',st.gh,e,EX.mono _ _ _ _ _ st q⟩
abbrev DE:=List (Option D)
abbrev FE:=DE->R W
abbrev FT:=DE->R Bool
abbrev FA:=DE->R (List D)
structure HasS(K:Frag)(G:Hp)(σ:Sg)(δ:DE):Prop where
 len:σ.length=δ.length
 get:∀(i:Nat) (d:D),δ[i]? =some (some d)->∃v,σ[i]? =some (some v)/\Has K G v d
theorem HasS.mono{G G':Hp}{σ:Sg}{δ:DE}(e:Same G G')(h:HasS K G σ δ):HasS K G' σ δ:=⟨h.len,λi d q=>by
 obtain⟨v,e1,r⟩:=h.get i d q;exact⟨v,e1,r.mono e⟩⟩
def tD(K:Frag)(EX:Bq)(f:FE):TE:=λ σ H Q=>∃G δ,Same G H/\HasS K G σ δ/\Out K (EX σ) G H (f δ) Q
def tDt(K:Frag)(EX:Bq)(f:FT):TT:=λ σ H Q=>∃G δ,Same G H/\HasS K G σ δ/\match f δ with
 | .ok b=>∀G' H',Step G H G' H'->Q b H'
 | .ex x=>(EX σ).p x G H
 | .no=>False
def tDa(K:Frag)(EX:Bq)(f:FA):TA:=λ σ H Q=>∃G δ,Same G H/\HasS K G σ δ/\match f δ with
 | .ok ds=>∀vs G' H',Step G H G' H'->HasL K G' vs ds->Q vs H'
 | .ex x=>(EX σ).p x G H
 | .no=>False
abbrev ED(X:Cx)(EX:Bq)(e:Expr)(f:FE):Prop:=PE X e (tD X.K EX f)
abbrev TD(X:Cx)(EX:Bq)(e:Expr)(f:FT):Prop:=PT X e (tDt X.K EX f)
abbrev AD(X:Cx)(EX:Bq)(es:List Expr)(f:FA):Prop:=PA X es (tDa X.K EX f)
def PE.imp{e:Expr}{t t':TE}(h:PE X e t)(i:∀σ H Q,t' σ H Q->t σ H Q):PE X e t':=λzc s σ H Q I q=>h zc s σ H Q I (i σ H Q q)
def PT.imp{e:Expr}{t t':TT}(h:PT X e t)(i:∀σ H Q,t' σ H Q->t σ H Q):PT X e t':=λzc s σ H Q I q=>h zc s σ H Q I (i σ H Q q)
def PW.imp{e:Expr}{t t':TT}(h:PW X e t)(i:∀σ H Q,t' σ H Q->t σ H Q):PW X e t':=λwh zc s σ H Q I q=>h wh zc s σ H Q I (i σ H Q q)
def PA.imp{e:List Expr}{t t':TA}(h:PA X e t)(i:∀σ H Q,t' σ H Q->t σ H Q):PA X e t':=λpos zc s σ H Q I q=>h pos zc s σ H Q I (i σ H Q q)
def PS.imp{e:Stmt}{t t':TS}(h:PS X e t)(i:∀D σ H,t' D σ H->t D σ H):PS X e t':=λzc s σ H D I q=>h zc s σ H D I (i D σ H q)
def PSs.imp{e:List Stmt}{t t':TS}(h:PSs X e t)(i:∀D σ H,t' D σ H->t D σ H):PSs X e t':=λzc s σ H D I q=>h zc s σ H D I (i D σ H q)
section
variable{K:Frag}{EX:Bq}{G H:Hp}{σ:Sg}{δ:DE}{Q:VK}
def tD.seq{f:FE}{k:W->R W}{P:VK}(g:Same G H)(s:HasS K G σ δ)(h:Out K (EX σ) G H ((f δ).bind k) Q)
  (i:∀w v G' H',f δ=.ok w->Step G H G' H'->Has K G' v w.d->Out K (EX σ) G' H' (k w) Q->P v H'):tD K EX f σ H P:=by
 refine⟨G,δ,g,s, ?_⟩;cases e:f δ with
 |ok w=>
  rw [e] at h;exact WP.intro λv G' H' st r=>i w v G' H' e st r (Out.mono st h)
 |ex x=>rw [e] at h;exact h
 |no=>rw [e] at h;exact h
def tDt.seq{f:FT}{k:Bool->R W}{P:Bool->Hp->Prop}(g:Same G H)(s:HasS K G σ δ)(h:Out K (EX σ) G H ((f δ).bind k) Q)
  (i:∀b G' H',f δ=.ok b->Step G H G' H'->Out K (EX σ) G' H' (k b) Q->P b H'):tDt K EX f σ H P:=by
 refine⟨G,δ,g,s, ?_⟩;cases e:f δ with
 |ok w=>
  rw [e] at h;exact λG' H' st=>i w G' H' e st (Out.mono st h)
 |ex x=>rw [e] at h;exact h
 |no=>rw [e] at h;exact h
def tDa.seq{f:FA}{k:List D->R W}{P:List V->Hp->Prop}(g:Same G H)(s:HasS K G σ δ)(h:Out K (EX σ) G H ((f δ).bind k) Q)
  (i:∀ds vs G' H',f δ=.ok ds->Step G H G' H'->HasL K G' vs ds->Out K (EX σ) G' H' (k ds) Q->P vs H'):tDa K EX f σ H P:=by
 refine⟨G,δ,g,s, ?_⟩;cases e:f δ with
 |ok w=>
  rw [e] at h;exact λvs G' H' st r=>i w vs G' H' e st r (Out.mono st h)
 |ex x=>rw [e] at h;exact h
 |no=>rw [e] at h;exact h
end
def x_5{EX:EXT}{G H:Hp}{Q:VK}{ds:List D}(o:Out K EX G H (.ok (.ow (.lst ds))) Q)(g:Same G H)(r:HasL K G vs ds):∀p,H p=none->Q (.ref p) (upd H p (.lst vs)):=
 λp hp=>o (.ref p) (λb=>b=p) G _ (Step.own g hp _) (λa e=>by subst e;exact⟨hp,g.free hp,by rw [Cw];simp⟩) (.list Cw rfl r)
end L3
namespace L3
open PySem PySem.Spec PyProof.Rows L2
variable{K:Frag}{fd:FuncData}{mg:Str->Option Value}{P:Program}{vs:List V}{us:List Value}{base:Heap}{H:Hp}{X:Cx}{pos:Pos}{v:V}
structure Tr(h:Heap)(a C:Addr)(dx:Option Addr)(fl:Value)(T:Addr):Prop where
 ob:∃o us,h.get? a=some o/\o.cls=.ref C/\o.dict=dx/\o.data=.fields us/\us[1]? =some (.ref T)
 ne:T≠a
 tb:∃o us,h.get? T=some o/\o.data=.fields us/\us[3]? =some fl
structure KeepX(xs fr:List Addr)(h h':Heap):Prop where
 same:∀b o,b∉xs->b∉fr->h.get? b=some o->h'.get? b=some o
 slot:∀b o,b∉xs->h.get? b=some o->∃sl,h'.get? b=some {o with slots:=sl}
def KeepX.trans{xs ys fr:List Addr}{h1 h2 h3:Heap}(a:KeepX xs fr h1 h2)(b:KeepX ys fr h2 h3):KeepX (xs ++ ys) fr h1 h3:=
 ⟨λc o n m e=>b.same c o (λz=>n (List.mem_append_right _ z)) m (a.same c o (λz=>n (List.mem_append_left _ z)) m e),λc o n e=>by
  obtain⟨sl,e1⟩:=a.slot c o (λz=>n (List.mem_append_left _ z)) e;obtain⟨sl',e2⟩:=b.slot c _ (λz=>n (List.mem_append_right _ z)) e1;exact⟨sl',e2⟩⟩
def KeepX.of_same{xs fr:List Addr}{h h':Heap}(k:∀b o,b∉xs->h.get? b=some o->h'.get? b=some o):KeepX xs fr h h':=
 ⟨λb o n _ e=>k b o n e,λb o n e=>⟨o.slots,k b o n e⟩⟩
def de_8(o:Obj)(f:Array Value->Array Value):(o.mapFields f).dict=o.dict:=by
 obtain⟨c,d,dt,sl⟩:=o;cases dt <;> rfl
section
variable{M:Model}{A:Around}{E:Value->Shared->Prop}{s:Shared}{env:Env}{outer:List Env}{base:Heap}{L a C:Addr}{dx:Option Addr}{Q:Unit->Shared->Prop}
def cq_8{o:Obj}{us:Array Value}{head:Value}{b:Bool}(hfr:A.frames=some (env::outer))(hl:s.heap.FunFrames base (env::outer))(hf:env.frame=some L)
  (he:s.heap.get? a=some o) (hc:o.cls=.ref C) (hx:o.dict=dx) (hd:o.data=.fields us) (hz:1 < us.size)
  (h:∀h' T,s.heap.objs.size<=T->KeepX [a] (frs (env::outer)) s.heap h'->Tr h' a C dx (rawInt L) T->Q () {s with heap:=h'}):
  wpAny M A (do let fv<-frameOf env;let pl<-entryPlaceOf L b;let en<-EntryCells.newEntry head fv .none (rawInt L) .none pl;setField (.ref a) 1 en) Q E s:=by
 have nfr:a∉frs (env::outer):=λhm=>by
  obtain⟨_,u,hu,hn⟩:=hl.mem hm;rw [he] at hu;cases hu;exact hn us hd
 refine wpAny_bind (wpAny_frameOf_fun hfr hl hf λh1 so=> ?_);refine wpAny_bind (wpAny_entryPlaceOf λpl hpl=> ?_);unfold EntryCells.newEntry newFields;refine wpAny_bind (wpAny_newObj_type ?_ (hpl.sizeOk5 _ _ _ _ _));have e1:h1.get? a=some o:=(so.2.1 a nfr).trans he;generalize hT:({cls:=.type "traceback",dict:=none,data:=.fields ([head,.ref L,.none,rawInt L,.none] ++ (if pl.isEmpty then List.replicate 6 Value.none else pl)).toArray}:Obj)=oT;have eT:oT.data=.fields ([head,.ref L,.none,rawInt L,.none] ++ (if pl.isEmpty then List.replicate 6 Value.none else pl)).toArray:=by rw [<-hT]
 have e2:(h1.push oT).get? a=some o:=Heap.get?_push_of_some oT e1;refine wpAny_setField e2 hd hz ?_;have sz:h1.objs.size=s.heap.objs.size:=so.1;have ltA:a < s.heap.objs.size:=Heap.lt_size he;have neT:h1.objs.size≠a:=λz=>absurd ltA (by rw [<-z,sz];exact Nat.lt_irrefl _);have d3:=Obj.data_mapFields hd (·.setIfInBounds 1 (Value.ref h1.objs.size));refine h _ h1.objs.size (by rw [sz];exact Nat.le_refl _) ⟨λb u n m e=> ?_,λb u n e=> ?_⟩ ⟨⟨_,_,Heap.get?_update_self _ e2 (Obj.isFreed_of_fields d3),(Obj.cls_mapFields _ _).trans hc,(de_8 _ _).trans hx,d3, ?_⟩,neT,⟨oT,_, ?_,eT, ?_⟩⟩
 ·have nb:a≠b:=λz=>n (by simp [z]);rw [Heap.get?_update_other _ _ nb];exact Heap.get?_push_of_some oT ((so.2.1 b m).trans e)
 ·have nb:a≠b:=λz=>n (by simp [z]);obtain⟨sl,es⟩:=so.2.2 b u e;exact⟨sl,by rw [Heap.get?_update_other _ _ nb];exact Heap.get?_push_of_some oT es⟩
 ·simp [hz]
 ·rw [Heap.get?_update_other _ _ (Ne.symm neT)];exact Heap.get?_push_size h1 (Obj.isFreed_of_fields eT)
 ·first|(simp;done)|(rcases hpl with rfl|⟨_,_,_,_,_,_,_,rfl⟩ <;> simp)
def ck_9{o:Obj}{us:Array Value}(hfr:A.frames=some (env::outer))(hl:s.heap.FunFrames base (env::outer))(hf:env.frame=some L)
  (he:s.heap.get? a=some o) (hc:o.cls=.ref C) (hx:o.dict=dx) (hd:o.data=.fields us) (h1:us[1]? =some .none)
  (h:∀h' T,s.heap.objs.size<=T->KeepX [a] (frs (env::outer)) s.heap h'->Tr h' a C dx (rawInt L) T->Q () {s with heap:=h'}):wpAny M A (noteFrame (.ref a) env) Q E s:=by
 unfold noteFrame;simp only [hf];refine wpAny_bind (wpAny_field he hd h1 ?_);rw [if_neg (by decide)];exact cq_8 hfr hl hf he hc hx hd (Array.getElem?_eq_some_iff.mp h1).1 h
def bo_0{T0:Addr}(hfr:A.frames=some (env::outer))(hl:s.heap.FunFrames base (env::outer))(hf:env.frame=some L)(t:Tr s.heap a C dx .none T0)
  (h:∀h' T,s.heap.objs.size<=T->KeepX [a,T0] (frs (env::outer)) s.heap h'->Tr h' a C dx (rawInt L) T->Q () {s with heap:=h'}):wpAny M A (noteFrame (.ref a) env) Q E s:=by
 obtain⟨⟨o,us,he,hc,hx,hd,h1⟩,ne,⟨oT,ws,hT,hdT,h3⟩⟩:=t;unfold noteFrame;simp only [hf];refine wpAny_bind (wpAny_field he hd h1 ?_);rw [if_pos (show(Value.ref T0 != Value.none)=true from by simp)];refine wpAny_bind (wpAny_field hT hdT h3 ?_);rw [if_neg (show¬((Value.none ==rawInt L)=true) from by simp [rawInt])];refine wpAny_bind (wpAny_setField hT hdT (Array.getElem?_eq_some_iff.mp h3).1 ?_);have oth:∀b,b≠T0->(s.heap.update T0 (Obj.mapFields (·.setIfInBounds 3 Value.none))).get? b=s.heap.get? b:=λb hb=>Heap.get?_update_other _ _ (Ne.symm hb);have dm:∀b u,s.heap.get? b=some u->(∀zs,u.data≠ .fields zs)->b≠T0:=λb u hb hn q=>by
  subst q;rw [hT] at hb;cases hb;exact hn ws hdT
 refine cq_8 (s:={s with heap:=s.heap.update T0 (Obj.mapFields (·.setIfInBounds 3 Value.none))}) hfr (hl.of_keeps λb u hb hn=>⟨u,(oth b (dm b u hb hn)).trans hb,rfl⟩) hf ((oth a (Ne.symm ne)).trans he) hc hx hd (Array.getElem?_eq_some_iff.mp h1).1 λh' T n k tr=>h h' T ?_ ?_ tr
 ·have zz:(s.heap.update T0 (Obj.mapFields (·.setIfInBounds 3 Value.none))).objs.size=s.heap.objs.size:=Heap.size_update _ _ _;rw [<-zz];exact n
 ·have na:∀b,b∉ [a,T0]->b∉ [a]:=λb nb z=>nb (by rw [List.mem_singleton.mp z];exact List.mem_cons_self);have nT:∀b,b∉ [a,T0]->b≠T0:=λb nb z=>nb (by rw [z];simp);exact⟨λb u nb m e=>k.same b u (na b nb) m ((oth b (nT b nb)).trans e),λb u nb e=>k.slot b u (na b nb) ((oth b (nT b nb)).trans e)⟩
def z_9{T:Addr}{fl:Value}(t:Tr s.heap a C dx fl T)(h:∀h',(∀b o,b∉ [T]->s.heap.get? b=some o->h'.get? b=some o)->Tr h' a C dx .none T->Q () {s with heap:=h'}):wpAny M A (setFlight (.ref a) none) Q E s:=by
 obtain⟨⟨o,us,he,hc,hx,hd,h1⟩,ne,⟨oT,ws,hT,hdT,h3⟩⟩:=t;have sz3:3 < ws.size:=(Array.getElem?_eq_some_iff.mp h3).1;unfold setFlight;refine wpAny_bind (wpAny_field he hd h1 ?_);rw [if_pos (show(Value.ref T != Value.none)=true from by simp)];refine wpAny_setField hT hdT sz3 (h _ (λb u n e=> ?_) ⟨⟨o,us, ?_,hc,hx,hd,h1⟩,ne,⟨_,_,Heap.get?_update_self _ hT (Obj.isFreed_of_fields (Obj.data_mapFields hdT _)),Obj.data_mapFields hdT _, ?_⟩⟩)
 ·rw [Heap.get?_update_other _ _ (λz=>n (by simp [z]))];exact e
 ·rw [Heap.get?_update_other _ _ ne];exact he
 ·simp [sz3]
end
def CXr(P:Program)(w:World):CXT:=λouter H s E e s'=>∃a C dx T H',e=.ref a/\s'.os=s.os/\AllBare s'.gens/\Un (frs outer) [] H H' s.heap s'.heap/\HOk P w H' s'.heap/\
 Tr s'.heap a C dx .none T/\H' a=none/\H' T=none/\s.heap.objs.size<=a/\s.heap.objs.size<=T/\E (.ref C) dx H'
section
variable{X:Cx}{zc:List (Addr×Obj)}{σ:Sg}{H H':Hp}{s s':Shared}
def Inv.settle{ch:List Addr}{h2:Heap}(I:Inv X zc σ H s)(I':Inv X zc σ H' s')(n:∀b∈ch,s.heap.objs.size<=b/\H' b=none)(k:KeepX ch (frs X.stack) s'.heap h2):Inv X zc σ H' {s' with heap:=h2}:=by
 have trk:∀b u,H' b=some u->b∉ch/\b∉frs X.stack:=λb u e=>⟨λz=>(by rw [(n b z).2] at e;cases e),λz=>(by rw [I'.stkFree b z] at e;cases e)⟩;refine I'.step (g':=s'.gens) (d':=s'.drawn) (t':=s'.toks) (ch:=ch) (λb hb=> ?_) (λb o h1 h2 h3 e _=>k.same b o h3 (λz=> ?_) e) (λb o _ _ h3 e _=>k.slot b o h3 e) (λ_ _ _ _ z=>z) (λb o h3 e=> ?_) (λ_ _ z=>z) (λ_ _ _ z=>z) (λb ps z=>⟨#[],by rw [z];simp⟩) (λm hm=> ?_) (λb u e=> ?_) I'.bare
 ·have lb:=(n b hb).1;refine⟨.inr (Nat.le_trans I.sz lb),λz=> ?_,λx c e z=> ?_,λp hp z=> ?_⟩
  ·exact absurd (Nat.lt_of_lt_of_le I.lt lb) (by rw [z];exact Nat.lt_irrefl _)
  ·obtain⟨v,hv⟩:=I.cell x c e;exact absurd (Nat.lt_of_lt_of_le hv.lt lb) (by rw [z];exact Nat.lt_irrefl _)
  ·exact absurd (Nat.lt_of_lt_of_le (Heap.lt_size (I.pin p hp).1) lb) (by rw [z];exact Nat.lt_irrefl _)
 ·rcases List.mem_cons.mp (I'.stkSub b z) with z|z
  ·exact h1 z
  ·exact h2 z
 ·obtain⟨sl,q⟩:=k.slot b o h3 e;exact⟨_,q⟩
 ·obtain⟨o,es,ep,ho,r⟩:=hm;have nl:X.env.locals∉ch:=λz=>absurd (Nat.lt_of_lt_of_le I.lt (n _ z).1) (Nat.lt_irrefl _);obtain⟨sl,q⟩:=k.slot _ o nl ho;exact⟨_,es,ep,q,r⟩
 ·refine(I'.hok b u e).stay (λc v hc q=> ?_) (λ_ z=>z) λ_ _ z=>z;rcases hc with rfl|hc
  ·exact k.same c v (trk c u e).1 (trk c u e).2 q
  ·exact k.same c v (trk c _ hc).1 (trk c _ hc).2 q
def Inv.raised{E:XK}{e:Value}(I:Inv X zc σ H s)(c:CXr X.prog X.w X.stack H s E e s'):∃a C dx T H',e=.ref a/\Inv X zc σ H' s'/\Tr s'.heap a C dx .none T/\H' a=none/\H' T=none/\s.heap.objs.size<=a/\s.heap.objs.size<=T/\E (.ref C) dx H':=by
 obtain⟨a,C,dx,T,H',e1,os,br,un,hok,tr,n1,n2,z1,z2,q⟩:=c;exact⟨a,C,dx,T,H',e1,I.call' (ch:=[]) os un hok br (λb z=>absurd z (by simp)),tr,n1,n2,z1,z2,q⟩
end
section
variable{cm:Bool}{P:Program}{w:World}{K:Frag}{mg:Str->Option Value}{base:Heap}{N:List Str}{qual:Str}{scope:Scope}{f:Addr}{cd:Value}{A:Around}{outer:List Env}{s0:Shared}{H0:Hp}{E E':XK}
def cx_0{zc:List (Addr×Obj)}{σ:Sg}{s s':Shared}{e:Value}(I:Inv ({Fy (CXr P w) P w K mg base N qual scope f cd A outer s0 H0 E with calm:=cm}:Cx) zc σ H s)
  (c:CXr P w ({Fy (CXr P w) P w K mg base N qual scope f cd A outer s0 H0 E with calm:=cm}:Cx).stack H s E' e s') (i:∀cls dx H',E' cls dx H'->E cls dx H'):({Fy (CXr P w) P w K mg base N qual scope f cd A outer s0 H0 E with calm:=cm}:Cx).xe e s':=by
 obtain⟨a,C,dx,T,H',rfl,I',tr,n1,n2,z1,z2,q⟩:=Inv.raised I c;show wpAny (model P w) _ (leaving _ _) _ _ s';unfold leaving;refine wpAny_bind (bo_0 I'.ok.frames I'.stack rfl tr λh1 T2 z3 k1 t1=> ?_);refine z_9 t1 λh2 k2 t2=> ?_;have zT2:H' T2=none:=I'.hok.fresh z3;have J:Inv ({Fy (CXr P w) P w K mg base N qual scope f cd A outer s0 H0 E with calm:=cm}:Cx) zc σ H' {s' with heap:=h2}:=by
  refine Inv.settle (ch:=[a,T] ++ [T2]) I I' (λb hb=> ?_) (k1.trans (KeepX.of_same k2));have:b=a\/b=T\/b=T2:=by simpa using hb
  rcases this with rfl|rfl|rfl
  ·exact⟨z1,n1⟩
  ·exact⟨z2,n2⟩
  ·exact⟨Nat.le_trans (Nat.le_trans (Nat.le_refl _) z1) (Nat.le_trans (Nat.le_of_lt (Heap.lt_size tr.ob.choose_spec.choose_spec.1)) z3),zT2⟩
 exact⟨a,C,dx,T2,H',rfl,J.os,J.bare,J.base,J.hok,t2,n1,zT2,Nat.le_trans I.sz z1,Nat.le_trans I'.sz z3,i _ _ _ q⟩
def bt_4{zc:List (Addr×Obj)}{σ:Sg}{H H':Hp}{s s':Shared}{a C:Addr}{dx:Option Addr}{o:Obj}{us:Array Value}(I:Inv ({Fy (CXr P w) P w K mg base N qual scope f cd A outer s0 H0 E with calm:=cm}:Cx) zc σ H s)
  (I':Inv ({Fy (CXr P w) P w K mg base N qual scope f cd A outer s0 H0 E with calm:=cm}:Cx) zc σ H' s') (he:s'.heap.get? a=some o) (hc:o.cls=.ref C) (hx:o.dict=dx) (hd:o.data=.fields us) (h1:us[1]? =some .none) (n1:H' a=none) (z1:s.heap.objs.size<=a) (q:E (.ref C) dx H'):
  ({Fy (CXr P w) P w K mg base N qual scope f cd A outer s0 H0 E with calm:=cm}:Cx).xe (.ref a) s':=by
 show wpAny (model P w) _ (leaving _ _) _ _ s';unfold leaving;refine wpAny_bind (ck_9 I'.ok.frames I'.stack rfl he hc hx hd h1 λh1 T2 z3 k1 t1=> ?_);refine z_9 t1 λh2 k2 t2=> ?_;have zT2:H' T2=none:=I'.hok.fresh z3;have J:Inv ({Fy (CXr P w) P w K mg base N qual scope f cd A outer s0 H0 E with calm:=cm}:Cx) zc σ H' {s' with heap:=h2}:=by
  refine Inv.settle (ch:=[a] ++ [T2]) I I' (λb hb=> ?_) (k1.trans (KeepX.of_same k2));have:b=a\/b=T2:=by simpa using hb
  rcases this with rfl|rfl
  ·exact⟨z1,n1⟩
  ·exact⟨Nat.le_trans z1 (Nat.le_trans (Nat.le_of_lt (Heap.lt_size he)) z3),zT2⟩
 exact⟨a,C,dx,T2,H',rfl,J.os,J.bare,J.base,J.hok,t2,n1,zT2,Nat.le_trans I.sz z1,Nat.le_trans I'.sz z3,q⟩
end
section
variable{prog:Program}{w:World}{A:Around}{E:Value->Shared->Prop}{h:Heap}{g:Array GenState}{d:Drawn}{t:Nat}{os:OsState}
variable{nm q:Str}{C N:Addr}{bs bm bmB:List Value}{ba:Bool}{sn:List Str}{sub:List Value}{ab:Bool}{col:Option Bool}{dd:Option Addr}{k0 k1 k2 k3 k5:Option Value}{B newId ah:String}
def cx_1(FB:ExcBaseFacts B newId ah bmB)(T:OwnTail h bmB bm){mN:Str->Option Value}{fI:Addr}{oI:Obj}{Q:PySem.Fin->Shared->Prop}
  (hC:h.get? C=some (excClassObj nm q C N bs bm ba sn sub ab col dd k0 k1 k2 k3 k5 newId)) (hn:h.Ns N mN) (hi:mN "__init__" =some (.ref fI)) (ho:h.get? fI=some oI) (hf:oI.cls=.type "function")
  (z:∀h' e,Heap.MadeExcOf h h' e (.ref C) us->h.objs.size<=e->wpAny (model prog w) A (call (.ref fI) (.ref e::us)) (λr s'=>r=.none/\Q (.done (.ret (.ref e))) s') E ⟨h',g,d,t,os⟩) (hu:us.length<=sizeLine):
  wpAny (model prog w) A (Builtin.«type.__call__» ⟨.ref C::us,[]⟩) Q E ⟨h,g,d,t,os⟩:=by
 wp_walk using wpAny_loadPart_at hC,wpAny_madeBy_exc hC
 refine codeAny_call_builtin_code (Code.quiet_builtin _ FB.quiet) (wpAny_check_new_subT FB T hC ?_);refine codeAny_exc_new_subT FB T hC ?_ hu;show wpAny _ _ _ _ _ _;generalize e1:({cls:=.type "tuple",data:=.seq us.toArray}:Obj)=o1;generalize e2:({cls:=.ref C,data:=.fields #[.ref h.objs.size,.none,.none,.none,.bool false,.none]}:Obj)=o2;have up:∀b o,h.get? b=some o->((h.push o1).push o2).get? b=some o:=λb o e=>Heap.get?_push_of_some _ (Heap.get?_push_of_some _ e);have ge:((h.push o1).push o2).get? (h.objs.size + 1)=some o2:=by
  have:=Heap.get?_push_size (h.push o1) (o:=o2) (by rw [<-e2];rfl)
  rwa [Heap.size_push] at this
 have gt:((h.push o1).push o2).get? h.objs.size=some o1:=Heap.get?_push_of_some _ (Heap.get?_push_size h (by rw [<-e1];rfl));have hC1:=up _ _ hC;have hn1:((h.push o1).push o2).Ns N mN:=hn.keeps up;have cl:o2.cls=.ref C:=by rw [<-e2]
 have hcC:List.contains (Value.ref C::bm) (.ref C)=true:=List.contains_iff_mem.mpr (.head _);unfold isInstance
 repeat (first|(with_reducible refine wpAny_loadPart_at ge ?_;rw [cl])|(with_reducible refine wpAny_isSubtype_exc hC1 ?_;rw [hcC])|wp_step)
 change wpAny _ _ (mroOf (.ref C) >>=λl=>lookupAlong l _) _ _ _;refine wpAny_bind (wpAny_mroOf_exc hC1 ?_);rw [lookupAlong_cons];refine wpAny_bind (wpAny_classOwn_exc hC1 hn1 ?_);rw [hi];refine wpAny_pure (wpAny_holding (wpAny_bind ?_));unfold bindSpecial;refine wpAny_bind (wpAny_typeOf (T:= "function") ⟨_,up _ _ ho,hf⟩ ?_);rw [if_pos (by decide)];refine wpAny_pure (wpAny_bind (wpAny_mono (z _ (h.objs.size + 1) ⟨up,Heap.get?_none_of_le (Nat.le_succ _),h.objs.size,by rw [e2];exact ge,Heap.get?_none_of_le (Nat.le_refl _),by rw [e1];exact gt⟩ (Nat.le_succ _)) (λr s' hr=> ?_) λ_ _ x=>x));obtain⟨rfl,hQ⟩:=hr
 wp_walk
 exact hQ
def de_9(FB:ExcBaseFacts B newId ah bmB)(T:OwnTail h bmB bm){mN:Str->Option Value}{fI:Addr}{oI:Obj}{Q:Value->Shared->Prop}
  (hC:h.get? C=some (excClassObj nm q C N bs bm ba sn sub ab col dd k0 k1 k2 k3 k5 newId)) (hn:h.Ns N mN) (hi:mN "__init__" =some (.ref fI)) (ho:h.get? fI=some oI) (hf:oI.cls=.type "function")
  (z:∀h' e,Heap.MadeExcOf h h' e (.ref C) us->h.objs.size<=e->wpAny (model prog w) (A.under (.builtin "type.__call__" ⟨.ref C::us,[]⟩)) (call (.ref fI) (.ref e::us)) (λr s'=>r=.none/\Q (.ref e) s') E ⟨h',g,d,t,os⟩) (hu:us.length<=sizeLine):
  wpAny (model prog w) A (call (.ref C) us) Q E ⟨h,g,d,t,os⟩:=by
 have f1:=tc_lookup;have f2:=tc_bind (.ref C);have Dj:Shared.TypeIs ⟨h,g,d,t,os⟩ (.ref C) "type" :=⟨_,hC,rfl⟩;refine wpAny_call (codeAny_of_tree (?_:wpAny _ _ (callAny (.ref C) _) _ _ _))
 wp_walk using wpAny_loadPart_at hC
 refine⟨rfl, ?_⟩;exact codeAny_call_builtin_at (Code.quiet_builtin _ (by decide +kernel)) entry_typeCall (wpAny_check_type_call_sub hC (cx_1 FB T hC hn hi ho hf (λh' e hm hz=>z h' e hm hz) hu))
def bo_1{M:Model}{env:Env}{s:Shared}{x:Sem Value}{Q:Flow->Shared->Prop}(hb:bm.contains (.type "BaseException")=true)(hh:A.handled=none)
  (z:wpAny M A x (λv s1=>∃e t dx,v=.ref e/\s1.heap.get? C=some (excClassObj nm q C N bs bm ba sn sub ab col dd k0 k1 k2 k3 k5 newId)/\
   s1.heap.get? e=some {cls:=.ref C,dict:=dx,data:=.fields #[.ref t,.none,.none,.none,.bool false,.none]}/\E (.ref e) s1) E s):wpAny M A (raiseStmt env (some x) none) Q E s:=by
 have hcB:(Value.ref C::bm).contains (.type "BaseException")=true:=by rw [List.contains_cons,hb,Bool.or_true]
 unfold raiseStmt;refine wpAny_bind (wpAny_mono z (λv s1 z1=> ?_) λ_ _ y=>y);obtain⟨e,t,dx,rfl,hC,he,hE⟩:=z1;obtain⟨hp,g,d,tk,os⟩:=s1
 repeat (first|with_reducible refine wpAny_loadPart_at he ?_|with_reducible refine wpAny_loadPart_at hC ?_|(with_reducible refine wpAny_isSubtype_exc hC ?_;rw [hcB])|wp_step)
 exact wpAny_raiseNew_none hh hE
end
section
variable{X:Cx}{EX:Bq}{a b c:Expr}{f g h:FE}{pos:Pos}
noncomputable def Ab(i:Nat):FE:=λ δ=>match δ[i]? with
 |some (some d)=> .ok (.sh d)
 |_=> .no
def eC(d:D):FE:=λ_=> .ok (.sh d)
def Ad(i:Nat){x:Str}(hN:X.N[i]? =some x:=by rfl)(hv:Hk X.env.scope x:=by first|exact Or.inl rfl|exact Or.inr (Or.inl rfl)|exact Or.inr (Or.inr rfl))(hd:(x ==("__debug__" :Str))=false:=by decide)
  (hcd:(x ==("__classdict__" :Str))=false:=by decide):ED X EX (.Name x pos) (Ab i):=
 PE.imp (Fu hN hv hd hcd) λ σ H Q ⟨G,δ,g,s,o⟩=>by
  unfold Ab at o
  split at o
  ·rename_i d e;obtain⟨v,e1,r⟩:=s.get i d e;exact⟨v,e1,WP.use o g r⟩
  ·exact o.elim
def ac_1{e:Expr}{d:D}(he:PE X e (tC v))(hd:∀G,Has X.K G v d):ED X EX e (eC d):=
 PE.imp he λ σ H Q ⟨G,δ,g,s,o⟩=>WP.use o g (hd G)
def As{i:Int}{j pos}:ED X EX (.Constant (.int i) j pos) (eC (.int i)):=ac_1 ea_3 λ_=> .int i
def Ga{b:Bool}{j pos}:ED X EX (.Constant (.bool b) j pos) (eC (.bl b)):=ac_1 ei_8 λ_=> .bl b
def ai_1{j pos}:ED X EX (.Constant .none j pos) (eC .non):=ac_1 dc_5 λ_=> .non
def Gq{x:Str}{j pos}:ED X EX (.Constant (.str x) j pos) (eC (.str x)):=ac_1 ea_4 λ_=> .str x
def ae_5{x:Str}{i:Int}{t:Tok}(hg:Gl X x)(hm:X.mg x=some (.int i t))(hd:(x ==("__debug__" :Str))=false:=by decide):ED X EX (.Name x pos) (eC (.int i)):=ac_1 (bs_6 (v:=.int i) hg hm ⟨t,rfl⟩ hd) λ_=> .int i
def cq_9{x:Str}{z:Str}{t:Tok}(hg:Gl X x)(hm:X.mg x=some (.str z t))(hd:(x ==("__debug__" :Str))=false:=by decide):ED X EX (.Name x pos) (eC (.str z)):=ac_1 (bs_6 (v:=.str z) hg hm ⟨t,rfl⟩ hd) λ_=> .str z
def rD(K:Frag)(r:D->D->R W):R2:=λx y H Q=>∃(EX:EXT) (G:Hp) (a b:D),Same G H/\Has K G x a/\Has K G y b/\Out K EX G H (r a b) Q
abbrev Fm(X:Cx)(f:Value->Value->Sem Value)(r:D->D->R W):Prop:=Ec X f (rD X.K r)
def Aj(r:D->D->R W)(f g:FE):FE:=λ δ=>(f δ).bind λa=>(g δ).bind λb=>r a.d b.d
def two{r:D->D->R W}{σ:Sg}{Q:VK}(q:tD K EX (Aj r f g) σ H Q):tOp (rD K r) (tD K EX f) (tD K EX g) σ H Q:=by
 obtain⟨G,δ,g0,s0,o⟩:=q;exact tD.seq g0 s0 o λw v G1 H1 _ st1 r1 o1=>tD.seq st1.gh (s0.mono st1.gg) o1 λw2 v2 G2 H2 _ st2 r2 o2=>⟨_,G2,w.d,w2.d,st2.gh,r1.mono st2.gg,r2,o2⟩
def Av{op:Operator}{r:D->D->R W}(ho:Fm X (binaryOp op) r)(ha:ED X EX a f)(hb:ED X EX b g):ED X EX (.BinOp a op b pos) (Aj r f g):=
 PE.imp (dy_5 ho ha hb) λ_ _ _ q=>two q
def ap_2{op:CmpOp}{r:D->D->R W}(ho:Fm X (compareOp op) r)(ha:ED X EX a f)(hb:ED X EX b g)(hm:behindInMarks op b=false):ED X EX (.Compare a [op] [b] pos) (Aj r f g):=
 PE.imp (dp_5 ho ha hb hm) λ_ _ _ q=>two q
def Dt:D->R Bool
 | .bl b=> .ok b
 |_=> .no
def An(f:FE):FT:=λ δ=>(f δ).bind λw=>Dt w.d
def dq_7{σ:Sg}{Q:Bool->Hp->Prop}(q:tDt K EX (An f) σ H Q):tD K EX f σ H λx H'=>∃k,x=.bl k/\Q k H':=by
 obtain⟨G,δ,g0,s0,o⟩:=q;refine⟨G,δ,g0,s0, ?_⟩;unfold An at o;cases e:f δ with
 |ok w=>
  rw [e] at o;simp only [R.bind_ok] at o;refine WP.intro λv G' H' st r=> ?_;revert r o;cases w.d with
  |bl k=>intro o r;cases r;exact⟨k,rfl,o G' H' st⟩
  |_=>intro o _;exact False.elim o
 |ex x=>rw [e] at o;exact o
 |no=>rw [e] at o;exact o
def Cm{op:CmpOp}{r:D->D->R W}(ho:Fm X (compareOp op) r)(ha:ED X EX a f)(hb:ED X EX b g)(hm:behindInMarks op b=false):TD X EX (.Compare a [op] [b] pos) (An (Aj r f g)):=
 PT.imp (dp_6 ho ha hb hm) λ σ H Q q=>two (dq_7 q)
def ap_3(r r':D->D->R W)(f g h:FE):FE:=λ δ=>(f δ).bind λa=>(g δ).bind λb=>(r a.d b.d).bind λz=>(Dt z.d).bind λk=>
 if k=true then(h δ).bind λc=>r' b.d c.d else .ok (.sh (.bl false))
def el_2{r r':D->D->R W}{σ:Sg}{Q:VK}(q:tD K EX (ap_3 r r' f g h) σ H Q):dd_3 (rD K r) (rD K r') (tD K EX f) (tD K EX g) (tD K EX h) σ H Q:=by
 obtain⟨G,δ,g0,s0,o⟩:=q;refine tD.seq g0 s0 o λw v G1 H1 _ st1 r1 o1=>tD.seq st1.gh (s0.mono st1.gg) o1 λw2 v2 G2 H2 _ st2 r2 o2=>⟨EX σ,G2,w.d,w2.d,st2.gh,r1.mono st2.gg,r2, ?_⟩;revert o2;cases r w.d w2.d with
 |ok z=>
  intro o2;refine WP.intro λv3 G3 H3 st3 r3=> ?_;have o2:Out K (EX σ) G2 H2 ((Dt z.d).bind λk=>if k=true then(h δ).bind λc=>r' w2.d c.d else .ok (.sh (.bl false))) Q:=o2;revert r3 o2;cases z.d with
  |bl k=>
   intro r3 o2;cases r3;refine⟨k,rfl, ?_⟩;cases k with
   |true=>
    rw [if_pos rfl];have o3:Out K (EX σ) G2 H2 ((h δ).bind λc=>r' w2.d c.d) Q:=o2;exact tD.seq st3.gh (s0.mono (st1.gg.trans (st2.gg.trans st3.gg))) (o3.mono st3) λw4 v4 G4 H4 _ st4 r4 o4=>⟨_,G4,w2.d,w4.d,st4.gh,r2.mono (st3.gg.trans st4.gg),r4,o4⟩
   |false=>
    rw [if_neg Bool.false_ne_true];have o3:WP K G2 H2 (.sh (.bl false)) Q:=o2;exact(o3.mono st3).use st3.gh (.bl false)
  |_=>intro _ o2;exact False.elim o2
 |ex x=>exact λo2=>o2
 |no=>exact λo2=>o2
def ca_5{op op':CmpOp}{r r':D->D->R W}(ho:Fm X (compareOp op) r)(ho':Fm X (compareOp op') r')(ha:ED X EX a f)(hb:ED X EX b g)(hc:ED X EX c h)
  (hm:lastMarks [op,op'] [b,c]=false:=by with_unfolding_all rfl):ED X EX (.Compare a [op,op'] [b,c] pos) (ap_3 r r' f g h):=
 PE.imp (dd_4 ho ho' ha hb hc hm) λ_ _ _ q=>el_2 q
abbrev TW(X:Cx)(EX:Bq)(e:Expr)(f:FT):Prop:=PW X e (tDt X.K EX f)
variable{p q:FT}{Ew:List Expr}
def Ez(p q:FT):FT:=λ δ=>(p δ).bind λb=>if b=true then q δ else .ok false
def Gj(p q:FT):FT:=λ δ=>(p δ).bind λb=>if b=true then .ok true else q δ
def Fa(p:FT):FT:=λ δ=>(p δ).bind λb=> .ok (!b)
def bc_3(ha:TD X EX a p):TW X EX (.BoolOp .And [a] pos) p:=dp_0 ha
def au_8(ha:TD X EX a p):TW X EX (.BoolOp .Or [a] pos) p:=ea_5 ha
def tDt.two{σ:Sg}{Q:Bool->Hp->Prop}{k:Bool->DE->R Bool}{P:Bool->Hp->Prop}(h:tDt K EX (λ δ=>(p δ).bind λb=>k b δ) σ H Q)
  (i:∀b H',tDt K EX (k b) σ H' Q->P b H'):tDt K EX p σ H P:=by
 obtain⟨G,δ,g0,s0,o⟩:=h;refine⟨G,δ,g0,s0, ?_⟩;cases e:p δ with
 |ok b=>
  simp only [e,R.bind_ok] at o;refine λG' H' st=>i b H' ⟨G',δ,st.gh,s0.mono st.gg, ?_⟩;cases e2:k b δ with
  |ok c=>rw [e2] at o;exact λG2 H2 st2=>o G2 H2 (st.trans st2)
  |ex x=>rw [e2] at o;exact(EX σ).mono _ _ _ _ _ st o
  |no=>rw [e2] at o;exact o
 |ex x=>simp only [e,R.bind_ex] at o;exact o
 |no=>simp only [e,R.bind_no] at o
def tDt.now{σ:Sg}{Q:Bool->Hp->Prop}{c:Bool}(h:tDt K EX (λ_=> .ok c) σ H Q):Q c H:=by
 obtain⟨G,δ,g0,s0,o⟩:=h;exact o G H (Step.refl g0)
def bt_5(ha:TD X EX a p)(hb:TW X EX (.BoolOp .And (b::Ew) pos) q):TW X EX (.BoolOp .And (a::b::Ew) pos) (Ez p q):=
 PW.imp (ea_6 ha hb) λ σ H Q h=>tDt.two (k:=λb δ=>if b=true then q δ else .ok false) h λb H' h'=>by
  cases b with
  |true=>rw [if_pos rfl];exact h'
  |false=>rw [if_neg Bool.false_ne_true];exact tDt.now h'
def bo_2(ha:TD X EX a p)(hb:TW X EX (.BoolOp .Or (b::Ew) pos) q):TW X EX (.BoolOp .Or (a::b::Ew) pos) (Gj p q):=
 PW.imp (ei_9 ha hb) λ σ H Q h=>tDt.two (k:=λb δ=>if b=true then .ok true else q δ) h λb H' h'=>by
  cases b with
  |true=>rw [if_pos rfl];exact tDt.now h'
  |false=>rw [if_neg Bool.false_ne_true];exact h'
def Gx{e:Expr}(h:TW X EX e p):TD X EX e p:=h.pt
def au_9(ha:TD X EX a p):TD X EX (.UnaryOp .Not a pos) (Fa p):=
 PT.imp (ea_7 ha) λ σ H Q h=>tDt.two (k:=λb _=> .ok (!b)) h λb H' h'=>tDt.now h'
def eAnd(f g:FE):FE:=λ δ=>(f δ).bind λa=>(Dt a.d).bind λk=>if k=true then g δ else .ok (.sh (.bl false))
def eOr(f g:FE):FE:=λ δ=>(f δ).bind λa=>(Dt a.d).bind λk=>if k=true then .ok (.sh (.bl true)) else g δ
def eNot(f:FE):FE:=λ δ=>(f δ).bind λa=>(Dt a.d).bind λk=> .ok (.sh (.bl (!k)))
def cl_0{op}(h:ED X EX a f):ED X EX (.BoolOp op [a] pos) f:=ea_8 h
def tD.boolThen{σ:Sg}{Q:VK}{k:Bool->DE->R W}{P:Bool->Hp->Prop}(h:tD K EX (λ δ=>(f δ).bind λa=>(Dt a.d).bind λc=>k c δ) σ H Q)
  (i:∀c H',tD K EX (k c) σ H' Q->P c H'):tD K EX f σ H λx H'=>∃c,x=.bl c/\P c H':=by
 obtain⟨G,δ,g0,s0,o⟩:=h;refine tD.seq g0 s0 o λw v G1 H1 _ st1 r1 o1=> ?_;revert r1 o1;cases w.d with
 |bl c=>intro r1 o1;cases r1;exact⟨c,rfl,i c H1 ⟨G1,δ,st1.gh,s0.mono st1.gg,o1⟩⟩
 |_=>intro _ o1;exact False.elim o1
def tD.now{σ:Sg}{Q:VK}{d:D}(h:tD K EX (λ_=> .ok (.sh d)) σ H Q)(r:∀G,Has K G v d):Q v H:=by
 obtain⟨G,δ,g0,s0,o⟩:=h;exact WP.use o g0 (r G)
def cl_1(ha:ED X EX a f)(hb:ED X EX (.BoolOp .And (b::Ew) pos) g):ED X EX (.BoolOp .And (a::b::Ew) pos) (eAnd f g):=
 PE.imp (ea_9 ha hb) λ σ H Q h=>tD.boolThen (k:=λk δ=>if k=true then g δ else .ok (.sh (.bl false))) h λc H' h'=>by
  cases c with
  |true=>rw [if_pos rfl];exact h'
  |false=>rw [if_neg Bool.false_ne_true];exact tD.now h' λ_=> .bl false
def ed_0(ha:ED X EX a f):ED X EX (.UnaryOp .Not a pos) (eNot f):=
 PE.imp (eb_0 ha) λ σ H Q h=>tD.boolThen (k:=λk _=> .ok (.sh (.bl (!k)))) h λc H' h'=>tD.now h' λ_=> .bl (!c)
def eIf(p:FT)(f g:FE):FE:=λ δ=>(p δ).bind λk=>if k=true then f δ else g δ
def cr_0(hc:TD X EX c p)(ha:ED X EX a f)(hb:ED X EX b g):ED X EX (.IfExp c a b pos) (eIf p f g):=
 PE.imp (dc_6 hc ha hb) λ σ H Q ⟨G,δ,g0,s0,o⟩=>tDt.seq g0 s0 o λk G' H' _ st o'=>by
  cases k with
  |true=>rw [if_pos rfl];exact⟨G',δ,st.gh,s0.mono st.gg,o'⟩
  |false=>rw [if_neg Bool.false_ne_true];exact⟨G',δ,st.gh,s0.mono st.gg,o'⟩
def Cg:D->R Bool
 | .non=> .ok false
 | .bl b=> .ok b
 | .int i=> .ok (i != 0)
 | .str x=>if x.length<=16777216 then .ok ((x.length:Int) != 0) else .no
 | .lst ds=> .ok (!ds.isEmpty)
 | .tup ds=> .ok (!ds.isEmpty)
 |_=> .no
def Be(f:FE):FT:=λ δ=>(f δ).bind λw=>Cg w.d
def ca_6{G:Hp}{ds:List D}(r:HasL K G vs ds):(!ds.isEmpty)= !vs.isEmpty:=by cases r <;> rfl
def ed_1{G H:Hp}{d:D}{k:Bool}(g:Same G H)(r:Has K G v d)(e:Cg d=.ok k):TruV K v H k:=by
 cases r with
 |non=>cases e;rfl
 |bl b=>cases e;rfl
 |int i=>cases e;rfl
 |str x=>
  have e:(if x.length<=16777216 then R.ok ((x.length:Int) != 0) else .no)=.ok k:=e
  split at e
  ·rename_i hz;cases e;exact⟨by rw [sizeLine_eq];exact hz,rfl⟩
  ·cases e
 |lst h r=>cases e;exact .inl ⟨_,g.seq h,ca_6 r⟩
 |tup h r=>cases e;exact .inr (.inl ⟨_,Same.tupS g h,ca_6 r⟩)
 |exn0 _ _=>cases e
 |exn1 _ _ _ _ _=>cases e
 |dic _ _ _=>cases e
 |obj _ _ _ _=>cases e
def i_0(ha:ED X EX a f)(he:∀whole,isTrue a X.env whole=(do let v<-whole;standAt a.pos;holding [v] (truthy v)):=by intro _;rfl):TD X EX a (Be f):=
 PT.imp (dd_5 ha he) λ σ H Q ⟨G,δ,g0,s0,o⟩=>by
  refine⟨G,δ,g0,s0, ?_⟩;unfold Be at o;cases e:f δ with
  |ok w=>
   rw [e] at o;simp only [R.bind_ok] at o;refine WP.intro λv G' H' st r=> ?_;cases e2:Cg w.d with
   |ok k=>rw [e2] at o;exact⟨k,ed_1 st.gh r e2,o G' H' st⟩
   |ex x=>rw [e2] at o;exfalso;revert e2;cases w.d <;> simp only [Cg] <;> intro e2 <;> first|cases e2|(split at e2 <;> cases e2)
   |no=>rw [e2] at o;exact o.elim
  |ex x=>rw [e] at o;exact o
  |no=>rw [e] at o;exact o
variable{e:Expr}{es:List Expr}{fa:FA}
def Ac:FA:=λ_=> .ok []
def Aa(f:FE)(fa:FA):FA:=λ δ=>(f δ).bind λw=>(fa δ).bind λds=> .ok (w.d::ds)
def Al:AD X EX [] Ac:=PA.imp y_5 λ σ H Q ⟨G,δ,g0,s0,o⟩=>o [] G H (Step.refl g0) .nil
def Ae(ha:ED X EX e f)(hr:AD X EX es fa)(hs:starEach (e::es) X.env=(false,eval e X.env)::starEach es X.env:=by rfl):AD X EX (e::es) (Aa f fa):=
 PA.imp (k_9 ha hr hs) λ σ H Q ⟨G,δ,g0,s0,o⟩=>by
  refine⟨G,δ,g0,s0, ?_⟩;unfold Aa at o;cases e1:f δ with
  |ok w=>
   rw [e1] at o;simp only [R.bind_ok] at o;refine WP.intro λv G' H' st r=>⟨G',δ,st.gh,s0.mono st.gg, ?_⟩;cases e2:fa δ with
   |ok ds=>rw [e2] at o;exact λvs G2 H2 st2 r2=>o (v::vs) G2 H2 (st.trans st2) (.cons (r.mono st2.gg) r2)
   |ex x=>rw [e2] at o;exact(EX σ).mono _ _ _ _ _ st o
   |no=>rw [e2] at o;exact o
  |ex x=>rw [e1] at o;exact o
  |no=>rw [e1] at o;exact o
def eTup(fa:FA):FE:=λ δ=>(fa δ).bind λds=>if ds.length<=16777216 then .ok (.sh (.tup ds)) else .no
def Ci(fa:FA):FE:=λ δ=>(fa δ).bind λds=>if ds.length<=16777216 then .ok (.ow (.lst ds)) else .no
def df_0{x1}(ha:AD X EX es fa):ED X EX (.Tuple es x1 pos) (eTup fa):=
 PE.imp (dd_8 ha) λ σ H Q ⟨G,δ,g0,s0,o⟩=>tDa.seq g0 s0 o λds vs G' H' _ st r o'=>by
  split at o'
  ·rename_i hz;refine⟨by rw [r.length,sizeLine_eq];exact hz,λp hp=>o' (.ref p) _ _ (Step.new st.gh hp _) (.tup (SqT.of Cw) (r.mono (n_5 (st.gh.free hp) _)))⟩
  ·exact o'.elim
def u_6(ha:AD X EX es fa):ED X EX (.List es pos) (Ci fa):=
 PE.imp (dd_9 ha) λ σ H Q ⟨G,δ,g0,s0,o⟩=>tDa.seq g0 s0 o λds vs G' H' _ st r o'=>by
  split at o'
  ·rename_i hz;refine⟨by rw [r.length,sizeLine_eq];exact hz,λp hp=>x_5 o' st.gh r p hp⟩
  ·exact o'.elim
def rDc(K:Frag)(fn:List D->R W):List V->Hp->VK->Prop:=λvs H Q=>∃(EX:EXT) (G:Hp) (ds:List D),Same G H/\HasL K G vs ds/\Out K EX G H (fn ds) Q
abbrev Ek(X:Cx)(v:Value)(fn:List D->R W):Prop:=Fg X v (rDc X.K fn)
def Ah(fn:List D->R W)(fa:FA):FE:=λ δ=>(fa δ).bind fn
def cr_1{fn:List D->R W}{σ:Sg}{Q:VK}(q:tD K EX (Ah fn fa) σ H Q):tCB (rDc K fn) (tDa K EX fa) σ H Q:=by
 obtain⟨G,δ,g0,s0,o⟩:=q;exact tDa.seq g0 s0 o λds vs G' H' _ st r o'=>⟨_,G',ds,st.gh,r,o'⟩
variable{x:Str}{pp:Pos}{id T:String}{fn:List D->R W}
def Cy(hc:Ek X (.builtin id) fn)(hg:Gl X x)(hm:X.mg x=none)(hv:bootBuiltins x=some (.builtin id))(ha:AD X EX (e::es) fa)(hn:x≠ "__name__" :=by decide)(hdb:(x ==("__debug__" :Str))=false:=by decide)
  (he:starEach (e::es) X.env=(false,eval e X.env)::starEach es X.env:=by rfl) (hpl:(backTo pos (starEach es X.env)).any (·.1)=false:=by rfl):ED X EX (.Call (.Name x pp) (e::es) [] pos) (Ah fn fa):=
 PE.imp (be_6 hc hg hm hv ha hn hdb he hpl) λ_ _ _ q=>cr_1 q
def u_7(hc:Ek X (.type T) fn)(hg:Gl X x)(hm:X.mg x=none)(hv:bootBuiltins x=some (.type T))(ha:AD X EX (e::es) fa)(hn:x≠ "__name__" :=by decide)(hdb:(x ==("__debug__" :Str))=false:=by decide)
  (he:starEach (e::es) X.env=(false,eval e X.env)::starEach es X.env:=by rfl) (hpl:(backTo pos (starEach es X.env)).any (·.1)=false:=by rfl):ED X EX (.Call (.Name x pp) (e::es) [] pos) (Ah fn fa):=
 PE.imp (cw_5 hc hg hm hv ha hn hdb he hpl) λ_ _ _ q=>cr_1 q
def Bn:D->D->R W
 | .lst ds,.int i=>match atI ds i with|some d=> .ok (.sh d)|none=> .no
 | .tup ds,.int i=>match atI ds i with|some d=> .ok (.sh d)|none=> .no
 | .str z,.int i=>if z.length<=16777216 then(match atI z.cps.toList i with|some c=> .ok (.sh (.str ⟨#[c]⟩))|none=> .no) else .no
 |_,_=> .no
theorem HasL.atI{G:Hp}{ds:List D}{i:Int}{d:D}(r:HasL K G vs ds)(h:L2.atI ds i=some d):∃v,L2.atI vs i=some v/\Has K G v d:=by
 unfold L2.atI at h⊢;rw [r.length];cases e:ixN ds.length i with
 |none=>rw [e] at h;cases h
 |some j=>rw [e] at h;exact r.get h
def ix_d:IxR X (rD X.K Bn):=by
 intro value slice zc s σ H x y v u Q I rx ry h hs;obtain⟨EX,G,a,b,g,ra,rb,o⟩:=h;cases rb with
 |int i=>
  cases ra with
  |lst h r=>
   simp only [Bn] at o
   split at o
   ·rename_i d e;obtain⟨v,e1,r1⟩:=HasL.atI r e;exact dq_3 value slice zc s σ H _ _ _ _ Q I rx ry ⟨_,_,i,v,rfl,rfl,g.seq h,e1,WP.use o g r1⟩ hs
   ·exact o.elim
  |tup h r=>
   simp only [Bn] at o
   split at o
   ·rename_i d e;obtain⟨v,e1,r1⟩:=HasL.atI r e;exact ec_4 value slice zc s σ H _ _ _ _ Q I rx ry ⟨_,_,i,v,rfl,rfl,Same.tupS g h,e1,WP.use o g r1⟩ hs
   ·exact o.elim
  |str z=>
   simp only [Bn] at o
   split at o
   ·rename_i hz
    split at o
    ·rename_i c e;exact ec_5 value slice zc s σ H _ _ _ _ Q I rx ry ⟨z,i,c,rfl,rfl,by rw [sizeLine_eq];exact hz,e,WP.use o g (.str _)⟩ hs
    ·exact o.elim
   ·exact o.elim
  |_=>exact False.elim o
 |_=>cases ra <;> exact False.elim o
def De(ha:ED X EX a f)(hb:ED X EX b g)(hs:cq_5 b:=by intro _ _;rfl):ED X EX (.Subscript a b pos) (Aj Bn f g):=
 PE.imp (el_0 ix_d ha hb hs) λ_ _ _ q=>two q
end
end L3
namespace L2
open PySem PySem.Spec PyProof.Rows
section
variable{κ:Type} [DecidableEq κ]
def Ft(kvs:List (κ×V))(k:κ):Option V:=(kvs.find? λkv=>decide (kv.1=k)).map (·.2)
def Dm(kvs:List (κ×V))(k:κ)(v:V):List (κ×V):=
 if(kvs.any λkv=>decide (kv.1=k))=true then kvs.map (λkv=>if kv.1=k then(kv.1,v) else kv) else kvs ++ [(k,v)]
def Hf(kvs:List (κ×V))(k:κ):List (κ×V):=kvs.filter λkv=>decide (kv.1≠k)
def ai_2{p:κ×V}{r:List (κ×V)}{k:κ}(e:p.1=k):Ft (p::r) k=some p.2:=by simp [Ft,List.find?_cons,e]
def ai_3{p:κ×V}{r:List (κ×V)}{k:κ}(e:¬p.1=k):Ft (p::r) k=Ft r k:=by simp [Ft,List.find?_cons,e]
theorem be_7(k:κ):∀kvs:List (κ×V),(kvs.any λkv=>decide (kv.1=k))=(Ft kvs k).isSome
 | []=>rfl
 |p::r=>by
  rw [List.any_cons]
  by_cases e:p.1=k
  ·simp only [ai_2 e,decide_eq_true e,Bool.true_or,Option.isSome_some]
  ·rw [ai_3 e,decide_eq_false e,Bool.false_or];exact be_7 k r
def ay_3(kvs:List (κ×V))(k:κ)(v:V):(Dm kvs k v).length<=kvs.length + 1:=by
 unfold Dm
 split
 ·rw [List.length_map];omega
 ·rw [List.length_append,List.length_cons,List.length_nil];omega
def RelO.isSome_eq{o:Option V}{u:Option Value}(r:RelO o u):o.isSome=u.isSome:=by
 cases o with
 |none=>cases u with
  |none=>rfl
  |some _=>exact(show False from r).elim
 |some _=>cases u with
  |none=>exact(show False from r).elim
  |some _=>rfl
theorem RelO.getD{o:Option V}{u:Option Value}{d:V}{d':Value}(r:RelO o u)(rd:RelV d d'):RelV (o.getD d) (u.getD d'):=by
 cases o with
 |none=>cases u with
  |none=>exact rd
  |some _=>exact(show False from r).elim
 |some _=>cases u with
  |none=>exact(show False from r).elim
  |some _=>exact r
def KV.val{kvs:List (κ×V)}{vs:List (κ×Value)}(r:KV kvs vs)(k:κ):RelO (Ft kvs k) (valueAt vs k):=by
 unfold KV at r
 induction r with
 |nil=>exact True.intro
 | @cons p q ps qs h t ih=>
  obtain⟨h1,h2⟩:=h
  by_cases e:p.1=k
  ·have e':q.1=k:=h1.symm.trans e;have b:valueAt (q::qs) k=some q.2:=by simp [valueAt,List.find?_cons,e']
   rw [ai_2 e,b];exact h2
  ·have e':¬q.1=k:=λz=>e (h1.trans z);have b:valueAt (q::qs) k=valueAt qs k:=by simp [valueAt,List.find?_cons,e']
   rw [ai_3 e,b];exact ih
theorem KV.any{kvs:List (κ×V)}{vs:List (κ×Value)}(r:KV kvs vs)(k:κ):(kvs.any λkv=>decide (kv.1=k))=vs.any λkv=>decide (kv.1=k):=by
 unfold KV at r
 induction r with
 |nil=>rfl
 |cons h t ih=>rw [List.any_cons,List.any_cons,ih,h.1]
def KV.repl{kvs:List (κ×V)}{vs:List (κ×Value)}(r:KV kvs vs)(k:κ){y:V}{u:Value}(ry:RelV y u):
  KV (kvs.map λkv=>if kv.1=k then(kv.1,y) else kv) (vs.map λkv=>if kv.1=k then(kv.1,u) else kv):=by
 unfold KV at r⊢
 induction r with
 |nil=>exact .nil
 | @cons p q ps qs h t ih=>
  rw [List.map_cons,List.map_cons];refine .cons ?_ ih;obtain⟨h1,h2⟩:=h
  by_cases e:p.1=k
  ·rw [if_pos e,if_pos (h1.symm.trans e)];exact⟨h1,ry⟩
  ·rw [if_neg e,if_neg (λz=>e (h1.trans z))];exact⟨h1,h2⟩
def KV.put{kvs:List (κ×V)}{vs:List (κ×Value)}(r:KV kvs vs)(k:κ){y:V}{u:Value}(ry:RelV y u):KV (Dm kvs k y) (stored vs k u):=by
 unfold Dm stored;rw [r.any k]
 by_cases e:(vs.any λkv=>decide (kv.1=k))=true
 ·rw [if_pos e,if_pos e];exact r.repl k ry
 ·rw [if_neg e,if_neg e];exact Paired.snoc r ⟨rfl,ry⟩
def KV.drop{kvs:List (κ×V)}{vs:List (κ×Value)}(r:KV kvs vs)(k:κ):KV (Hf kvs k) (without vs k):=by
 unfold KV at r⊢;unfold Hf without
 induction r with
 |nil=>exact .nil
 | @cons p q ps qs h t ih=>
  obtain⟨h1,h2⟩:=h;rw [List.filter_cons,List.filter_cons]
  by_cases e:p.1=k
  ·have a:¬decide (p.1≠k)=true:=by simp [e]
   have b:¬decide (q.1≠k)=true:=by simp [h1.symm.trans e]
   rw [if_neg a,if_neg b];exact ih
  ·have e':¬q.1=k:=λz=>e (h1.trans z);have a:decide (p.1≠k)=true:=by simp [e]
   have b:decide (q.1≠k)=true:=by simp [e']
   rw [if_pos a,if_pos b];exact .cons ⟨h1,h2⟩ ih
def KV.keys{kvs:List (κ×V)}{vs:List (κ×Value)}(r:KV kvs vs):kvs.map (·.1)=vs.map (·.1):=by
 unfold KV at r
 induction r with
 |nil=>rfl
 |cons h t ih=>rw [List.map_cons,List.map_cons,ih,h.1]
theorem KV.length{kvs:List (κ×V)}{vs:List (κ×Value)}(r:KV kvs vs):kvs.length=vs.length:=Paired.length r
def df_1(kvs:List (κ×V))(k:κ):(Hf kvs k).length<=kvs.length:=List.length_filter_le _ _
end
def be_8{w:World}{k:Au}{u:Value}(r:RelV (kV k) u):(j_0 P w).is k u=true:=by
 cases k with
 |inl i=>obtain⟨t,e⟩:=(show∃t,u=Value.int i t from r);subst e;exact bz_8 P w i t
 |inr x=>obtain⟨t,e⟩:=(show∃t,u=Value.str x t from r);subst e;exact bz_9 P w x t
theorem bo_3{w:World}:∀{ks:List Au} {us:List Value},Vals (ks.map kV) us->ItemsAre (j_0 P w) ks us
 | [],_,r=>by rw [List.map_nil] at r;cases r;exact .nil
 |k::ks,_,r=>by
  rw [List.map_cons] at r;cases r with
  |cons h t=>exact .cons (be_8 h) (bo_3 t)
abbrev KT(H:Hp):List (List Au×V)->List (List Au×Addr×Value)->Prop:=Paired λp q=>p.1=q.1/\H q.2.1=some (.tup (p.1.map kV))/\RelV p.2 q.2.2
def KT.val{kvs:List (List Au×V)}{xs:List (List Au×Addr×Value)}(r:KT H kvs xs)(k:List Au):RelO (Ft kvs k) ((atKey xs k).map (·.2)):=by
 induction r with
 |nil=>exact True.intro
 | @cons p q ps qs h t ih=>
  obtain⟨h1,_,h2⟩:=h
  by_cases e:p.1=k
  ·have e':q.1=k:=h1.symm.trans e;have b:atKey (q::qs) k=some q.2:=by simp [atKey,List.find?_cons,e']
   rw [ai_2 e,b];exact h2
  ·have e':¬q.1=k:=λz=>e (h1.trans z);have b:atKey (q::qs) k=atKey qs k:=by simp [atKey,List.find?_cons,e']
   rw [ai_3 e,b];exact ih
def KT.repl{kvs:List (List Au×V)}{xs:List (List Au×Addr×Value)}(r:KT H kvs xs)(k:List Au){y:V}{u:Value}(ry:RelV y u):
  KT H (kvs.map λkv=>if kv.1=k then(kv.1,y) else kv) (xs.map (putAt k u)):=by
 induction r with
 |nil=>exact .nil
 | @cons p q ps qs h t ih=>
  rw [List.map_cons,List.map_cons];refine .cons ?_ ih;obtain⟨h1,h2,h3⟩:=h;unfold putAt
  by_cases e:p.1=k
  ·rw [if_pos e,if_pos (h1.symm.trans e)];exact⟨h1,h2,ry⟩
  ·rw [if_neg e,if_neg (λz=>e (h1.trans z))];exact⟨h1,h2,h3⟩
def KT.put{kvs:List (List Au×V)}{xs:List (List Au×Addr×Value)}(r:KT H kvs xs)(k:List Au){b:Addr}{y:V}{u:Value}(hb:H b=some (.tup (k.map kV)))(ry:RelV y u):
  KT H (Dm kvs k y) (storedH xs k b u):=by
 have e:(kvs.any λkv=>decide (kv.1=k))=(atKey xs k).isSome:=by
  rw [be_7,(r.val k).isSome_eq,Option.isSome_map]
 unfold Dm storedH;rw [e]
 by_cases q:(atKey xs k).isSome=true
 ·rw [if_pos q,if_pos q];exact r.repl k ry
 ·rw [if_neg q,if_neg q];exact Paired.snoc r ⟨rfl,hb,ry⟩
def KT.keeps{H H':Hp}{kvs:List (List Au×V)}{xs:List (List Au×Addr×Value)}(r:KT H kvs xs)(ht:∀b ys,H b=some (.tup ys)->H' b=some (.tup ys)):KT H' kvs xs:=
 Paired.mapP r λ_ _ z=>⟨z.1,ht _ _ z.2.1,z.2.2⟩
section
variable{P:Program}{w:World}{H:Hp}{h:Heap}{a:Addr}
def dy_7{u:HO}(ok:HOk P w H h)(e:Rd H a u):ObjOk P w H h a u:=e.ok ok
def ar_3{kvs:List (Au×V)}(ok:HOk P w H h)(e:Rd H a (.dK kvs)):kvs.length<=sizeLine/\(a ==sysModules)=false/\∃vs,KV kvs vs/\h.DictOf (j_0 P w) a vs:=
 show ObjOk P w H h a (.dK kvs) from dy_7 ok e
def df_2{kvs:List (Au×V)}(ok:HOk P w H h)(e:H a=some (.dK kvs)):kvs.length<=sizeLine/\(a ==sysModules)=false/\∃vs,KV kvs vs/\h.DictOf (j_0 P w) a vs:=ar_3 ok (.inl e)
def be_9{ks:List Au}(ok:HOk P w H h)(e:H a=some (.tup (ks.map kV))):(tupleKind (j_0 P w)).is h ks a:=by
 obtain⟨_,its,r,o,h1,h2,n,h3⟩:=(show ObjOk P w H h a (.tup (ks.map kV)) from ok a _ e);exact⟨o,its.toArray,n,h1,h2,h3,by simpa using bo_3 r⟩
def bo_4{kvs:List (List Au×V)}(ok:HOk P w H h)(e:Rd H a (.dT kvs)):kvs.length<=sizeLine/\(a ==sysModules)=false/\
  ∃xs,KT H kvs xs/\h.DictOfH (tupleKind (j_0 P w)) a xs:=by
 obtain⟨z,y,xs,r,o,es,ep,h1,h2,h3,h4,h5⟩:=(show ObjOk P w H h a (.dT kvs) from dy_7 ok e);refine⟨z,y,xs,r,o,es,ep,h1,h2,h3,h4,λx hx=> ?_,h5⟩;have all:∀{l:List (List Au×V)} {m:List (List Au×Addr×Value)},KT H l m->∀x∈m,(tupleKind (j_0 P w)).is h x.1 x.2.1:=by
  intro l m q
  induction q with
  |nil=>intro x hx;exact nomatch hx
  | @cons p q ps qs hq t ih=>
   intro x hx;rcases List.mem_cons.mp hx with e|hx
   ·subst e;exact be_9 ok (by rw [<-hq.1];exact hq.2.1)
   ·exact ih x hx
 exact all r x hx
def el_3{kvs:List (List Au×V)}(ok:HOk P w H h)(e:H a=some (.dT kvs)):kvs.length<=sizeLine/\(a ==sysModules)=false/\
  ∃xs,KT H kvs xs/\h.DictOfH (tupleKind (j_0 P w)) a xs:=bo_4 ok (.inl e)
end
def DGet(H:Hp)(a:Addr)(y:V)(r:Option V):Prop:=
 (∃kvs k,Rd H a (.dK kvs)/\y=kV k/\r=Ft kvs k)\/∃kvs k b,Rd H a (.dT kvs)/\y=.ref b/\H b=some (.tup (k.map kV))/\r=Ft kvs k
def DPut(H:Hp)(a:Addr)(y v:V)(H':Hp):Prop:=
 (∃kvs k,H a=some (.dK kvs)/\y=kV k/\kvs.length < sizeLine/\H'=upd H a (.dK (Dm kvs k v)))\/
 ∃kvs k b,H a=some (.dT kvs)/\y=.ref b/\H b=some (.tup (k.map kV))/\kvs.length < sizeLine/\H'=upd H a (.dT (Dm kvs k v))
def DGet.t{a b:Addr}{kvs:List (List Au×V)}{k:List Au}(e:H a=some (.dT kvs))(eb:H b=some (.tup (k.map kV))):DGet H a (.ref b) (Ft kvs k):=.inr ⟨kvs,k,b,.inl e,rfl,eb,rfl⟩
theorem DPut.k{a:Addr}{kvs:List (Au×V)}{k:Au}(e:H a=some (.dK kvs))(hl:kvs.length < sizeLine):DPut H a (kV k) v (upd H a (.dK (Dm kvs k v))):=.inl ⟨kvs,k,e,rfl,hl,rfl⟩
def DPut.t{a b:Addr}{kvs:List (List Au×V)}{k:List Au}(e:H a=some (.dT kvs))(eb:H b=some (.tup (k.map kV)))(hl:kvs.length < sizeLine):
  DPut H a (.ref b) v (upd H a (.dT (Dm kvs k v))):=.inr ⟨kvs,k,b,e,rfl,eb,hl,rfl⟩
section
variable{X:Cx}{zc:List (Addr×Obj)}{σ:St}{H:Hp}{s:Shared}{a:Addr}{y v:V}{u r:Value}{o:Option V}{A:Around}{E:Value->Shared->Prop}
def Inv.big(I:Inv X zc σ H s):sysModules < s.heap.objs.size:=by
 have h:mainGlobals < s.heap.objs.size:=(I.mod.glob.keeps I.bk).lt;exact Nat.lt_trans (by decide) h
def cx_2{Q:Value->Shared->Prop}(hu:A.units + 1 < cLine)(I:Inv X zc σ H s)(g:DGet H a y (some v))(ry:RelV y u)(h:∀w' s',Inv X zc σ H s'->RelV v w'->Q w' s'):
  wpAny (model X.prog X.w) A (getItem (.ref a) u) Q E s:=by
 rcases g with⟨kvs,k,e,ey,l⟩|⟨kvs,k,b,e,ey,eb,l⟩
 ·subst ey;obtain⟨z,hd,vs,rel,dd⟩:=ar_3 I.hok e;obtain⟨w',hw,rw'⟩:=RelO.some_of (v:=v) (o:=valueAt vs k) (by rw [l];exact rel.val k);exact wpAny_getItem_of (be_8 ry) dd.mapOf hw (h w' _ (I.tok _) rw')
 ·subst ey;cases(show u=Value.ref b from ry);obtain⟨z,hd,xs,rel,dd⟩:=bo_4 I.hok e;obtain⟨w',hw,rw'⟩:=RelO.some_of (v:=v) (o:=(atKey xs k).map (·.2)) (by rw [l];exact rel.val k);obtain⟨p,hp,hp2⟩:=Option.map_eq_some_iff.mp hw;refine wpAny_getItem_heap (tupleKind_room_in1 hu) (be_9 I.hok eb) dd hp ?_;rw [hp2];exact h w' _ (I.tok _) rw'
def d_in{Q:Value->Shared->Prop}(hu:A.units + 1 < cLine)(I:Inv X zc σ H s)(g:DGet H a y o)(ry:RelV y u)(h:∀s',Inv X zc σ H s'->Q (.bool o.isSome) s'):
  wpAny (model X.prog X.w) A (compareOp .In u (.ref a)) Q E s:=by
 rcases g with⟨kvs,k,e,ey,l⟩|⟨kvs,k,b,e,ey,eb,l⟩
 ·subst ey;obtain⟨z,hd,vs,rel,dd⟩:=ar_3 I.hok e;refine wpAny_in_of (be_8 ry) hd dd.mapOf ?_;rw [<-(rel.val k).isSome_eq,<-l];exact h _ (I.tok _)
 ·subst ey;cases(show u=Value.ref b from ry);obtain⟨z,hd,xs,rel,dd⟩:=bo_4 I.hok e;refine wpAny_in_heap (tupleKind_room_in1 hu) (be_9 I.hok eb) hd dd ?_;have q:=(rel.val k).isSome_eq;rw [Option.isSome_map] at q;rw [<-q,<-l];exact h _ (I.tok _)
def dq_8{Q:Value->Shared->Prop}(hu:A.units + 1 < cLine)(I:Inv X zc σ H s)(g:DGet H a y o)(ry:RelV y u)(h:∀s',Inv X zc σ H s'->Q (.bool (!o.isSome)) s'):
  wpAny (model X.prog X.w) A (compareOp .NotIn u (.ref a)) Q E s:=by
 rcases g with⟨kvs,k,e,ey,l⟩|⟨kvs,k,b,e,ey,eb,l⟩
 ·subst ey;obtain⟨z,hd,vs,rel,dd⟩:=ar_3 I.hok e;refine wpAny_notIn_of (be_8 ry) hd dd.mapOf ?_;rw [<-(rel.val k).isSome_eq,<-l];exact h _ (I.tok _)
 ·subst ey;cases(show u=Value.ref b from ry);obtain⟨z,hd,xs,rel,dd⟩:=bo_4 I.hok e;refine wpAny_notIn_heap (tupleKind_room_in1 hu) (be_9 I.hok eb) hd dd ?_;have q:=(rel.val k).isSome_eq;rw [Option.isSome_map] at q;rw [<-q,<-l];exact h _ (I.tok _)
def bt_6{h':Heap}{t':Nat}{ob:HO}(I:Inv X zc σ H s)(mu:Mut (H a))(hs:Heap.SameBut a s.heap h')(he:∃q,h'.get? a=some q)(new:ObjOk X.prog X.w (upd H a ob) h' a ob):
  Inv X zc σ (upd H a ob) {s with heap:=h',toks:=t'}:=
 I.write (x:=a) (e:=a) mu (.inl rfl) (λb q hb z=>(hs.2 b hb).trans z) he new
def df_3{w:World}{H':Hp}{h':Heap}{kvs:List (Au×V)}{vs:List (Au×Value)}(z:kvs.length<=sizeLine)(hd:(a ==sysModules)=false)(rel:KV kvs vs)(dd:h'.DictOf (j_0 P w) a vs):
  ObjOk P w H' h' a (.dK kvs):=⟨z,hd,vs,rel,dd⟩
def cx_3{H':Hp}{Q:Unit->Shared->Prop}(hu:A.units + 1 < cLine)(I:Inv X zc σ H s)(g:DPut H a y v H')(ry:RelV y u)(rv:RelV v r)(h:∀s',Inv X zc σ H' s'->Q () s'):
  wpAny (model X.prog X.w) A (setItem (.ref a) u r) Q E s:=by
 rcases g with⟨kvs,k,e,ey,l,eH⟩|⟨kvs,k,b,e,ey,eb,l,eH⟩
 ·subst ey eH;obtain⟨z,hd,vs,rel,dd⟩:=df_2 I.hok e;have hz:vs.length<=sizeLine:=by rw [<-rel.length];exact z
  have hl:(Dm kvs k v).length<=sizeLine:=by have:=ay_3 kvs k v;omega
  refine wpAny_setItem_pairs (hsz:=hz) (be_8 ry) dd λh' dd' hs=>h _ ?_;have he:∃q,h'.get? a=some q:=let⟨q,_,_,hq,_⟩:=dd';⟨q,hq⟩;exact bt_6 I (by rw [e];exact True.intro) hs he (df_3 hl hd (rel.put k rv) dd')
 ·subst ey eH;cases(show u=Value.ref b from ry);obtain⟨z,hd,xs,rel,dd⟩:=el_3 I.hok e;have hz:xs.length<=sizeLine:=by rw [<-Paired.length rel];exact z
  have hl:(Dm kvs k v).length<=sizeLine:=by have:=ay_3 kvs k v;omega
  refine wpAny_setItem_heap (hsz:=hz) (tupleKind_room_in1 hu) (be_9 I.hok eb) dd λh' dd' hs=>h _ ?_;obtain⟨q,es,ep,hq,h2,h3,h4,_,h5⟩:=dd';refine bt_6 I (by rw [e];exact True.intro) hs ⟨q,hq⟩ ⟨hl,hd,_,(rel.put k eb rv).keeps λc ys ec=> ?_,q,es,ep,hq,h2,h3,h4,h5⟩;rw [Bm (ei_7 ec e (λz=>nomatch z))];exact ec
end
section
variable{X:Cx}{zc:List (Addr×Obj)}{σ:St}{H:Hp}{s:Shared}{a:Addr}{kvs:List (Au×V)}{k:Au}{u:Value}{A:Around}{E:Value->Shared->Prop}
def el_4{more:List Value}{Q:Value->Shared->Prop}(I:Inv X zc σ H s)(e:H a=some (.dK kvs))(ry:RelV (kV k) u)(l:Ft kvs k=some v)(hm:more= []\/∃x,more= [x])
  (h:∀w' s',Inv X zc σ (upd H a (.dK (Hf kvs k))) s'->RelV v w'->Q w' s'):wpAny (model X.prog X.w) A (call (.builtin "dict.pop") (.ref a::u::more)) Q E s:=by
 obtain⟨z,hd,vs,rel,dd⟩:=df_2 I.hok e;obtain⟨w',hw,rw'⟩:=RelO.some_of (v:=v) (o:=valueAt vs k) (by rw [<-l];exact rel.val k);have hp:(keyPart u).isSome=true:=by
  cases k with
  |inl i=>obtain⟨t,q⟩:=(show∃t,u=Value.int i t from ry);subst q;rfl
  |inr x=>obtain⟨t,q⟩:=(show∃t,u=Value.str x t from ry);subst q;rfl
 have ha:argsOk "dict.pop" ⟨.ref a::u::more,[]⟩:=by
  rcases hm with q|⟨x,q⟩
  ·subst q;exact PySem.F.args_dict_pop_2 _ _
  ·subst q;exact PySem.F.args_dict_pop_3 _ _ _
 refine call_meetsIn PySem.F.slot_dict_pop dd.typeIs PySem.F.entry_dict_pop ha (meets_dict_pop_there (j_0 X.prog X.w) a (be_8 ry) more hm hp)
  ⟨vs,w',dd,by rw [<-rel.length];exact z,hw,λh' dd' hs=>h w' _ ?_ rw'⟩
 have he:∃q,h'.get? a=some q:=let⟨q,_,_,hq,_⟩:=dd';⟨q,hq⟩;exact bt_6 I (by rw [e];exact True.intro) hs he (df_3 (Nat.le_trans (df_1 kvs k) z) hd (rel.drop k) dd')
def ed_2{r:Value}{Q:Value->Shared->Prop}(I:Inv X zc σ H s)(e:H a=some (.dK kvs))(ry:RelV (kV k) u)(l:Ft kvs k=none)(h:∀s',Inv X zc σ H s'->Q r s'):
  wpAny (model X.prog X.w) A (call (.builtin "dict.pop") [.ref a,u,r]) Q E s:=by
 obtain⟨z,hd,vs,rel,dd⟩:=df_2 I.hok e;have hn:valueAt vs k=none:=RelO.none_of (by rw [<-l];exact rel.val k);have hp:(keyPart u).isSome=true:=by
  cases k with
  |inl i=>obtain⟨t,q⟩:=(show∃t,u=Value.int i t from ry);subst q;rfl
  |inr x=>obtain⟨t,q⟩:=(show∃t,u=Value.str x t from ry);subst q;rfl
 exact call_meetsIn PySem.F.slot_dict_pop dd.typeIs PySem.F.entry_dict_pop (PySem.F.args_dict_pop_3 _ _ _) (meets_dict_pop_default (j_0 X.prog X.w) a (be_8 ry) hd hp r) ⟨vs,dd,hn,h _ (I.tok _)⟩
def el_5{Q:Value->Shared->Prop}(I:Inv X zc σ H s)(e:Rd H a (.dK kvs))(h:∀t s',Inv X zc σ H s'->Q (.int kvs.length t) s'):wpAny (model X.prog X.w) A (call (.builtin "len") [.ref a]) Q E s:=by
 obtain⟨z,hd,vs,rel,dd⟩:=ar_3 I.hok e;refine call_len_dict hd dd (by rw [<-rel.length];rw [sizeLine_eq] at z;omega) ?_;rw [<-rel.length];exact h _ _ (I.tok _)
end
def NoSl(i:Expr):Prop:=∀ov iv,subscripted i false ov iv=operate [ov,iv] (getItem ov iv)
def dq_9{prog:Program}{w:World}{A:Around}{E:Value->Shared->Prop}{s:Shared}{env:Env}{value slice:Expr}{T id:String}{Q:Value->Shared->Prop}
  (hl:typeLookup (.type T) "__getitem__" =pure (some (.builtin id))) (hs:NoSl slice)
  (h:wpAny (model prog w) A (eval value env) (λo s₁=>wpAny (model prog w) A (eval slice env) (λi s₂=>s₂.TypeIs o T/\wpAny (model prog w) A (getItem o i) Q E s₂) E s₁) E s):
  wpAny (model prog w) A (eval (.Subscript value slice pos) env) Q E s:=by
 refine Subscript_ (wpAny_mono h (λo s₁ h₁=>wpAny_mono h₁ (λi s₂ h₂=> ?_) λ_ _ x=>x) λ_ _ x=>x);obtain⟨hT,h₂⟩:=h₂;unfold subscriptTail;refine wpAny_bind ?_;rw [getitemInPython_of_ne hT.not_modules];refine wpAny_bind (wpAny_specialOf hT hl ?_);have fin:wpAny (model prog w) A (subscripted slice false o i) (λr s₃=>wpAny (model prog w) A (letTemporaryGo value o r >>=λ_=>pure r) Q E s₃) E s₂:=by
  rw [hs o i];exact wpAny_operating (wpAny_mono h₂ (λr s₃ h₃=>wpAny_bind (wpAny_letTemporaryGo (wpAny_pure h₃))) λ_ _ x=>x)
 first
  |exact wpAny_pure (wpAny_bind fin)
  |exact wpAny_bind (wpAny_pure (wpAny_bind fin))
  |exact wpAny_bind fin
def ca_7{zc:List (Addr×Obj)}{σ:St}{s:Shared}{a:Addr}{y:V}{o:Option V}(I:Inv X zc σ H s)(g:DGet H a y o):s.TypeIs (.ref a) "dict" :=by
 rcases g with⟨kvs,k,e,_,_⟩|⟨kvs,k,b,e,_,_,_⟩
 ·obtain⟨_,_,vs,_,dd⟩:=ar_3 I.hok e;exact dd.typeIs
 ·obtain⟨_,_,xs,_,dd⟩:=bo_4 I.hok e;exact dd.typeIs
def el_6(td ty:TE):TE:=λ σ H Q=>td σ H λx H1=>ty σ H1 λy H2=>∃a v,x=.ref a/\DGet H2 a y (some v)/\Q v H2
def el_7(td ty tv:TE):TS:=λD σ H=>tv σ H λv H1=>td σ H1 λx H2=>ty σ H2 λy H3=>∃a H4,x=.ref a/\DPut H3 a y v H4/\D.nx σ H4
section
variable{X:Cx}{o i e value:Expr}{pos pos' zg:Pos}{td ty tv:TE}
def bt_7(hu:X.A.units + 1 < cLine)(ho:PE X o td)(hi:PE X i ty)(hs:NoSl i):PE X (.Subscript o i pos) (el_6 td ty):=by
 intro zc s σ H Q I h;refine dq_9 PySem.F.slot_dict_getitem.lookup hs (Bh (ho zc s σ H _ I h) λu s1 ⟨x,H1,I1,rx,q1⟩=>Bh (hi zc s1 σ H1 _ I1 q1) λiv s2 ⟨y,H2,I2,ry,a,v,ex,g,q2⟩=> ?_);subst ex;obtain rfl:u=Value.ref a:=rx;exact⟨ca_7 I2 g,cx_2 hu I2 g ry λw' s3 I3 rw'=>⟨v,H2,I3,rw',q2⟩⟩
def bt_8(hu:X.A.units + 1 < cLine)(ho:PE X o td)(hi:PE X i ty)(hv:PE X value tv)(hs:swapsWith value (some (.Subscript o i pos')) pos.line X.env=pure false):
  PS X (.Assign [.Subscript o i pos'] value pos) (el_7 td ty tv):=by
 intro zc s σ H D I h;refine wpAny_Assign_Subscript (Bh (hv zc s σ H _ I h) λr s1 ⟨v,H1,I1,rv,q1⟩=>Bh (ho zc s1 σ H1 _ I1 q1) λu s2 ⟨x,H2,I2,rx,q2⟩=>Bh (hi zc s2 σ H2 _ I2 q2) λiv s3 ⟨y,H3,I3,ry,a,H4,ex,g,q3⟩=> ?_) hs;subst ex;obtain rfl:u=Value.ref a:=rx;exact cx_3 hu I3 g ry rv λs4 I4=>⟨σ,H4,I4,q3⟩
end
def df_5{w:World}(h:Heap)(hb:sysModules < h.objs.size):ObjOk P w H (h.push {cls:=.type "dict",data:=.dict #[]}) h.objs.size (.dK []):=
 ⟨Nat.zero_le _,beq_eq_false_iff_ne.mpr (Ne.symm (Nat.ne_of_lt hb)),[],.nil,Heap.DictOf.new h⟩
def ed_3:TE:=λ_ H Q=>∀p,H p=none->Q (.ref p) (upd H p (.dK []))
section
variable{X:Cx}{pos:Pos}
def ca_8:PE X (.Dict [] [] pos) ed_3:=λzc s σ H Q I h=>
 wpAny_Dict_empty ⟨.ref s.heap.objs.size,_,I.laid (a:=s.heap.objs.size) (o:=.dK []) (t':=s.toks) (λ_ _ q=>Heap.get?_push_of_some _ q) (Nat.le_refl _) (df_5 s.heap I.big),rfl,h _ (I.hok.fresh (Nat.le_refl _))⟩
end
structure M1(X:Cx)(o:Expr)(m:Str)(zf:Pos)(e:Expr)(zd:Pos):Prop where
 base:attributeBase o m X.env (eval o X.env)=eval o X.env
 few:((backTo zd (starEach [e] X.env)).all (λx=> !x.1) && (backToKw zd (keywordEach [] X.env)).all (λx=>x.1.isSome)
  && decide (([e]:List Expr).length + ([]:List Keyword).length + (if([]:List Keyword).isEmpty then 0 else 1) < 30))=true
 line:(zf.endLine ==zd.line)=true
 trees:backTo zd (starEach [e] X.env)= [(false,eval e X.env)]
structure M2(X:Cx)(o:Expr)(m:Str)(zf:Pos)(e f:Expr)(zd:Pos):Prop where
 base:attributeBase o m X.env (eval o X.env)=eval o X.env
 few:((backTo zd (starEach [e,f] X.env)).all (λx=> !x.1) && (backToKw zd (keywordEach [] X.env)).all (λx=>x.1.isSome)
  && decide (([e,f]:List Expr).length + ([]:List Keyword).length + (if([]:List Keyword).isEmpty then 0 else 1) < 30))=true
 line:(zf.endLine ==zd.line)=true
 trees:backTo zd (starEach [e,f] X.env)= [(false,eval e X.env),(false,eval f X.env)]
def IsD(H:Hp)(a:Addr):Prop:=(∃kvs,Rd H a (.dK kvs))\/∃kvs,Rd H a (.dT kvs)
def ed_4{zc:List (Addr×Obj)}{σ:St}{s:Shared}{a:Addr}(I:Inv X zc σ H s)(d:IsD H a):
  s.TypeIs (.ref a) "dict" /\(∀b,Value.ref a=.ref b->∃ob,s.heap.get? b=some ob/\ob.dict=none)/\(a ==sysModules)=false:=by
 rcases d with⟨kvs,e⟩|⟨kvs,e⟩
 ·obtain⟨_,hd,vs,_,dd⟩:=ar_3 I.hok e;refine⟨dd.typeIs,λb q=> ?_,hd⟩;cases q;obtain⟨ob,_,_,h1,h2,_⟩:=dd;exact⟨ob,h1,h2.2.1⟩
 ·obtain⟨_,hd,xs,_,dd⟩:=bo_4 I.hok e;refine⟨dd.typeIs,λb q=> ?_,hd⟩;cases q;obtain⟨ob,_,_,h1,h2,_⟩:=dd;exact⟨ob,h1,h2.2.1⟩
section
variable{X:Cx}{zc:List (Addr×Obj)}{σ:St}{H:Hp}{s:Shared}{a:Addr}{y d:V}{u r:Value}{o:Option V}{A:Around}{E:Value->Shared->Prop}
end
def ed_5(td ty tx:TE):TE:=λ σ H Q=>td σ H λx H1=>∃a,x=.ref a/\IsD H1 a/\ty σ H1 λy H2=>tx σ H2 λz H3=>∃kvs k,H3 a=some (.dK kvs)/\y=kV k/\
 (∀v,Ft kvs k=some v->Q v (upd H3 a (.dK (Hf kvs k))))/\(Ft kvs k=none->Q z H3)
section
variable{X:Cx}{o e f:Expr}{zf zd:Pos}{td ty tx:TE}
def df_6(ho:PE X o td)(he:PE X e ty)(hf:PE X f tx)(m:M2 X o "pop" zf e f zd):PE X (.Call (.Attribute o "pop" zf) [e,f] [] zd) (ed_5 td ty tx):=by
 intro zc s σ H Q I h;refine wpAny_Call_method m.base m.few m.line PySem.F.plainAttrs_dict PySem.F.slot_dict_pop PySem.F.type_dict_pop (Bh (ho zc s σ H _ I h) λu s1 ⟨x,H1,I1,rx,a,ex,d,q1⟩=> ?_);subst ex;obtain rfl:u=Value.ref a:=rx;obtain⟨t1,t2,_⟩:=ed_4 I1 d;refine⟨t1,t2, ?_⟩;rw [m.trees];refine Calls.callWith_builtin rfl (Calls.evalArgs_plain (Calls.spliced_cons (Bh (he zc s1 σ H1 _ I1 q1) λiv s2 ⟨y,H2,I2,ry,q2⟩=>
  Calls.spliced_cons (Bh (hf zc s2 σ H2 _ I2 q2) λfv s3 ⟨z,H3,I3,rz,kvs,k,ea,ey,q3,q4⟩=>Calls.spliced_nil ?_))))
 subst ey;cases l:Ft kvs k with
 |some v=>exact el_4 I3 ea ry l (.inr ⟨fv,rfl⟩) λw' s4 I4 rw'=>⟨v,_,I4,rw',q3 v l⟩
 |none=>exact ed_2 I3 ea ry l λs4 I4=>⟨z,H3,I4,rz,q4 l⟩
end
section
variable{X:Cx}{zc:List (Addr×Obj)}{σ:St}{H:Hp}{s:Shared}{a:Addr}{kvs:List (Au×V)}{A:Around}{E:Value->Shared->Prop}
end
section
variable{X:Cx}{zc:List (Addr×Obj)}{σ:St}{H:Hp}{s:Shared}{a:Addr}{y:V}{u:Value}{A:Around}{E:Value->Shared->Prop}
end
section
variable{X:Cx}
end
section
variable{κ:Type} [DecidableEq κ]
def df_7{kvs:List (κ×V)}{k:κ}(h:Ft kvs k=none):¬k∈kvs.map (·.1):=by
 intro m;obtain⟨p,hp,e⟩:=List.mem_map.mp m;have q:(kvs.any λkv=>decide (kv.1=k))=true:=List.any_eq_true.mpr ⟨p,hp,decide_eq_true e⟩;rw [be_7,h] at q;exact absurd q (by simp)
def cx_4{p:κ×V}{r:List (κ×V)}{k:κ}(e:p.1=k):Hf (p::r) k=Hf r k:=by
 unfold Hf;rw [List.filter_cons,if_neg (by simp [e])]
def bo_5{p:κ×V}{r:List (κ×V)}{k:κ}(e:¬p.1=k):Hf (p::r) k=p::Hf r k:=by
 unfold Hf;rw [List.filter_cons,if_pos (by simp [e])]
theorem ca_9:∀{kvs:List (κ×V)} {k:κ},¬k∈kvs.map (·.1)->Hf kvs k=kvs
 | [],_,_=>rfl
 |p::r,k,h=>by
  have h':¬k∈r.map (·.1):=λm=>by
   obtain⟨q,hq,e⟩:=List.mem_map.mp m;exact h (List.mem_map.mpr ⟨q,List.mem_cons.mpr (Or.inr hq),e⟩)
  rw [bo_5 λe=>h (List.mem_map.mpr ⟨p,List.mem_cons.mpr (Or.inl rfl),e⟩),ca_9 h']
end
end L2
namespace L3
open PySem PySem.Spec PyProof.Rows L2
variable{K:Frag}{fd:FuncData}{mg:Str->Option Value}{P:Program}{vs:List V}{us:List Value}{base:Heap}{H:Hp}{X:Cx}{pos:Pos}{v:V}
section
variable{X:Cx}
def Dd{EX:EXT}{G H:Hp}{Q:VK}{d:D}(o:Out K EX G H (.ok (.sh d)) Q)(g:Same G H)(r:Has K G v d):Q v H:=WP.use o g r
def el_8(K:Frag):R2:=λx y H Q=>∃l b xs zs,x=.ref l/\y=.ref b/\SqL K H l xs/\SqL K H b zs/\xs.length + zs.length<=sizeLine/\∀p,H p=none->Q (.ref p) (upd H p (.lst (xs ++ zs)))
def dr_0:Ec X (binaryOp .Add) (el_8 X.K):=by
 intro zc s σ H x y v u Q I rx ry h;obtain⟨l,b,xs,zs,rfl,rfl,hH,hB,hz,q⟩:=h;cases rx;cases ry;obtain⟨its,r,⟨o,n,e,c,dd,dat⟩,z⟩:=I.list hH;obtain⟨its2,r2,⟨o2,n2,e2,c2,dd2,dat2⟩,z2⟩:=I.list hB;have hl:=r.length;have hl2:=r2.length;obtain⟨cls,dd',data,sl⟩:=o;obtain⟨gw,gq,data2,sl2⟩:=o2;simp only at c dd dat c2 dd2 dat2;subst c dd dat c2 dd2 dat2;refine concat_meets ⟨_,e,rfl⟩ ⟨_,e2,rfl⟩ noFill_list_add seq_list_add PySem.F.slot_list_add PySem.F.entry_list_add (PySem.F.args_list_add_2 _ _) (list_addW l b its.toArray its2.toArray n n2 none none sl sl2 (by rw [List.size_toArray,List.size_toArray];omega)) ⟨e,e2, ?_⟩;have ea:its.toArray ++ its2.toArray=(its ++ its2).toArray:=by simp
 rw [ea];exact⟨.ref _,_,I.lnew (t':=s.toks) (r.append r2) (by rw [List.length_append];omega),rfl,q _ I.fresh⟩
def By:D->D->R W
 | .int i,.int j=> .ok (.sh (.int (i + j)))
 | .str x,.str y=>if x.length + y.length<=16777216 then .ok (.sh (.str (x ++ y))) else .no
 | .lst a,.lst b=>if a.length + b.length<=16777216 then .ok (.ow (.lst (a ++ b))) else .no
 |_,_=> .no
def Cu:Fm X (binaryOp .Add) By:=by
 intro zc s σ H x y v u Q I rx ry h;obtain⟨EX,G,a,b,g,ra,rb,o⟩:=h;cases ra with
 |int i=>
  cases rb with
  |int j=>exact eb_5 zc s σ H _ _ _ _ Q I rx ry ⟨i,j,rfl,rfl,Dd o g (.int _)⟩
  |_=>exact False.elim o
 |str x=>
  cases rb with
  |str y=>
   simp only [By] at o
   split at o
   ·rename_i hz;exact ck_1 zc s σ H _ _ _ _ Q I rx ry ⟨x,y,rfl,rfl,by rw [sizeLine_eq];exact hz,Dd o g (.str _)⟩
   ·exact o.elim
  |_=>exact False.elim o
 |lst h1 r1=>
  cases rb with
  |lst h2 r2=>
   simp only [By] at o
   split at o
   ·rename_i hz;exact dr_0 zc s σ H _ _ _ _ Q I rx ry ⟨_,_,_,_,rfl,rfl,g.seq h1,g.seq h2,by rw [r1.length,r2.length,sizeLine_eq];exact hz,x_5 o g (r1.append r2)⟩
   ·exact o.elim
  |_=>exact False.elim o
 |_=>cases rb <;> exact False.elim o
def intD(C:Int->Int->Bool)(f:Int->Int->Int):D->D->R W
 | .int i,.int j=>if C i j=true then .ok (.sh (.int (f i j))) else .no
 |_,_=> .no
def ar_4{fn:Value->Value->Sem Value}{C:Int->Int->Bool}{P:Int->Int->Prop}{f:Int->Int->Int}(h:Ec X fn (rI P λi j=> .int (f i j)))(hC:∀i j,C i j=true->P i j):Fm X fn (intD C f):=by
 intro zc s σ H x y v u Q I rx ry q;obtain⟨EX,G,a,b,g,ra,rb,o⟩:=q;cases ra with
 |int i=>
  cases rb with
  |int j=>
   simp only [intD] at o
   split at o
   ·rename_i hc;exact h zc s σ H _ _ _ _ Q I rx ry ⟨i,j,rfl,rfl,hC i j hc,Dd o g (.int _)⟩
   ·exact o.elim
  |_=>exact False.elim o
 |_=>cases rb <;> exact False.elim o
def subD:D->D->R W:=intD (λ_ _=>true) (λi j=>i - j)
def Fo(i j:Int):Bool:=decide (i.natAbs < 18446744073709551616\/j.natAbs < 18446744073709551616)
def Ca:D->D->R W:=intD Fo (λi j=>i * j)
def divC(_ j:Int):Bool:=decide (0 < j/\j.natAbs < 1361129467683753853853498429727072845824)
def Gm:D->D->R W:=intD divC (λi j=>i / j)
def modC(_ j:Int):Bool:=decide (0 < j)
def Ed:D->D->R W:=intD modC (λi j=>i % j)
def powC(i j:Int):Bool:=decide (0<=j/\j.natAbs<=1000000/\i.natAbs < 18446744073709551616)
def powD:D->D->R W:=intD powC (λi j=>i ^ j.toNat)
def ar_5:Fm X (binaryOp .Sub) subD:=ar_4 (P:=λ_ _=>True) (opI λ_ _ _ _ _ _ _ _ q=>sub_int q) λ_ _ _=>trivial
def Dz:Fm X (binaryOp .Mult) Ca:=ar_4 eb_6 λi j h=>by
 have h:=of_decide_eq_true h;rcases h with h|h
 ·exact .inl ⟨by omega,by omega⟩
 ·exact .inr ⟨by omega,by omega⟩
def l_0:Fm X (binaryOp .FloorDiv) Gm:=ar_4 (P:=λ_ j=>0 < j/\j.natAbs < 1361129467683753853853498429727072845824) (opI λi j _ _ _ _ _ hc q=>by
 have h1:(0:Int) < j:=hc.1;have h2:=hc.2;refine floordiv_int (by omega) ?_ (.inl (PyProof.noPylong_of_log2 ?_))
 ·rw [Int.fdiv_eq_ediv_of_nonneg i (by omega)];exact q
 ·have:j.natAbs < 2 ^ 130:=by
   have e:(2:Nat) ^ 130=1361129467683753853853498429727072845824:=by decide
   omega
  have l:j.natAbs.log2 < 130:=(Nat.log2_lt (by omega)).mpr this;omega) λi j h=>of_decide_eq_true h
def Fd:Fm X (binaryOp .Mod) Ed:=ar_4 eb_7 λi j h=>of_decide_eq_true h
def dr_3{i j:Int}(h:powC i j=true):CPow i j:=by
 obtain⟨h1,h2,h3⟩:=of_decide_eq_true h;refine⟨h1,by omega, ?_⟩;have e:(2:Nat) ^ 64=18446744073709551616:=by decide
 omega
def dr_4:Fm X (binaryOp .Pow) powD:=ar_4 eb_8 λi j h=>dr_3 h
def cmpD(f:Int->Int->Bool):D->D->R W
 | .int i,.int j=> .ok (.sh (.bl (f i j)))
 |_,_=> .no
def bc_4{fn:Value->Value->Sem Value}{f:Int->Int->Bool}(h:Ec X fn (rI0 λi j=> .bl (f i j))):Fm X fn (cmpD f):=by
 intro zc s σ H x y v u Q I rx ry q;obtain⟨EX,G,a,b,g,ra,rb,o⟩:=q;cases ra with
 |int i=>
  cases rb with
  |int j=>exact h zc s σ H _ _ _ _ Q I rx ry ⟨i,j,rfl,rfl,Dd o g (.bl _)⟩
  |_=>exact False.elim o
 |_=>cases rb <;> exact False.elim o
def ltD:D->D->R W:=cmpD λi j=>decide (i < j)
def leD:D->D->R W:=cmpD λi j=>decide (i<=j)
def gtD:D->D->R W:=cmpD λi j=>decide (j < i)
def geD:D->D->R W:=cmpD λi j=>decide (j<=i)
def av_0:Fm X (compareOp .Lt) ltD:=bc_4 ek_2
def bu_0:Fm X (compareOp .LtE) leD:=bc_4 ek_3
def cl_2:Fm X (compareOp .Gt) gtD:=bc_4 ek_4
def ed_6:Fm X (compareOp .GtE) geD:=bc_4 ek_5
mutual
def El:D->PyData
 | .non=> .none
 | .bl b=> .bool b
 | .int i=> .int i
 | .str x=> .str x
 | .lst ds=> .list (Em ds)
 | .tup ds=> .tuple (Em ds)
 | .dic _=> .dict []
 | .exn _ _ _=> .dict []
 | .obj _ _ _=> .dict []
def Em:List D->List PyData
 | []=> []
 |d::ds=>El d::Em ds
end
mutual
theorem Has.reads(hK:X.K=K){zc:List (Addr×Obj)}{σ:Sg}{s:Shared}(I:Inv X zc σ H s){G:Hp}(g:Same G H):∀{v:V} {d:D} {u:Value},(El d).canLay0=true->Has K G v d->RelV v u->∃as,Reads s.heap u (El d) as
 |_,_,_,_,.non,r=>by cases r;exact⟨_,.none⟩
 |_,_,_,_,.bl b,r=>by cases r;exact⟨_,.bool b⟩
 |_,_,_,_,.int i,r=>by obtain⟨t,rfl⟩:=r;exact⟨_,.int i t⟩
 |_,_,_,_,.str x,r=>by obtain⟨t,rfl⟩:=r;exact⟨_,.str x t⟩
 |_,_,_,c,.lst h r,q=>by
  cases q;obtain⟨its,rv,⟨o,n,e,c',_,dat⟩,_⟩:=I.list (by rw [hK];exact g.seq h);obtain⟨as,z⟩:=HasL.reads hK I g c r rv;exact⟨_,.list e c' dat z⟩
 |_,_,_,c,.tup h r,q=>by
  cases q;obtain⟨its,rv,⟨o,e,c',n,dat⟩,_⟩:=I.tuple (by rw [hK];exact Same.tupS g h);obtain⟨as,z⟩:=HasL.reads hK I g c r rv;exact⟨_,.tuple e c' dat z⟩
 |_,_,_,c,.exn0 _ _,_=>absurd c Bool.false_ne_true
 |_,_,_,c,.exn1 _ _ _ _ _,_=>absurd c Bool.false_ne_true
 |_,_,_,c,.dic _ _ _,_=>absurd c Bool.false_ne_true
 |_,_,_,c,.obj _ _ _ _,_=>absurd c Bool.false_ne_true
theorem HasL.reads(hK:X.K=K){zc:List (Addr×Obj)}{σ:Sg}{s:Shared}(I:Inv X zc σ H s){G:Hp}(g:Same G H):∀{vs:List V} {ds:List D} {us:List Value},PyData.canLayAll0 (Em ds)=true->HasL K G vs ds->Vals vs us->∃as,ReadsAll s.heap us (Em ds) as
 |_,_,_,_,.nil,r=>by cases r;exact⟨_,.nil⟩
 |_,_,_,c,.cons h t,r=>by
  cases r with
  |cons r1 r2=>
   have c':(PyData.canLay0 (El _) && PyData.canLayAll0 (Em _))=true:=c;rw [Bool.and_eq_true] at c';obtain⟨a1,z1⟩:=Has.reads hK I g c'.1 h r1;obtain⟨a2,z2⟩:=HasL.reads hK I g c'.2 t r2;exact⟨_,.cons z1 z2⟩
end
def eqC(a b:D):Bool:=(El a).canLay0 && (El b).canLay0 && decide ((El a).depth<=60)
def Hc(a b:D):Bool:=(El a).eqv (El b)
def Ck(a b:D):R W:=match a,b with
 | .str x,.str y=> .ok (.sh (.bl (decide (x=y))))
 |a,b=>if eqC a b=true then .ok (.sh (.bl (Hc a b))) else .no
def Dg(a b:D):R W:=match a,b with
 | .str x,.str y=> .ok (.sh (.bl (!decide (x=y))))
 |a,b=>if eqC a b=true then .ok (.sh (.bl (!Hc a b))) else .no
def cb_1(x y:Str):decide (V.str x=V.str y)=decide (x=y):=by
 by_cases e:x=y
 ·subst e;simp
 ·rw [decide_eq_false e,decide_eq_false (λz=>e (by injection z))]
def Gn(hu:X.A.units + 64 < cLine):Fm X (compareOp .Eq) Ck:=by
 intro zc s σ H x y v u Q I rx ry q;obtain⟨EX,G,a,b,g,ra,rb,o⟩:=q;unfold Ck at o
 split at o
 ·rename_i x y;cases ra;cases rb;exact ek_0 zc s σ H _ _ _ _ Q I rx ry ⟨rfl,by rw [cb_1];exact Dd o g (.bl _)⟩
 ·split at o
  ·rename_i hc;unfold eqC at hc;rw [Bool.and_eq_true,Bool.and_eq_true] at hc;obtain⟨⟨h1,h2⟩,h3⟩:=hc;have h3:=of_decide_eq_true h3;obtain⟨as,za⟩:=Has.reads rfl I g h1 ra rx;obtain⟨bs,zb⟩:=Has.reads rfl I g h2 rb ry;refine PySem.SeqAt.compareEq_reads za zb h1 h2 ?_ ⟨.bl _,H,I,rfl,Dd o g (.bl _)⟩;have:=Nat.min_le_left (El a).depth (El b).depth;omega
  ·exact o.elim
def ae_6(hu:X.A.units + 64 < cLine):Fm X (compareOp .NotEq) Dg:=by
 intro zc s σ H x y v u Q I rx ry q;obtain⟨EX,G,a,b,g,ra,rb,o⟩:=q;unfold Dg at o
 split at o
 ·rename_i x y;cases ra;cases rb;exact ek_1 zc s σ H _ _ _ _ Q I rx ry ⟨rfl,by rw [cb_1];exact Dd o g (.bl _)⟩
 ·split at o
  ·rename_i hc;unfold eqC at hc;rw [Bool.and_eq_true,Bool.and_eq_true] at hc;obtain⟨⟨h1,h2⟩,h3⟩:=hc;have h3:=of_decide_eq_true h3;obtain⟨as,za⟩:=Has.reads rfl I g h1 ra rx;obtain⟨bs,zb⟩:=Has.reads rfl I g h2 rb ry;refine PySem.SeqAt.compareNe_reads za zb h1 h2 ?_ ⟨.bl _,H,I,rfl,Dd o g (.bl _)⟩;have:=Nat.min_le_left (El a).depth (El b).depth;omega
  ·exact o.elim
def Ba:D->Bool
 | .non=>true
 | .bl _=>true
 | .int _=>true
 | .str _=>true
 |_=>false
def flV:D->V
 | .bl b=> .bl b
 | .int i=> .int i
 | .str x=> .str x
 |_=> .non
def Has.fl{G:Hp}{d:D}(r:Has K G v d)(f:Ba d=true):v=flV d/\He v=true:=by
 cases r with
 |non=>exact⟨rfl,rfl⟩
 |bl b=>exact⟨rfl,rfl⟩
 |int i=>exact⟨rfl,rfl⟩
 |str x=>exact⟨rfl,rfl⟩
 |lst _ _=>cases f
 |tup _ _=>cases f
 |exn0 _ _=>cases f
 |exn1 _ _ _ _ _=>cases f
 |dic _ _ _=>cases f
 |obj _ _ _ _=>cases f
def Has.ofFl{G G':Hp}{d:D}(r:Has K G v d)(f:Ba d=true):Has K G' v d:=by
 cases r with
 |non=>exact .non
 |bl b=>exact .bl b
 |int i=>exact .int i
 |str x=>exact .str x
 |lst _ _=>cases f
 |tup _ _=>cases f
 |exn0 _ _=>cases f
 |exn1 _ _ _ _ _=>cases f
 |dic _ _ _=>cases f
 |obj _ _ _ _=>cases f
theorem HasL.fl{G:Hp}:∀{vs:List V} {ds:List D},HasL K G vs ds->ds.all Ba=true->vs=ds.map flV/\vs.all He=true
 |_,_,.nil,_=>⟨rfl,rfl⟩
 |_,_,.cons h r,f=>by
  rw [List.all_cons,Bool.and_eq_true] at f;obtain⟨e1,e2⟩:=h.fl f.1;obtain⟨e3,e4⟩:=HasL.fl r f.2;exact⟨by rw [List.map_cons,<-e1,<-e3],by rw [List.all_cons,e2,e4];rfl⟩
def eqF(a b:D):Bool:=eqV (flV a) (flV b)
def Ct(d:D)(ds:List D):Bool:=ds.any λy=>eqF y d
def cr_2(d:D)(ds:List D):inV (flV d) (ds.map flV)=Ct d ds:=by
 unfold inV Ct;rw [List.any_map];rfl
def inD(neg:Bool):D->D->R W
 | .str i,.str j=> .ok (.sh (.bl (if neg then !(!(Builtin.Str.occurrences j i 0 j.length 1).isEmpty) else !(Builtin.Str.occurrences j i 0 j.length 1).isEmpty)))
 |d,.lst ds=>if(Ba d && ds.all Ba)=true then .ok (.sh (.bl (if neg then !Ct d ds else Ct d ds))) else .no
 |d,.tup ds=>if(Ba d && ds.all Ba)=true then .ok (.sh (.bl (if neg then !Ct d ds else Ct d ds))) else .no
 |_,_=> .no
def cr_3{EX:EXT}{G H:Hp}{x y:V}{d:D}{e:D}{Q:VK}{neg:Bool}(g:Same G H)(ra:Has X.K G x d)(rb:Has X.K G y e)(hd:∀i j,d=.str i->e=.str j->False)(o:Out X.K EX G H (inD neg d e) Q):rIn X.K neg x y H Q:=by
 cases rb with
 |lst h r=>
  rename_i ds;have o':Out X.K EX G H (if(Ba d && ds.all Ba)=true then .ok (.sh (.bl (if neg then !Ct d ds else Ct d ds))) else .no) Q:=by
   cases d <;> exact o
  split at o'
  ·rename_i f;rw [Bool.and_eq_true] at f;obtain⟨e1,e2⟩:=ra.fl f.1;obtain⟨e3,e4⟩:=r.fl f.2;refine⟨_,_,rfl,.inl (g.seq h),e2,e4, ?_⟩;rw [e1,e3,cr_2];exact Dd o' g (.bl _)
  ·exact o'.elim
 |tup h r=>
  rename_i ds;have o':Out X.K EX G H (if(Ba d && ds.all Ba)=true then .ok (.sh (.bl (if neg then !Ct d ds else Ct d ds))) else .no) Q:=by
   cases d <;> exact o
  split at o'
  ·rename_i f;rw [Bool.and_eq_true] at f;obtain⟨e1,e2⟩:=ra.fl f.1;obtain⟨e3,e4⟩:=r.fl f.2;refine⟨_,_,rfl,.inr (Same.tupS g h),e2,e4, ?_⟩;rw [e1,e3,cr_2];exact Dd o' g (.bl _)
  ·exact o'.elim
 |str j=>
  cases d with
  |str i=>exact(hd i j rfl rfl).elim
  |_=>exact False.elim o
 |_=>cases d <;> exact False.elim o
def df_9:Fm X (compareOp .In) (inD false):=by
 intro zc s σ H x y v u Q I rx ry q;obtain⟨EX,G,a,b,g,ra,rb,o⟩:=q
 by_cases hs:∃i j,a=.str i/\b=.str j
 ·obtain⟨i,j,rfl,rfl⟩:=hs;cases ra;cases rb;exact cv_9 zc s σ H _ _ _ _ Q I rx ry ⟨i,j,rfl,rfl,Dd o g (.bl _)⟩
 ·exact cw_7 zc s σ H _ _ _ _ Q I rx ry (cr_3 g ra rb (λi j e1 e2=>hs ⟨i,j,e1,e2⟩) o)
def bo_6:Fm X (compareOp .NotIn) (inD true):=by
 intro zc s σ H x y v u Q I rx ry q;obtain⟨EX,G,a,b,g,ra,rb,o⟩:=q
 by_cases hs:∃i j,a=.str i/\b=.str j
 ·obtain⟨i,j,rfl,rfl⟩:=hs;cases ra;cases rb;exact bt_2 zc s σ H _ _ _ _ Q I rx ry ⟨i,j,rfl,rfl,Dd o g (.bl _)⟩
 ·exact bt_1 zc s σ H _ _ _ _ Q I rx ry (cr_3 g ra rb (λi j e1 e2=>hs ⟨i,j,e1,e2⟩) o)
def Bs:List D->R W
 | [.str x]=>if x.length<=16777216 then .ok (.sh (.int x.length)) else .no
 | [.lst ds]=> .ok (.sh (.int ds.length))
 | [.tup ds]=> .ok (.sh (.int ds.length))
 |_=> .no
def Dw:Ek X (.builtin "len") Bs:=by
 intro zc s σ H vs us Q I rv q;obtain⟨EX,G,ds,g,r,o⟩:=q;cases r with
 |nil=>exact False.elim o
 |cons h t=>
  cases t with
  |cons _ _=>cases h <;> exact False.elim o
  |nil=>
   cases h with
   |str x=>
    simp only [Bs] at o
    split at o
    ·rename_i hz;exact bt_3 zc s σ H _ _ Q I rv ⟨x,rfl,by rw [sizeLine_eq];exact hz,Dd o g (.int _)⟩
    ·exact o.elim
   |lst h r=>exact ar_1 zc s σ H _ _ Q I rv ⟨_,_,rfl,.inl (g.seq h),by rw [r.length];exact Dd o g (.int _)⟩
   |tup h r=>exact ar_1 zc s σ H _ _ Q I rv ⟨_,_,rfl,.inr (Same.tupS g h),by rw [r.length];exact Dd o g (.int _)⟩
   |_=>exact False.elim o
def maxD:List D->R W
 | [.int i,.int j]=> .ok (.sh (.int (if j > i then j else i)))
 |_=> .no
def minD:List D->R W
 | [.int i,.int j]=> .ok (.sh (.int (if j < i then j else i)))
 |_=> .no
def cb_2{G:Hp}{ds:List D}(r:HasL K G vs ds){P:Prop}(h:∀i j,vs= [.int i,.int j]->ds= [.int i,.int j]->P)(n:(∀i j,ds≠ [.int i,.int j])->P):P:=by
 by_cases e:∃i j,ds= [.int i,.int j]
 ·obtain⟨i,j,rfl⟩:=e;cases r with
  |cons a t=>
   cases t with
   |cons b t2=>
    cases t2;cases a;cases b;exact h i j rfl rfl
 ·exact n λi j z=>e ⟨i,j,z⟩
def dr_5{ds:List D}(h:∀i j,ds≠ [.int i,.int j]):maxD ds=.no:=by
 unfold maxD
 split
 ·rename_i i j;exact absurd rfl (h i j)
 ·rfl
def dr_6{ds:List D}(h:∀i j,ds≠ [.int i,.int j]):minD ds=.no:=by
 unfold minD
 split
 ·rename_i i j;exact absurd rfl (h i j)
 ·rfl
def bo_7(hc:X.calm=true):Ek X (.builtin "max") maxD:=by
 intro zc s σ H vs us Q I rv q;obtain⟨EX,G,ds,g,r,o⟩:=q;refine cb_2 r (λi j e1 e2=> ?_) λn=> ?_
 ·subst e1 e2;exact cw_0 hc zc s σ H _ _ Q I rv ⟨i,j,rfl,Dd o g (.int _)⟩
 ·rw [dr_5 n] at o;exact o.elim
def cx_6(hc:X.calm=true):Ek X (.builtin "min") minD:=by
 intro zc s σ H vs us Q I rv q;obtain⟨EX,G,ds,g,r,o⟩:=q;refine cb_2 r (λi j e1 e2=> ?_) λn=> ?_
 ·subst e1 e2;exact cw_1 hc zc s σ H _ _ Q I rv ⟨i,j,rfl,Dd o g (.int _)⟩
 ·rw [dr_6 n] at o;exact o.elim
def cr_4:List D->R W
 | [.int i]=>if i.natAbs.log2 < 1920 then .ok (.sh (.str (toString i))) else .no
 |_=> .no
def cl_3:Ek X (.type "str") cr_4:=by
 intro zc s σ H vs us Q I rv q;obtain⟨EX,G,ds,g,r,o⟩:=q;cases r with
 |nil=>exact False.elim o
 |cons h t=>
  cases t with
  |cons _ _=>cases h <;> exact False.elim o
  |nil=>
   cases h with
   |int i=>
    simp only [cr_4] at o
    split at o
    ·rename_i hz;exact bs_7 zc s σ H _ _ Q I rv ⟨i,rfl,hz,Dd o g (.str _)⟩
    ·exact o.elim
   |_=>exact False.elim o
def ae_7:List D->R W
 | [.lst ds]=> .ok (.ow (.lst ds))
 | [.tup ds]=> .ok (.ow (.lst ds))
 |_=> .no
def aa_1:Ek X (.type "list") ae_7:=by
 intro zc s σ H vs us Q I rv q;obtain⟨EX,G,ds,g,r,o⟩:=q;cases r with
 |nil=>exact False.elim o
 |cons h t=>
  cases t with
  |cons _ _=>cases h <;> exact False.elim o
  |nil=>
   cases h with
   |lst h r=>exact ar_2 zc s σ H _ _ Q I rv ⟨_,_,rfl,.inl (g.seq h),x_5 o g r⟩
   |tup h r=>exact ar_2 zc s σ H _ _ Q I rv ⟨_,_,rfl,.inr (Same.tupS g h),x_5 o g r⟩
   |_=>exact False.elim o
def dg_1:List D->R W
 | [.lst ds]=> .ok (.sh (.tup ds))
 | [.tup ds]=> .ok (.sh (.tup ds))
 |_=> .no
def cl_4:Ek X (.type "tuple") dg_1:=by
 intro zc s σ H vs us Q I rv q;obtain⟨EX,G,ds,g,r,o⟩:=q;cases r with
 |nil=>exact False.elim o
 |cons h t=>
  cases t with
  |cons _ _=>cases h <;> exact False.elim o
  |nil=>
   cases h with
   |lst h r=>
    refine am_2 zc s σ H _ _ Q I rv ⟨_,_,rfl,.inl ⟨g.seq h,λp hp=> ?_⟩⟩;exact o (.ref p) _ _ (Step.new g hp _) (.tup (SqT.of Cw) (r.mono (n_5 (g.free hp) _)))
   |tup h r=>exact am_2 zc s σ H _ _ Q I rv ⟨_,_,rfl,.inr ⟨Same.tupS g h,Dd o g (.tup h r)⟩⟩
   |_=>exact False.elim o
end
structure RoomC(c:Bool)(k:Nat)(A:Around):Prop where
 hd:c=true->A.handled=none
 dp:A.depth + 3 * k + 5 < recursionLimit
 un:A.units + 16 * k + 200 < cLine
def RoomC.mono{c:Bool}{j k:Nat}{A:Around}(r:RoomC c k A)(h:j<=k):RoomC c j A:=⟨r.hd,by have:=r.dp;omega,by have:=r.un;omega⟩
theorem RoomC.deeper{c:Bool}{k:Nat}{A:Around}(r:RoomC c (k + 1) A)(env:Env):RoomC c k (A.deeper env):=
 ⟨r.hd,by have:=r.dp;show A.depth + 1 + 3 * k + 5 < _;omega,by have:=r.un;show A.units + 3 + 16 * k + 200 < _;omega⟩
def RoomC.make{c:Bool}{k:Nat}{A:Around}(r:RoomC c (k + 1) A)(C:Addr)(us:List Value)(kw:List (Str×Value)):RoomC c k (A.under (.builtin "type.__call__" ⟨.ref C::us,kw⟩)):=
 ⟨r.hd,by have:=r.dp;rw [ck_4];omega,by have:=r.un;rw [ck_5];omega⟩
def RoomC.loose{c:Bool}{k:Nat}{A:Around}(r:RoomC c k A):RoomC false k A:=⟨λz=>absurd z Bool.false_ne_true,r.dp,r.un⟩
theorem RoomC.mark{c:Bool}{k:Nat}{A:Around}(r:RoomC c k A)(h:Option Value):RoomC false k (A.mark h):=⟨λz=>absurd z Bool.false_ne_true,r.dp,r.un⟩
def RoomC.of{k:Nat}{A:Around}(r:Room k A):RoomC true k A:=⟨λ_=>r.hd,r.dp,r.un⟩
structure FnX(P:Program)(w:World)(K:Frag)(mg:Str->Option Value)(base:Heap)(c:Bool)(k:Nat)(f:Addr)(fd:FuncData)(ps:List Str)(sp:Sp):Prop where
 len:∀vs H Q E,sp vs H Q E->vs.length=ps.length
 run:∀(A:Around) (outer:List Env) (s:Shared) (H:Hp) (args:Args) (us:List Value) (vs:List V) (Q:VK) (E:XK),RoomC c k A->Env0 P w K mg base A outer s H->BindsTo s fd args (ps.zip us)->Vals vs us->sp vs H Q E->
  codeAny (model P w) A (.call (.ref f) args) (CR (CXr P w) outer P w H s Q E) s
abbrev cxN(c:Bool)(P:Program)(w:World)(K:Frag)(mg:Str->Option Value)(base:Heap)(N:List Str)(qual:Str)(scope:Scope)(f:Addr)(cd:Value)(A:Around)(outer:List Env)(s:Shared)(H:Hp)(E:XK):Cx:=
 {Fy (CXr P w) P w K mg base N qual scope f cd A outer s H E with calm:=c}
def cl_5{c:Bool}{w:World}{N ps:List Str}{qual:Str}{scope:Scope}{f:Addr}{cd:Value}{A:Around}{outer:List Env}{s s1:Shared}{E:XK}{vs:List V}
  (S:FnScope N ps scope) (hd:c=true->A.handled=none) (e0:Env0 P w K mg base A outer s H) (hl:vs.length=ps.length) (r:Vals vs us)
  (x:InCallC s s.heap.objs.size (bindL (envOfC qual scope s.heap.objs.size f cd).kindOf (ps.zip us) λ_=>none) (cellsFrom (s.heap.objs.size + 1) scope.names []) (bindC (envOfC qual scope s.heap.objs.size f cd).kindOf (ps.zip us) λ_=>none) s1):
  Inv (cxN c P w K mg base N qual scope f cd A outer s H E) [] (Hb N vs) H s1:=by
 have I:=cw_4 (CX:=CXr P w) (E:=E) (qual:=qual) (f:=f) (cd:=cd) (A:={A with handled:=none}) S rfl ⟨e0.frames,e0.mod,e0.bs,e0.bsz,e0.funs,e0.frf,e0.hok,e0.bare⟩ hl r x;exact⟨⟨I.ok.mod,I.ok.kind,I.ok.glob,I.ok.blt,I.ok.above,I.ok.inj,I.ok.has,I.ok.cab,hd,Around.frames_deeper e0.frames,I.ok.stk,I.ok.exf,I.ok.bs,I.ok.bsz,I.ok.noex,I.ok.exfs,I.ok.funs,I.ok.frf⟩,
  I.os,I.bare,I.base,I.loc,I.cell,I.free,I.freeC,I.pin,I.hok,I.len⟩
def ed_7{c:Bool}{w:World}{k:Nat}{f:Addr}{name qual:Str}{params:Arguments}{body:List Stmt}{scope:Scope}{dV kV doc pm zn ct oc:Value}{an od:Option Addr}
  {osl:Array (Option Value)} {N ps:List Str} {sp:Sp} (lk:K.lookup f=some ⟨oc,od,.func (fnOf name qual params body scope dV kV doc pm an zn ct),osl⟩) (hcd:codeIn K zn qual=true) (S:FnScope N ps scope)
  (len:∀vs H Q E,sp vs H Q E->vs.length=ps.length)
  (zh:∀(A:Around) (outer:List Env) (s:Shared) (H:Hp) (vs:List V) (Q:VK) (E:XK),RoomC c k (A.deeper (envOfC qual scope s.heap.objs.size f zn))->sp vs H Q E->
   ∃t,PSs (cxN c P w K mg base N qual scope f zn A outer s H E) body t/\t {nx:=λ_ H'=>Q .non H',rt:=Q} (Hb N vs) H):
  FnX P w K mg base c (k + 1) f (fnOf name qual params body scope dV kV doc pm an zn ct) ps sp:=by
 refine⟨len,λA outer s H args us vs Q E hr e0 hb r hsp=> ?_⟩;have hl:=len _ _ _ _ hsp;have KX:K.In s.heap:=e0.mod.kin.keeps λb o e=>(e0.bs b o e).1;have lim:s.heap.NoLimit:=e0.mod.nolimit.keeps λb o e=>(e0.bs b o e).1;have cz:∀y∈ps.zip us,scope.names.lookup y.1=some .local\/(scope.names.lookup y.1=some .cell/\((cellsFrom (s.heap.objs.size + 1) scope.names []).lookup y.1).isSome=true):=λ⟨n,v⟩ hy=>by
  rcases S.par n (List.of_mem_zip hy).1 with q|q
  ·exact .inl q
  ·exact .inr ⟨q,cellsFrom_some _ _ _ (.inl q)⟩
 have dp:A.depth < recursionLimit:=by have:=hr.dp;omega
 refine codeAny_call_function dp (KX _ _ lk) rfl S.co S.gen rfl (codeRec_of KX hcd) (hb _ _ _ _ ?_);refine wpAny_newFunctionEnv_cells S.kind cz λenv he s1 x=> ?_;subst he;refine⟨lim.keeps x.toInCall.keep,codeAny_func ?_⟩;obtain⟨t,ht,hq⟩:=zh A outer s H vs Q E (hr.deeper _) hsp;have I:Inv (cxN c P w K mg base N qual scope f zn A outer s H E) [] (Hb N vs) H s1:=cl_5 S hr.hd e0 hl r x;refine wpAny_mono (ht [] s1 (Hb N vs) H _ I hq) (λfl s' hs=> ?_) λe s' hs=>hs;have fin:∀{σ':Sg} {H':Hp} {v:V} {u:Value},Inv (cxN c P w K mg base N qual scope f zn A outer s H E) [] σ' H' s'->RelV v u->Q v H'->CE outer P w H s Q u s':=
  λ{σ' H' v u} J rv q=>⟨v,H',J.os,J.bare,J.base,J.hok,rv,q⟩
 cases fl with
 |ret u=>
  obtain⟨v,σ',H',J,rv,q⟩:=hs;exact fin J rv q
 |next=>
  obtain⟨σ',H',J,q⟩:=hs;exact fin (v:=V.non) (u:=Value.none) J rfl q
 |brk=>
  obtain⟨_,_,_,q⟩:=hs;exact False.elim q
 |cont=>
  obtain⟨_,_,_,q⟩:=hs;exact False.elim q
def Fun.okX{c:Bool}{w:World}{x qual:Str}{st:Stmt}{f:Addr}{N ps:List Str}{k:Nat}{sp:Sp}(F:Fun K x qual st f fd)(S:FnScope N ps (Cn st))(len:∀vs H Q E,sp vs H Q E->vs.length=ps.length)
  (zh:∀(zn:Value) (A:Around) (outer:List Env) (s:Shared) (H:Hp) (vs:List V) (Q:VK) (E:XK),RoomC c k (A.deeper (envOfC qual (Cn st) s.heap.objs.size f zn))->sp vs H Q E->
   ∃t,PSs (cxN c P w K mg base N qual (Cn st) f zn A outer s H E) (Fs st) t/\t {nx:=λ_ H'=>Q .non H',rt:=Q} (Hb N vs) H):FnX P w K mg base c (k + 1) f fd ps sp:=by
 obtain⟨oc,od,kV,doc,pm,an,zn,ct,osl,rfl,lk,hcd⟩:=F.ex;exact ed_7 lk hcd S len λA outer s H vs Q E hr hsp=>zh zn A outer s H vs Q E hr hsp
def Lk(X:Cx)(EX:Bq):Prop:=∀(zc:List (Addr×Obj)) (σ:Sg) (H:Hp) (s:Shared) (e:Value) (s':Shared),Inv X zc σ H s->CXr X.prog X.w X.stack H s (EXE X.K (EX σ)) e s'->X.xe e s'
def x_7:Lk X Ee:=λzc σ H s e s' I c=>by
 obtain⟨a,C,dx,T,H',_,_,_,_,_,_,_,_,_,_,x,G,_,_,q⟩:=c;exact False.elim q
def cl_6{c:Bool}{w:World}{N:List Str}{qual:Str}{scope:Scope}{f:Addr}{cd:Value}{A:Around}{outer:List Env}{s:Shared}{E:XK}:
  Lk (cxN c P w K mg base N qual scope f cd A outer s H E) (λ_=>EXof K E):=λzc σ H s e s' I h=>cx_0 I h λcls dx H' q=>q.of
def Bi(K:Frag)(n:Nat)(F:List D->R W):Sp:=λvs H Q E=>vs.length=n/\∃G ds,Same G H/\HasL K G vs ds/\Out K (EXof K E) G H (F ds) Q
def At(n:Nat)(F:List D->R W)(fa:FA):FE:=λ δ=>(fa δ).bind λds=>if ds.length=n then F ds else .no
def FnD(P:Program)(w:World)(K:Frag)(mg:Str->Option Value)(base:Heap)(c:Bool)(x:Str)(k:Nat)(ps:List Str)(F:List D->R W):Prop:=
 ∃f fd,FnX P w K mg base c k f fd ps (Bi K ps.length F)/\mg x=some (.ref f)/\keepIn K (.ref f)=true/\Binds K fd ps []
section
variable{X:Cx}{EX:Bq}{e:Expr}{es:List Expr}{fa:FA}{x:Str}{pp pos:Pos}{c:Bool}{k k':Nat}{ps:List Str}{F:List D->R W}
def ar_6{zc:List (Addr×Obj)}{σ:Sg}{s:Shared}{Q:VK}{f:Addr}{sp:Sp}(F:FnX X.prog X.w X.K X.mg X.base c k f fd ps sp)(hr:RoomC c k X.A)(hb:Binds X.K fd ps [])(lk:Lk X EX)
  (I:Inv X zc σ H s) (r:Vals vs us) (h:sp vs H Q (EXE X.K (EX σ))):wpAny (model X.prog X.w) X.A (call (.ref f) us) (EP X zc σ Q) X.xe s:=by
 have hl:us.length=ps.length:=by rw [<-r.length];exact F.len _ _ _ _ h
 have hb':=hb s us I.kIn (by rw [List.append_nil];exact hl);rw [List.append_nil] at hb';refine wpAny_call (codeAny_mono (F.run X.A X.stack s H ⟨us,[]⟩ us vs Q _ hr I.env0 hb' r h) λr s' hq=> ?_);cases r with
 |error e=>exact lk zc σ H s e s' I hq
 |ok fl=>
  cases fl with
  |ret u=>exact I.after hq
  |next=>exact False.elim hq
  |brk=>exact False.elim hq
  |cont=>exact False.elim hq
def Bg(hr:RoomC c k' X.A)(lk:Lk X EX)(h:FnD X.prog X.w X.K X.mg X.base c x k ps F)(ha:AD X EX (e::es) fa)(hk:k<=k':=by decide)(hg:Gl X x:=by rfl)(hdb:(x ==("__debug__" :Str))=false:=by decide)
  (he:starEach (e::es) X.env=(false,eval e X.env)::starEach es X.env:=by rfl) (hpl:(backTo pos (starEach es X.env)).any (·.1)=false:=by rfl):
  ED X EX (.Call (.Name x pp) (e::es) [] pos) (At ps.length F fa):=by
 obtain⟨f,fd,ok,hm,kp,hb⟩:=h;intro zc s σ H Q I q;obtain⟨G,δ,g0,s0,o⟩:=q;refine wpAny_Call_Name_kw (x_4 I hg hm ?_ hdb);have ta:tDa X.K EX fa σ H λvs H1=>Bi X.K ps.length F vs H1 Q (EXE X.K (EX σ)):=by
  refine tDa.seq g0 s0 o λds vs G' H' _ st r o'=> ?_
  split at o'
  ·rename_i hl;refine⟨by rw [r.length];exact hl,G',ds,st.gh,r, ?_⟩;cases q:F ds with
   |ok w=>rw [q] at o';exact o'
   |ex x=>rw [q] at o';exact EXof.in o'
   |no=>rw [q] at o';exact o'.elim
  ·exact o'.elim
 refine callWith_K (h₀:=X.base) I.ok.mod.kin kp (Bh (ha pos zc s σ H _ I ta) λus s1 ⟨vs,H1,I1,r,q⟩=>⟨I1.kIn, ?_⟩) he hpl;exact ar_6 ok (hr.mono hk) hb lk I1 r q
end
inductive Sl where
 |no|sh (d:D)|ow (d:D)|tr (t:Tn)|lk (d:D)|lt (t:Tn)
abbrev SE:=List Sl
inductive Fl where
 |nx (Δ:SE)|rt (w:W)|bk (Δ:SE)|ct (Δ:SE)|ex (x:Xn) (Δ:SE)|no
abbrev FS:=SE->Fl
def Sl.pub:Sl->Option D
 | .sh d=>some d
 |_=>none
def Sl.any:Sl->Option D
 | .sh d=>some d
 | .ow d=>some d
 | .tr t=>some t.d
 | .lk d=>some d
 | .lt t=>some t.d
 | .no=>none
def Sl.give:Sl->Sl
 | .ow d=> .sh d
 | .tr t=> .sh t.d
 |s=>s
def Sl.own:Sl->Option Tn
 | .ow d=>some (Tn.of d)
 | .tr t=>some t
 | .lk d=>some (Tn.of d)
 | .lt t=>some t
 |_=>none
def Bb(Δ:SE):DE:=Δ.map Sl.pub
def Ar(Δ:SE):DE:=Δ.map Sl.any
def gall(Δ:SE):SE:=Δ.map Sl.give
abbrev OS:=Nat->AS
structure HB where
 h:Hp
 b:Nat->Addr
structure Ev(K:Frag)(H0:HB)(G0 G H:Hp)(σ:Sg)(Δ:SE)(A:OS):Prop where
 st:Step G0 H0.h G H
 len:σ.length=Δ.length
 sh:∀(i:Nat) (d:D),Δ[i]? =some (.sh d)->∃v,σ[i]? =some (some v)/\Has K G v d
 ow:∀(i:Nat) (s:Sl) (t:Tn),Δ[i]? =some s->s.own=some t->∃v,σ[i]? =some (some v)/\Ow K G H v t (A i)
 out:∀(i:Nat) (a:Addr),A i a->G a=none/\H0.h a=none/\H a≠none
 dj:∀(i j:Nat) (a:Addr),A i a->A j a->i=j
 lk:∀(i:Nat) (d:D),Δ[i]? =some (.lk d)->σ[i]? =some (some (.ref (H0.b i)))
 lt:∀(i:Nat) (t:Tn),Δ[i]? =some (.lt t)->σ[i]? =some (some (.ref (H0.b i)))
def Fw(G H:Hp)(A:OS):Hp:=Hh G H λb=>∃i,A i b
structure MStep(S:AS)(G H G' H':Hp):Prop where
 hh:∀b o,¬S b->H b=some o->H' b=some o
 al:∀b,H b≠none->H' b≠none
 gh:Same G' H'
 gg:Same G G'
 nw:∀b,G b=none->H b≠none->G' b=none
structure MStep2(S:AS)(G H G' H':Hp):Prop where
 hh:∀b o,¬S b->H b=some o->H' b=some o
 gh:Same G' H'
 gg:Same G G'
 nw:∀b,¬S b->G b=none->H b≠none->G' b=none
def MStep.weak{S:AS}{G H G' H':Hp}(m:MStep S G H G' H'):MStep2 S G H G' H':=⟨m.hh,m.gh,m.gg,λb _=>m.nw b⟩
def Step.m{S:AS}{G H G' H':Hp}(s:Step G H G' H'):MStep S G H G' H':=⟨λb o _ q=>s.hh b o q,λb n z=>n (s.hh.free z),s.gh,s.gg,s.nw⟩
def MStep.andThen{S:AS}{G H G1 H1 G2 H2:Hp}(a:MStep S G H G1 H1)(b:Step G1 H1 G2 H2):MStep S G H G2 H2:=
 ⟨λc o n q=>b.hh c o (a.hh c o n q),λc n z=>a.al c n (b.hh.free z),b.gh,a.gg.trans b.gg,λc e n=>b.nw c (a.nw c e n) (a.al c n)⟩
def MStep.write{S:AS}{G H:Hp}(g:Same G H){a:Addr}(hs:S a)(n:G a=none)(o:HO):MStep S G H G (L2.upd H a o):=
 ⟨λb o' nb q=>by rw [Bm (λz=>nb (by rw [z];exact hs))];exact q,λb nb=>by
  by_cases z:b=a
  ·subst z;rw [Cw];simp
  ·rw [Bm z];exact nb,λb o' q=>by
  by_cases z:b=a
  ·subst z;rw [n] at q;cases q
  ·rw [Bm z];exact g b o' q,Same.refl _,λ_ e _=>e⟩
def setA(A:OS)(i:Nat)(S:AS):OS:=λj=>if j=i then S else A j
def m_2{A:OS}{i:Nat}{S:AS}:setA A i S i=S:=if_pos rfl
def l_9{A:OS}{i j:Nat}{S:AS}(h:j≠i):setA A i S j=A j:=if_neg h
section
variable{K:Frag}{H0:HB}{G0 G H G' H':Hp}{σ:Sg}{Δ:SE}{A:OS}
def Ev.gsh(E:Ev K H0 G0 G H σ Δ A):HasS K G σ (Bb Δ):=⟨by rw [E.len];unfold Bb;rw [List.length_map],λi d q=>by
 unfold Bb at q;rw [List.getElem?_map] at q;cases e:Δ[i]? with
 |none=>rw [e] at q;cases q
 |some z=>
  rw [e] at q;cases z with
  |sh d'=>cases q;exact E.sh i d e
  |_=>cases q⟩
def Ev.aH(E:Ev K H0 G0 G H σ Δ A):Same (Fw G H A) H:=λb o q=>by
 unfold Fw Hh at q
 split at q
 ·exact q
 ·exact E.st.gh b o q
def Ev.aG(E:Ev K H0 G0 G H σ Δ A):Same G (Fw G H A):=λb o q=>by
 unfold Fw Hh
 split
 ·rename_i hb;obtain⟨i,hb⟩:=hb;rw [(E.out i b hb).1] at q;cases q
 ·exact q
def Ev.aStep(E:Ev K H0 G0 G H σ Δ A):Step G0 H0.h (Fw G H A) H:=
 ⟨E.st.hh,E.aH,E.st.gg.trans E.aG,λb n z=>by
  unfold Fw Hh
  split
  ·rename_i hb;obtain⟨i,hb⟩:=hb;exact absurd (E.out i b hb).2.1 z
  ·exact E.st.nw b n z⟩
def Ev.aIn{A:OS}{G H:Hp}{i:Nat}{b:Addr}{o:HO}(hb:A i b)(q:H b=some o):Fw G H A b=some o:=by
 unfold Fw Hh;rw [if_pos ⟨i,hb⟩];exact q
def Ev.gall(E:Ev K H0 G0 G H σ Δ A):HasS K (Fw G H A) σ (Ar Δ):=⟨by rw [E.len];unfold Ar;rw [List.length_map],λi d q=>by
 unfold Ar at q;rw [List.getElem?_map] at q;cases e:Δ[i]? with
 |none=>rw [e] at q;cases q
 |some z=>
  rw [e] at q;cases z with
  |sh d'=>
   cases q;obtain⟨v,e1,r⟩:=E.sh i d e;exact⟨v,e1,r.mono E.aG⟩
  |ow d'=>
   cases q;obtain⟨v,e1,t⟩:=E.ow i _ _ e rfl;have r:=t.has E.aG λb o hb q=>Ev.aIn hb q;rw [Tn.of_d] at r;exact⟨v,e1,r⟩
  |tr t'=>
   cases q;obtain⟨v,e1,t⟩:=E.ow i _ _ e rfl;exact⟨v,e1,t.has E.aG λb o hb q=>Ev.aIn hb q⟩
  |lk d'=>
   cases q;obtain⟨v,e1,t⟩:=E.ow i _ _ e rfl;have r:=t.has E.aG λb o hb q=>Ev.aIn hb q;rw [Tn.of_d] at r;exact⟨v,e1,r⟩
  |lt t'=>
   cases q;obtain⟨v,e1,t⟩:=E.ow i _ _ e rfl;exact⟨v,e1,t.has E.aG λb o hb q=>Ev.aIn hb q⟩
  |no=>cases q⟩
def Ev.grow(E:Ev K H0 G0 G H σ Δ A)(s:Step G H G' H'):Ev K H0 G0 G' H' σ Δ A:=
 ⟨E.st.trans s,E.len,λi d e=>let⟨v,e1,r⟩:=E.sh i d e;⟨v,e1,r.mono s.gg⟩,λi z d e z'=>let⟨v,e1,t⟩:=E.ow i z d e z';⟨v,e1,t.mono s.gg (λb o _ q=>s.hh b o q) λ_ q=>q⟩,
  λi a ha=>let⟨h1,h2,h3⟩:=E.out i a ha;⟨s.nw a h1 h3,h2,λz=>h3 (s.hh.free z)⟩,E.dj,E.lk,E.lt⟩
def Ev.keep(E:Ev K H0 G0 G H σ Δ A)(s:Same H H'):Ev K H0 G0 G H' σ Δ A:=
 E.grow ⟨s,E.st.gh.trans s,Same.refl _,λ_ n _=>n⟩
def Ha{α:Type}{l:List α}{i j:Nat}{x y:α}(h:(l.set i x)[j]? =some y):(i=j/\y=x)\/(i≠j/\l[j]? =some y):=by
 by_cases e:i=j
 ·subst e;rw [List.getElem?_set] at h;simp only [if_true] at h
  split at h
  ·exact .inl ⟨rfl,(Option.some.inj h).symm⟩
  ·cases h
 ·rw [List.getElem?_set_ne e] at h;exact .inr ⟨e,h⟩
def cl_7{α:Type}{l:List α}{i:Nat}{x y:α}(h:(l.set i x)[i]? =some y):i < l.length:=by
 by_cases hh:i < l.length
 ·exact hh
 ·rw [List.getElem?_eq_none (by rw [List.length_set];omega)] at h;cases h
def Ev.put(E:Ev K H0 G0 G H σ Δ A){i:Nat}{d:D}(r:Has K G v d):Ev K H0 G0 G H (σ.set i (some v)) (Δ.set i (.sh d)) A:=by
 refine⟨E.st,by rw [List.length_set,List.length_set];exact E.len,λj d' e=> ?_,λj z d' e zo=> ?_,E.out,E.dj,λj d' e=> ?_,λj d' e=> ?_⟩
 ·rcases Ha e with⟨rfl,q⟩|⟨n,q⟩
  ·cases q;exact⟨v,by rw [List.getElem?_set_self (by rw [E.len];exact cl_7 e)],r⟩
  ·obtain⟨v',e1,r'⟩:=E.sh j d' q;exact⟨v',by rw [List.getElem?_set_ne n];exact e1,r'⟩
 ·rcases Ha e with⟨rfl,q⟩|⟨n,q⟩
  ·subst q;cases zo
  ·obtain⟨v',e1,t⟩:=E.ow j z d' q zo;exact⟨v',by rw [List.getElem?_set_ne n];exact e1,t⟩
 ·rcases Ha e with⟨rfl,q⟩|⟨n,q⟩
  ·cases q
  ·rw [List.getElem?_set_ne n];exact E.lk j d' q
 ·rcases Ha e with⟨rfl,q⟩|⟨n,q⟩
  ·cases q
  ·rw [List.getElem?_set_ne n];exact E.lt j d' q
def Ev.putO(E:Ev K H0 G0 G H σ Δ A){i:Nat}{z:Sl}{d:Tn}{S:AS}(fr:∀a,S a->H0.h a=none/\G a=none/\H a≠none)(zo:z.own=some d)(zl:∀d,z≠ .lk d)(t:Ow K G H v d S)(nw:∀j a,A j a->¬S a)(zt:∀d,z=.lt d->v=.ref (H0.b i):=by intro _ z;cases z):
  Ev K H0 G0 G H (σ.set i (some v)) (Δ.set i z) (setA A i S):=by
 refine⟨E.st,by rw [List.length_set,List.length_set];exact E.len,λj d' e'=> ?_,λj z' d' e' zo'=> ?_,λj a ha=> ?_,λj j' a h1 h2=> ?_,λj d' e'=> ?_,λj d' e'=> ?_⟩
 ·rcases Ha e' with⟨rfl,q⟩|⟨nn,q⟩
  ·subst q;cases zo
  ·obtain⟨v',e1,r'⟩:=E.sh j d' q;exact⟨v',by rw [List.getElem?_set_ne nn];exact e1,r'⟩
 ·rcases Ha e' with⟨rfl,q⟩|⟨nn,q⟩
  ·subst q;rw [zo] at zo';cases zo';exact⟨v,by rw [List.getElem?_set_self (by rw [E.len];exact cl_7 e')],by rw [m_2];exact t⟩
  ·obtain⟨v',e1,x⟩:=E.ow j z' d' q zo';exact⟨v',by rw [List.getElem?_set_ne nn];exact e1,by rw [l_9 (Ne.symm nn)];exact x⟩
 ·by_cases z:j=i
  ·subst z;rw [m_2] at ha;obtain⟨a1,a2,a3⟩:=fr a ha;exact⟨a2,a1,a3⟩
  ·rw [l_9 z] at ha;exact E.out j a ha
 ·by_cases z:j=i
  ·by_cases z':j'=i
   ·rw [z,z']
   ·rw [z,m_2] at h1;rw [l_9 z'] at h2;exact absurd h1 (nw j' a h2)
  ·by_cases z':j'=i
   ·rw [l_9 z] at h1;rw [z',m_2] at h2;exact absurd h2 (nw j a h1)
   ·rw [l_9 z] at h1;rw [l_9 z'] at h2;exact E.dj j j' a h1 h2
 ·rcases Ha e' with⟨rfl,q⟩|⟨nn,q⟩
  ·exact absurd q.symm (zl d')
  ·rw [List.getElem?_set_ne nn];exact E.lk j d' q
 ·rcases Ha e' with⟨rfl,q⟩|⟨nn,q⟩
  ·rw [List.getElem?_set_self (by rw [E.len];exact cl_7 e'),zt d' q.symm]
  ·rw [List.getElem?_set_ne nn];exact E.lt j d' q
def Ev.step2(E:Ev K H0 G0 G H σ Δ A){i:Nat}{z:Sl}{d':Tn}{S:AS}(zo:z.own=some d')(zl:∀d,z≠ .lk d)(zt:∀d,z=.lt d->σ[i]? =some (some (.ref (H0.b i))))(ms:MStep2 (A i) G H G' H')(s:σ[i]? =some (some v))(fr:∀a,S a->(A i a\/H a=none)/\G' a=none/\H' a≠none)(t:Ow K G' H' v d' S):
  Ev K H0 G0 G' H' σ (Δ.set i z) (setA A i S):=by
 have st:Step G0 H0.h G' H':=⟨λb o q=>ms.hh b o (λhb=>by rw [(E.out i b hb).2.1] at q;cases q) (E.st.hh b o q),ms.gh,E.st.gg.trans ms.gg,
  λb n z=>ms.nw b (λhb=>z (E.out i b hb).2.1) (E.st.nw b n z) λq=>z (E.st.hh.free q)⟩
 refine⟨st,by rw [List.length_set];exact E.len,λj d2 e'=> ?_,λj z' d2 e' zo'=> ?_,λj a ha=> ?_,λj j' a h1 h2=> ?_,λj d2 e'=> ?_,λj d2 e'=> ?_⟩
 ·rcases Ha e' with⟨rfl,q⟩|⟨nn,q⟩
  ·subst q;cases zo
  ·obtain⟨v',e1,r'⟩:=E.sh j d2 q;exact⟨v',e1,r'.mono ms.gg⟩
 ·rcases Ha e' with⟨rfl,q⟩|⟨nn,q⟩
  ·subst q;rw [zo] at zo';cases zo';exact⟨v,s,by rw [m_2];exact t⟩
  ·obtain⟨v',e1,x⟩:=E.ow j z' d2 q zo';rw [l_9 (Ne.symm nn)];exact⟨v',e1,x.mono ms.gg (λb o hb q=>ms.hh b o (λhi=>nn (E.dj i j b hi hb)) q) λ_ q=>q⟩
 ·by_cases z:j=i
  ·subst z;rw [m_2] at ha;obtain⟨a1,a2,a3⟩:=fr a ha;refine⟨a2, ?_,a3⟩;rcases a1 with a1|a1
   ·exact(E.out j a a1).2.1
   ·exact E.st.hh.free a1
  ·rw [l_9 z] at ha;obtain⟨h1,h2,h3⟩:=E.out j a ha;have hn:¬A i a:=λhb=>z (E.dj j i a ha hb);refine⟨ms.nw a hn h1 h3,h2,λq=> ?_⟩;cases e:H a with
   |none=>exact h3 e
   |some o=>rw [ms.hh a o hn e] at q;cases q
 ·have own:∀k,k≠i->A k a->¬S a:=λk nk hk hs=>by
   rcases(fr a hs).1 with q|q
   ·exact nk (E.dj k i a hk q)
   ·exact(E.out k a hk).2.2 q
  by_cases z:j=i
  ·by_cases z':j'=i
   ·rw [z,z']
   ·rw [z,m_2] at h1;rw [l_9 z'] at h2;exact absurd h1 (own j' z' h2)
  ·by_cases z':j'=i
   ·rw [l_9 z] at h1;rw [z',m_2] at h2;exact absurd h2 (own j z h1)
   ·rw [l_9 z] at h1;rw [l_9 z'] at h2;exact E.dj j j' a h1 h2
 ·rcases Ha e' with⟨rfl,q⟩|⟨nn,q⟩
  ·exact absurd q.symm (zl d2)
  ·exact E.lk j d2 q
 ·rcases Ha e' with⟨rfl,q⟩|⟨nn,q⟩
  ·exact zt d2 q.symm
  ·exact E.lt j d2 q
def Ev.step(E:Ev K H0 G0 G H σ Δ A){i:Nat}{z:Sl}{d':Tn}{S:AS}(zo:z.own=some d')(zl:∀d,z≠ .lk d)(ms:MStep (A i) G H G' H')(s:σ[i]? =some (some v))(fr:∀a,S a->(A i a\/H a=none)/\G' a=none/\H' a≠none)(t:Ow K G' H' v d' S)(zt:∀d,z≠ .lt d:=by intro _ z;cases z):
  Ev K H0 G0 G' H' σ (Δ.set i z) (setA A i S):=E.step2 zo zl (λd e=>absurd e (zt d)) ms.weak s fr t
def Ev.writeL(E:Ev K H0 G0 G H σ Δ A){i:Nat}{a:Addr}{ds:List D}(s:σ[i]? =some (some (.ref a)))(m:A i a)(r:HasL K G vs ds):Ev K H0 G0 G (upd H a (.lst vs)) σ (Δ.set i (.ow (.lst ds))) (setA A i (A i)):=
 have ms:=MStep.write E.st.gh m (E.out i a m).1 (.lst vs)
 E.step rfl (λ_ z=>by cases z) ms s (λb hb=>⟨.inl hb,(E.out i b hb).1,ms.al b (E.out i b hb).2.2⟩) (Ow.list Cw m r)
def Ev.writeD(E:Ev K H0 G0 G H σ Δ A){i:Nat}{a:Addr}{kvs:List (Au×V)}{kds:List (Au×D)}(s:σ[i]? =some (some (.ref a)))(m:A i a)(hk:kvs.map (·.1)=kds.map (·.1))(r:HasL K G (kvs.map (·.2)) (kds.map (·.2))):Ev K H0 G0 G (upd H a (.dK kvs)) σ (Δ.set i (.ow (.dic kds))) (setA A i (A i)):=
 have ms:=MStep.write E.st.gh m (E.out i a m).1 (.dK kvs)
 E.step rfl (λ_ z=>by cases z) ms s (λb hb=>⟨.inl hb,(E.out i b hb).1,ms.al b (E.out i b hb).2.2⟩) (Ow.dict Cw hk m r)
end
def give1(Δ:SE)(j:Nat):SE:=match Δ[j]? with
 |some s=>Δ.set j s.give
 |none=>Δ
def gsome(js:List Nat)(Δ:SE):SE:=js.foldl give1 Δ
section
variable{K:Frag}{H0:HB}{G0 G H:Hp}{σ:Sg}{Δ:SE}{A:OS}
def ac_3{α:Type}{l:List α}{j:Nat}{x:α}(h:l[j]? =some x):l.set j x=l:=by
 apply List.ext_getElem?;intro i
 by_cases e:j=i
 ·subst e;have hlt:j < l.length:=(List.getElem?_eq_some_iff.mp h).1;rw [List.getElem?_set_self hlt,h]
 ·rw [List.getElem?_set_ne e]
def Ev.give3(E:Ev K H0 G0 G H σ Δ A){j:Nat}{z:Sl}{t:Tn}(e:Δ[j]? =some z)(zo:z.own=some t):Same G (Hh G H (A j))/\Ev K H0 G0 (Hh G H (A j)) H σ (Δ.set j (.sh t.d)) (setA A j λ_=>False):=by
   obtain⟨v,s1,t⟩:=E.ow j z t e zo;have sg:Same G (Hh G H (A j)):=λb o q=>by
    unfold Hh
    split
    ·rename_i hb;rw [(E.out j b hb).1] at q;cases q
    ·exact q
   have gh:Same (Hh G H (A j)) H:=λb o q=>by
    unfold Hh at q
    split at q
    ·exact q
    ·exact E.st.gh b o q
   refine⟨sg,⟨E.st.hh,gh,E.st.gg.trans sg,λb h1 h2=> ?_⟩,by rw [List.length_set];exact E.len,λi d' e'=> ?_,λi z' d' e' zo'=> ?_,λi b hb=> ?_,λi i' b h1 h2=> ?_,λi d' e'=> ?_,λi d' e'=> ?_⟩
   ·unfold Hh
    split
    ·rename_i hb;exact absurd (E.out j b hb).2.1 h2
    ·exact E.st.nw b h1 h2
   ·rcases Ha e' with⟨rfl,q⟩|⟨n,q⟩
    ·cases q;refine⟨v,s1,t.has sg λb o hb q=> ?_⟩;unfold Hh;rw [if_pos hb];exact q
    ·obtain⟨v',e1,r⟩:=E.sh i d' q;exact⟨v',e1,r.mono sg⟩
   ·rcases Ha e' with⟨rfl,q⟩|⟨n,q⟩
    ·subst q;cases zo'
    ·obtain⟨v',e1,t'⟩:=E.ow i z' d' q zo';rw [l_9 (Ne.symm n)];exact⟨v',e1,t'.mono sg (λb o _ q=>q) λ_ q=>q⟩
   ·by_cases z:i=j
    ·subst z;rw [m_2] at hb;exact hb.elim
    ·rw [l_9 z] at hb;obtain⟨k1,k2,k3⟩:=E.out i b hb;refine⟨?_,k2,k3⟩;unfold Hh;rw [if_neg λq=>z (E.dj i j b hb q)];exact k1
   ·by_cases z:i=j
    ·subst z;rw [m_2] at h1;exact h1.elim
    ·by_cases z':i'=j
     ·subst z';rw [m_2] at h2;exact h2.elim
     ·rw [l_9 z] at h1;rw [l_9 z'] at h2;exact E.dj i i' b h1 h2
   ·rcases Ha e' with⟨rfl,q⟩|⟨n,q⟩
    ·cases q
    ·exact E.lk i d' q
   ·rcases Ha e' with⟨rfl,q⟩|⟨n,q⟩
    ·cases q
    ·exact E.lt i d' q
def Ev.give2(E:Ev K H0 G0 G H σ Δ A){j:Nat}{z:Sl}{t:Tn}(e:Δ[j]? =some z)(zo:z.own=some t):∃G' A',Same G G'/\Ev K H0 G0 G' H σ (Δ.set j (.sh t.d)) A':=⟨_,_,E.give3 e zo⟩
theorem Ev.give1(E:Ev K H0 G0 G H σ Δ A)(j:Nat):∃G' A',Same G G'/\Ev K H0 G0 G' H σ (L3.give1 Δ j) A':=by
 unfold L3.give1;cases e:Δ[j]? with
 |none=>exact⟨G,A,Same.refl _,E⟩
 |some s=>
  cases s with
  |no=>exact⟨G,A,Same.refl _,by show Ev K H0 G0 G H σ (Δ.set j .no) A;rw [ac_3 e];exact E⟩
  |sh d=>exact⟨G,A,Same.refl _,by show Ev K H0 G0 G H σ (Δ.set j (.sh d)) A;rw [ac_3 e];exact E⟩
  |ow d=>
   have:=E.give2 e (t:=Tn.of d) rfl;rw [Tn.of_d] at this;exact this
  |tr t=>exact E.give2 e rfl
  |lk d=>exact⟨G,A,Same.refl _,by show Ev K H0 G0 G H σ (Δ.set j (.lk d)) A;rw [ac_3 e];exact E⟩
  |lt t=>exact⟨G,A,Same.refl _,by show Ev K H0 G0 G H σ (Δ.set j (.lt t)) A;rw [ac_3 e];exact E⟩
theorem Ev.gsome:∀(js:List Nat) {G:Hp} {Δ:SE} {A:OS},Ev K H0 G0 G H σ Δ A->∃G' A',Same G G'/\Ev K H0 G0 G' H σ (L3.gsome js Δ) A'
 | [],G,Δ,A,E=>⟨G,A,Same.refl _,E⟩
 |j::js,G,Δ,A,E=>by
  obtain⟨G1,A1,s1,E1⟩:=E.give1 j;obtain⟨G2,A2,s2,E2⟩:=Ev.gsome js E1;exact⟨G2,A2,s1.trans s2,E2⟩
end
def Fin(K:Frag)(EX:Bq)(H0:HB)(G0 G1:Hp)(D:Ends):Fl->Prop
 | .nx Δ=>∀σ G H O,Ev K H0 G0 G H σ Δ O->Same G1 G->D.nx σ H
 | .bk Δ=>∀σ G H O,Ev K H0 G0 G H σ Δ O->Same G1 G->D.bk σ H
 | .ct Δ=>∀σ G H O,Ev K H0 G0 G H σ Δ O->Same G1 G->D.ct σ H
 | .rt w=>WP K G0 H0.h w D.rt
 | .ex x Δ=>∀σ G H O,Ev K H0 G0 G H σ Δ O->Same G1 G->(EX σ).p x G H
 | .no=>False
def Fin.mono{EX:Bq}{H0:HB}{G0 G1 G2:Hp}{D:Ends}{r:Fl}(s:Same G1 G2)(h:Fin K EX H0 G0 G1 D r):Fin K EX H0 G0 G2 D r:=by
 cases r with
 |nx Δ=>exact λ σ G H O E q=>h σ G H O E (s.trans q)
 |bk Δ=>exact λ σ G H O E q=>h σ G H O E (s.trans q)
 |ct Δ=>exact λ σ G H O E q=>h σ G H O E (s.trans q)
 |rt w=>exact h
 |ex x Δ=>exact λ σ G H O E q=>h σ G H O E (s.trans q)
 |no=>exact h
def tS(K:Frag)(EX:Bq)(g:FS):TS:=λD σ H=>∃H0 G0 G Δ O,Ev K H0 G0 G H σ Δ O/\Fin K EX H0 G0 G D (g Δ)
abbrev SD(X:Cx)(EX:Bq)(st:Stmt)(g:FS):Prop:=PS X st (tS X.K EX g)
abbrev BD(X:Cx)(EX:Bq)(st:List Stmt)(g:FS):Prop:=PSs X st (tS X.K EX g)
section
variable{X:Cx}{EX:Bq}{st:Stmt}{sts:List Stmt}{g h:FS}{pos:Pos}{e:Expr}{f:FE}{p:FT}
def Bf:FS:=λ Δ=> .nx Δ
noncomputable def Af(g h:FS):FS:=λ Δ=>match g Δ with
 | .nx Δ'=>h Δ'
 |r=>r
def Dc:BD X EX [] Bf:=PSs.imp dp_1 λD σ H ⟨H0,G0,G,Δ,O,E,q⟩=>q σ G H O E (Same.refl _)
def Ap(h1:SD X EX st g):BD X EX [st] g:=aq_7 h1
def Aq(h1:SD X EX st g)(h2:BD X EX sts h):BD X EX (st::sts) (Af g h):=
 PSs.imp (dc_7 h1 h2) λD σ H ⟨H0,G0,G,Δ,O,E,q⟩=>by
  refine⟨H0,G0,G,Δ,O,E, ?_⟩;unfold Af at q;cases e:g Δ with
  |nx Δ'=>rw [e] at q;exact λ σ' G' H' O' E' sm=>⟨H0,G0,G',Δ',O',E',Fin.mono sm q⟩
  |bk Δ'=>rw [e] at q;exact q
  |ct Δ'=>rw [e] at q;exact q
  |rt w=>rw [e] at q;exact q
  |ex x Δ'=>rw [e] at q;exact q
  |no=>rw [e] at q;exact q
def exG(js:List Nat)(f:FE)(Δ:SE):Fl:=match f (Bb (gsome js Δ)) with
 | .ex x=> .ex x (gsome js Δ)
 |_=> .no
def exT(js:List Nat)(p:FT)(Δ:SE):Fl:=match p (Bb (gsome js Δ)) with
 | .ex x=> .ex x (gsome js Δ)
 |_=> .no
def cb_3{H0:HB}{G0 G G1 H:Hp}{σ:Sg}{Δ:SE}{O:OS}{D:Ends}{js:List Nat}{Q:VK}(E:Ev K H0 G0 G H σ Δ O)(sg:Same G1 G)(q:Fin K EX H0 G0 G1 D (exG js f Δ)):tD K EX f σ H Q:=by
 obtain⟨G',O',s',E'⟩:=E.gsome js;refine⟨G',Bb (gsome js Δ),E'.st.gh,E'.gsh, ?_⟩;unfold exG at q;cases e:f (Bb (gsome js Δ)) with
 |ok w=>rw [e] at q;exact q.elim
 |ex x=>rw [e] at q;exact q σ G' H O' E' (sg.trans s')
 |no=>rw [e] at q;exact q.elim
def dg_2{H0:HB}{G0 G G1 H:Hp}{σ:Sg}{Δ:SE}{O:OS}{D:Ends}{js:List Nat}{Q:Bool->Hp->Prop}(E:Ev K H0 G0 G H σ Δ O)(sg:Same G1 G)(q:Fin K EX H0 G0 G1 D (exT js p Δ)):tDt K EX p σ H Q:=by
 obtain⟨G',O',s',E'⟩:=E.gsome js;refine⟨G',Bb (gsome js Δ),E'.st.gh,E'.gsh, ?_⟩;unfold exT at q;cases e:p (Bb (gsome js Δ)) with
 |ok w=>rw [e] at q;exact q.elim
 |ex x=>rw [e] at q;exact q σ G' H O' E' (sg.trans s')
 |no=>rw [e] at q;exact q.elim
noncomputable def Ao(js:List Nat)(f:FE):FS:=λ Δ=>match f (Ar Δ) with
 | .ok w=> .rt w
 | .ex _=>exG js f Δ
 | .no=> .no
def Bk(js:List Nat)(he:ED X EX e f):SD X EX (.Return (some e) pos) (Ao js f):=
 PS.imp (cj_5 he) λD σ H ⟨H0,G0,G,Δ,O,E,q⟩=>by
  unfold Ao at q;cases e1:f (Ar Δ) with
  |ok w=>
   rw [e1] at q;exact⟨Fw G H O,Ar Δ,E.aH,E.gall,by rw [e1];exact WP.mono E.aStep q⟩
  |ex x=>rw [e1] at q;exact cb_3 E (Same.refl _) q
  |no=>rw [e1] at q;exact q.elim
def Bz(i:Nat):FS:=λ Δ=>match Δ[i]? with
 |some (.sh d)=> .rt (.sh d)
 |some (.ow d)=> .rt (.ow d)
 |some (.tr t)=> .rt (.tr t)
 |_=> .no
def p_4(i:Nat){x:Str}{pos pos':Pos}(hN:X.N[i]? =some x:=by rfl)(hv:Hk X.env.scope x:=by first|exact Or.inl rfl|exact Or.inr (Or.inl rfl)|exact Or.inr (Or.inr rfl))(hd:(x ==("__debug__" :Str))=false:=by decide)
  (hcd:(x ==("__classdict__" :Str))=false:=by decide):SD X EX (.Return (some (.Name x pos)) pos') (Bz i):=
 PS.imp (cj_5 (Fu hN hv hd hcd)) λD σ H ⟨H0,G0,G,Δ,O,E,q⟩=>by
  unfold Bz at q
  split at q
  ·rename_i d e;obtain⟨v,e1,r⟩:=E.sh i d e;exact⟨v,e1,(WP.mono (w:=.sh d) (Q:=D.rt) E.st q).use E.st.gh r⟩
  ·rename_i d e;obtain⟨v,e1,t⟩:=E.ow i _ _ e rfl;exact⟨v,e1,q v (O i) G H E.st (λa ha=>let⟨h1,h2,h3⟩:=E.out i a ha;⟨h2,h1,h3⟩) t⟩
  ·rename_i d e;obtain⟨v,e1,t⟩:=E.ow i _ _ e rfl;exact⟨v,e1,q v (O i) G H E.st (λa ha=>let⟨h1,h2,h3⟩:=E.out i a ha;⟨h2,h1,h3⟩) t⟩
  ·exact q.elim
def Ei(i:Nat)(Δ:SE):R W->Fl
 | .ok (.sh d)=> .nx (Δ.set i (.sh d))
 | .ok (.ow d)=> .nx (Δ.set i (.ow d))
 | .ok (.tr t)=> .nx (Δ.set i (.tr t))
 | .ex x=> .ex x Δ
 | .no=> .no
noncomputable def Ag(i:Nat)(js:List Nat)(f:FE):FS:=λ Δ=>match f (Bb Δ) with
 | .ok (.sh d)=> .nx (Δ.set i (.sh d))
 | .ok (.ow d)=> .nx (Δ.set i (.ow d))
 | .ok (.tr t)=> .nx (Δ.set i (.tr t))
 | .ex x=> .ex x Δ
 | .no=>match f (Ar Δ) with
  | .ex _=>Ei i (gsome js Δ) (f (Bb (gsome js Δ)))
  | .no=> .no
  | .ok w=>if Ba w.d=true then .nx (Δ.set i (.sh w.d)) else Ei i (gsome js Δ) (f (Bb (gsome js Δ)))
def bc_5{H0:HB}{G0 G G1 H:Hp}{σ:Sg}{Δ:SE}{O:OS}{D:Ends}{i:Nat}(E:Ev K H0 G0 G H σ Δ O)(sg:Same G1 G)
  (q:Fin K EX H0 G0 G1 D (Ei i Δ (f (Bb Δ)))):tAsg (tD K EX f) (cp_9 i) D σ H:=by
 refine⟨G,Bb Δ,E.st.gh,E.gsh, ?_⟩;unfold Ei at q;cases e1:f (Bb Δ) with
 |ok w=>
  rw [e1] at q;cases w with
  |sh d=>exact λv G' H' st r=>q _ G' H' O ((E.grow st).put r) (sg.trans st.gg)
  |ow d=>
   intro v S G' H' st fr t;exact q _ G' H' _ ((E.grow st).putO (λa ha=>⟨E.st.hh.free (fr a ha).1,(fr a ha).2⟩) rfl (λ_ z=>by cases z) t λj a hj hs=>(E.out j a hj).2.2 (fr a hs).1) (sg.trans st.gg)
  |tr d=>
   intro v S G' H' st fr t;exact q _ G' H' _ ((E.grow st).putO (λa ha=>⟨E.st.hh.free (fr a ha).1,(fr a ha).2⟩) rfl (λ_ z=>by cases z) t λj a hj hs=>(E.out j a hj).2.2 (fr a hs).1) (sg.trans st.gg)
 |ex x=>rw [e1] at q;exact q σ G H O E sg
 |no=>rw [e1] at q;exact q
def cb_4{D:Ends}{σ:Sg}{i:Nat}{js:List Nat}(q:tS K EX (Ag i js f) D σ H):tAsg (tD K EX f) (cp_9 i) D σ H:=by
 obtain⟨H0,G0,G,Δ,O,E,q⟩:=q;unfold Ag at q;cases e1:f (Bb Δ) with
 |ok w=>
  rw [e1] at q;refine bc_5 E (Same.refl _) ?_;unfold Ei;rw [e1];cases w <;> exact q
 |ex x=>
  rw [e1] at q;refine bc_5 E (Same.refl _) ?_;unfold Ei;rw [e1];exact q
 |no=>
  rw [e1] at q;cases e2:f (Ar Δ) with
  |ok w=>
   simp only [e2] at q
   split at q
   ·rename_i fl;refine⟨Fw G H O,Ar Δ,E.aH,E.gall, ?_⟩;rw [e2];exact WP.intro λv G' H' st r=>q _ G H' O ((E.keep st.hh).put (r.ofFl fl)) (Same.refl _)
   ·obtain⟨G',O',sg,E'⟩:=E.gsome js;exact bc_5 E' sg q
  |ex x=>
   simp only [e2] at q;obtain⟨G',O',sg,E'⟩:=E.gsome js;exact bc_5 E' sg q
  |no=>simp only [e2] at q;exact q.elim
def Bj{i:Nat}(js:List Nat){x:Str}{pos':Pos}(he:ED X EX e f)(hN:X.N.Nodup)(hi:X.N[i]? =some x:=by rfl)(hx:Loc X.env.scope x:=by first|exact Or.inl rfl|exact Or.inr rfl)(hs:swapsWith e (some (.Name x pos')) pos.line X.env=pure false:=by rfl)
  (hf:X.fn x=true\/X.env.scope.names.lookup x=some .local:=by first|exact .inl rfl|exact .inr rfl|assumption):SD X EX (.Assign [.Name x pos'] e pos) (Ag i js f):=
 PS.imp (cj_7 hN hi hx he hs hf) λD σ H q=>cb_4 q
def Cl(js:List Nat)(f:FE):FS:=λ Δ=>match f (Ar Δ) with
 | .ok _=> .nx Δ
 | .ex _=>exG js f Δ
 | .no=> .no
def ak_9(js:List Nat)(he:ED X EX e f)(hs:swapsWith e none pos.line X.env=pure false:=by rfl):SD X EX (.Expr e pos) (Cl js f):=
 PS.imp (ak_8 he hs) λD σ H ⟨H0,G0,G,Δ,O,E,q⟩=>by
  unfold Cl at q;cases e1:f (Ar Δ) with
  |ok w=>
   rw [e1] at q;exact⟨Fw G H O,Ar Δ,E.aH,E.gall,by rw [e1];exact WP.intro λv G' H' st r=>q σ G H' O (E.keep st.hh) (Same.refl _)⟩
  |ex x=>rw [e1] at q;exact cb_3 E (Same.refl _) q
  |no=>rw [e1] at q;exact q.elim
def Bv(js:List Nat)(p:FT)(g h:FS):FS:=λ Δ=>match p (Ar Δ) with
 | .ok b=>if b=true then g Δ else h Δ
 | .ex _=>exT js p Δ
 | .no=> .no
def bo_8{H0:HB}{G0 G H:Hp}{σ:Sg}{Δ:SE}{O:OS}{D:Ends}{k:Bool->Fl}{P:Bool->Hp->Prop}{js:List Nat}(E:Ev K H0 G0 G H σ Δ O)
  {G1:Hp} (sg:Same G1 G) (q:Fin K EX H0 G0 G1 D (match p (Ar Δ) with| .ok b=>k b| .ex _=>exT js p Δ| .no=> .no)) (i:∀b H',p (Ar Δ)=.ok b->Ev K H0 G0 G H' σ Δ O->Fin K EX H0 G0 G1 D (k b)->P b H'):tDt K EX p σ H P:=by
 cases e1:p (Ar Δ) with
 |ok b=>rw [e1] at q;exact⟨Fw G H O,Ar Δ,E.aH,E.gall,by rw [e1];exact λG' H' st=>i b H' e1 (E.keep st.hh) q⟩
 |ex x=>rw [e1] at q;exact dg_2 E sg q
 |no=>rw [e1] at q;exact q.elim
def Cq(js:List Nat){c:Expr}{as bs:List Stmt}(hc:TD X EX c p)(ha:BD X EX as g)(hb:BD X EX bs h):SD X EX (.If c as bs pos) (Bv js p g h):=
 PS.imp (ej_4 hc ha hb) λD σ H ⟨H0,G0,G,Δ,O,E,q⟩=>bo_8 (k:=λb=>if b=true then g Δ else h Δ) E (Same.refl _) q λb H' _ E' q'=>by
  cases b with
  |true=>rw [if_pos rfl];exact⟨H0,G0,G,Δ,O,E',q'⟩
  |false=>rw [if_neg Bool.false_ne_true];exact⟨H0,G0,G,Δ,O,E',q'⟩
def Gy(js:List Nat)(p:FT)(g:FS):Nat->FS
 |0=>λ_=> .no
 |n + 1=>λ Δ=>match p (Ar Δ) with
  | .ok b=>if b=true then(match g Δ with
    | .nx Δ'=>Gy js p g n Δ'
    | .ct Δ'=>Gy js p g n Δ'
    | .bk Δ'=> .nx Δ'
    |r=>r) else .nx Δ
  | .ex _=>exT js p Δ
  | .no=> .no
def cb_5(js:List Nat)(n:Nat){c:Expr}{body:List Stmt}(hp:PassesOwn (model X.prog X.w) X.A X.env X.xe)(hc:TD X EX c p)(hb:BD X EX body g):SD X EX (.While c body [] pos) (Gy js p g n):=
 PS.imp (dd_0 hp hc hb) λD σ H ⟨H0,G0,G1,Δ,O,E,q⟩=>by
  refine⟨λm σ H=>∃G Δ O,Ev X.K H0 G0 G H σ Δ O/\Same G1 G/\Fin X.K EX H0 G0 G1 D (Gy js p g m Δ),⟨n,G1,Δ,O,E,Same.refl _,q⟩, ?_⟩
  rintro m σ H ⟨G,Δ,O,E,sg,q⟩
  cases m with
  |zero=>exact False.elim q
  |succ m=>
   refine bo_8 (k:=λb=>if b=true then(match g Δ with| .nx Δ'=>Gy js p g m Δ'| .ct Δ'=>Gy js p g m Δ'| .bk Δ'=> .nx Δ'|r=>r) else .nx Δ) E sg q λb H' _ E' q'=> ?_;cases b with
   |false=>rw [if_neg Bool.false_ne_true];exact q' σ G H' O E' sg
   |true=>
    rw [if_pos rfl];rw [if_pos rfl] at q';refine⟨λ σ' H'=>∃G Δ O,Ev X.K H0 G0 G H' σ' Δ O/\Same G1 G/\Fin X.K EX H0 G0 G1 D (Gy js p g m Δ),λ σ' H' w=>⟨m,Nat.lt_succ_self _,w⟩,H0,G0,G,Δ,O,E', ?_⟩;cases e1:g Δ with
    |nx Δ'=>rw [e1] at q';exact λ σ' G' H' O' E2 s2=>⟨G',Δ',O',E2,sg.trans s2,q'⟩
    |ct Δ'=>rw [e1] at q';exact λ σ' G' H' O' E2 s2=>⟨G',Δ',O',E2,sg.trans s2,q'⟩
    |bk Δ'=>rw [e1] at q';exact Fin.mono (r:=.nx Δ') sg q'
    |rt w=>rw [e1] at q';exact q'
    |ex x Δ'=>rw [e1] at q';exact Fin.mono (r:=.ex x Δ') sg q'
    |no=>rw [e1] at q';exact q'
end
def Ay(n:Nat)(ds:List D):SE:=ds.map Sl.sh ++ List.replicate (n - ds.length) .no
noncomputable def Ak(n:Nat)(g:FS)(ds:List D):R W:=match g (Ay n ds) with
 | .nx _=> .ok (.sh .non)
 | .rt w=> .ok w
 | .ex x _=> .ex x
 |_=> .no
def dg_3{G H:Hp}{ds:List D}{N:List Str}(g:Same G H)(r:HasL K G vs ds):Ev K ⟨H,λ_=>0⟩ G G H (Hb N vs) (Ay N.length ds) (λ_ _=>False):=by
 refine⟨Step.refl g, ?_,λi d e=> ?_,λi z d e zo=> ?_,λ_ _ ha=>ha.elim,λ_ _ _ ha=>ha.elim,λi d e=> ?_,λi d e=> ?_⟩
 ·unfold Hb Ay;simp only [List.length_append,List.length_map,List.length_replicate,r.length]
 ·unfold Ay at e
  by_cases hi:i < ds.length
  ·rw [List.getElem?_append_left (by rw [List.length_map];exact hi),List.getElem?_map] at e;cases q:ds[i]? with
   |none=>rw [q] at e;cases e
   |some d'=>
    rw [q] at e;cases e;obtain⟨v,e1,h⟩:=r.get q;refine⟨v, ?_,h⟩;unfold Hb;rw [List.getElem?_append_left (by rw [List.length_map,r.length];exact hi),List.getElem?_map,e1];rfl
  ·rw [List.getElem?_append_right (by rw [List.length_map];omega),List.getElem?_replicate] at e
   split at e <;> cases e
 ·exfalso;unfold Ay at e
  by_cases hi:i < ds.length
  ·rw [List.getElem?_append_left (by rw [List.length_map];exact hi),List.getElem?_map] at e;cases q:ds[i]? with
   |none=>rw [q] at e;cases e
   |some d'=>rw [q] at e;cases e;cases zo
  ·rw [List.getElem?_append_right (by rw [List.length_map];omega),List.getElem?_replicate] at e
   split at e
   ·cases e;cases zo
   ·cases e
 ·exfalso;unfold Ay at e
  by_cases hi:i < ds.length
  ·rw [List.getElem?_append_left (by rw [List.length_map];exact hi),List.getElem?_map] at e;cases q:ds[i]? with
   |none=>rw [q] at e;cases e
   |some d'=>rw [q] at e;cases e
  ·rw [List.getElem?_append_right (by rw [List.length_map];omega),List.getElem?_replicate] at e
   split at e <;> cases e
 ·exfalso;unfold Ay at e
  by_cases hi:i < ds.length
  ·rw [List.getElem?_append_left (by rw [List.length_map];exact hi),List.getElem?_map] at e;cases q:ds[i]? with
   |none=>rw [q] at e;cases e
   |some d'=>rw [q] at e;cases e
  ·rw [List.getElem?_append_right (by rw [List.length_map];omega),List.getElem?_replicate] at e
   split at e <;> cases e
def fn_D{c:Bool}{w:World}{x qual:Str}{st:Stmt}{f:Addr}{N ps:List Str}{k:Nat}{g:FS}(F:Fun K x qual st f fd)(S:FnScope N ps (Cn st))
  (zh:∀(zn:Value) (A:Around) (outer:List Env) (s:Shared) (H:Hp) (E:XK),RoomC c k (A.deeper (envOfC qual (Cn st) s.heap.objs.size f zn))->
   BD (cxN c P w K mg base N qual (Cn st) f zn A outer s H E) (λ_=>EXof K E) (Fs st) g):FnX P w K mg base c (k + 1) f fd ps (Bi K ps.length (Ak N.length g)):=by
 refine Fun.okX F S (λvs H Q E h=>h.1) λzn A outer s H vs Q E hr h=>⟨_,zh zn A outer s H E hr, ?_⟩;obtain⟨hl,G,ds,g0,r,o⟩:=h;refine⟨⟨H,λ_=>0⟩,G,G,_,_,dg_3 g0 r, ?_⟩;unfold Ak at o;cases e:g (Ay N.length ds) with
 |nx Δ=>rw [e] at o;exact λ σ G' H' O E' _=>(WP.mono (w:=.sh .non) (Q:=Q) E'.st o).use E'.st.gh .non
 |rt w=>rw [e] at o;exact o
 |ex x Δ=>rw [e] at o;exact λ σ G' H' O E' _=>(EXof K E).mono _ _ _ _ _ E'.st o
 |bk Δ=>rw [e] at o;exact o.elim
 |ct Δ=>rw [e] at o;exact o.elim
 |no=>rw [e] at o;exact o
def ed_8{c:Bool}{w:World}{x:Str}{st:Stmt}{f:Addr}{ps:List Str}{k:Nat}{Fn:List D->R W}(F:Fun K x x st f fd)(hm:mg x=some (.ref f))(hb:Binds K fd ps [])
  (ok:FnX P w K mg base c k f fd ps (Bi K ps.length Fn)):FnD P w K mg base c x k ps Fn:=⟨f,fd,ok,hm,F.kp,hb⟩
def dg_4(x:Str):It:=⟨λi _=>i < x.cps.size,λi H v H'=>H'=H/\∃c,x.cps[i]? =some c/\v=.str ⟨#[c]⟩,λi _=>i=x.cps.size⟩
def cl_8{w:World}{tg:Expr}{it:Addr}{n:Nat}{Pv:Nat->Value->Prop}{St:Nat->Heap->Prop}{J:It}
  (W:∀A':Around,A'.handled=none->Walks P w A' it [it] [it] n Pv St)
  (az:∀i h,St i h->∃o nm vs,h.get? it=some o/\o.cls=.type nm/\o.data=.fields vs/\ ["enumerate","zip","dict_itemiterator","dict_reverseitemiterator","odict_iterator","itertools.zip_longest","itertools.pairwise"].contains nm=false)
  (cw:∀(i:Nat) (h h':Heap),St i h->(∀b∈ [it],∀o,h.get? b=some o->h'.get? b=some o)->St i h') (bq:∀(A:Around) (i:Nat) (s:Shared) (Q E:Value->Shared->Prop),St i s.heap->Q (.ref it) s->wpAny (model P w) A (pyIter (.ref it)) Q E s)
  (hgo:∀i H,J.go i H->i < n) (hst:∀i H,J.stop i H->i=n) (hy:∀i H u,Pv i u->∃x,RelV x u/\J.yld i H x H):Turn P w K tg J [it] it St where
 mem:=by simp
 obj:=λi h st b hb=>by
  have e:b=it:=by simpa using hb
  subst e;obtain⟨o,nm,vs,e,c,d,_⟩:=az i h st;exact⟨o,e,λv z=>by rw [d] at z;cases z⟩
 keep:=cw
 item:=by
  intro X hP hw hK hc i zc s σ H E I hf st hg;subst hP hw hK;obtain⟨f0,f1,f2,f3,f4,f5⟩:=hf it (by simp);refine(W X.A (I.ok.hd hc)).item i s _ _ (hgo i H hg) st λv h' tk hv st' kk=> ?_;have I1:Inv X zc σ H {s with heap:=h',toks:=tk}:=I.turned (λb o hb e=>kk b o (by simpa using hb) e) f0 f1 f3 f4 f5;obtain⟨x,rx,yx⟩:=hy i H v hv;obtain⟨o,nm,vs,e,c,d,hn⟩:=az (i + 1) h' st';exact⟨v,rfl,bn_2 (s:={s with heap:=h',toks:=tk}) e c d hn ⟨x,H,I1,rx,yx,st',λb hb=>(hf b hb).1⟩⟩
 done:=by
  intro X hP hw hK hc i zc s σ H E I hf st hg;subst hP hw hK;obtain⟨f0,f1,f2,f3,f4,f5⟩:=hf it (by simp);obtain rfl:=hst i H hg;exact(W X.A (I.ok.hd hc)).done s _ _ st λh' tk kk=>⟨rfl,I.turned (λb o hb e=>kk b o (by simpa using hb) e) f0 f1 f3 f4 f5⟩
 self:=bq
def ItD(K:Frag)(G1:Hp)(J:It)(ds:List D):Prop:=∀G H,Same G1 G->Same G H->∀i,
 (∀d,ds[i]? =some d->J.go i H/\∀x H',J.yld i H x H'->∃G',Step G H G' H'/\Has K G' x d)/\(ds.length=i->J.stop i H)
abbrev FI:=DE->R (List D)
def tI(K:Frag)(EX:Bq)(fi:FI):TI:=λ σ H Q=>∃G δ,Same G H/\HasS K G σ δ/\match fi δ with
 | .ok ds=>∀J G' H',Step G H G' H'->ItD K G' J ds->Q J H'
 | .ex x=>(EX σ).p x G H
 | .no=>False
abbrev ID(X:Cx)(EX:Bq)(tg iter:Expr)(fi:FI):Prop:=PI X tg iter (tI X.K EX fi)
def PI.imp{tg e:Expr}{t t':TI}(h:PI X tg e t)(i:∀σ H Q,t' σ H Q->t σ H Q):PI X tg e t':=λzc s σ H Q I q=>h zc s σ H Q I (i σ H Q q)
section
variable{X:Cx}{EX:Bq}{tg e a b:Expr}{f:FE}{fa:FA}{p pos:Pos}
def tDa.seqI{G H:Hp}{σ:Sg}{δ:DE}{k:List D->R (List D)}{Q:It->Hp->Prop}{P:List V->Hp->Prop}(g:Same G H)(s:HasS K G σ δ)
  (h:match(fa δ).bind k with| .ok ds=>∀J G' H',Step G H G' H'->ItD K G' J ds->Q J H'| .ex x=>(EX σ).p x G H| .no=>False)
  (i:∀ds vs G' H',Step G H G' H'->HasL K G' vs ds->(match k ds with| .ok ds=>∀J G2 H2,Step G' H' G2 H2->ItD K G2 J ds->Q J H2| .ex x=>(EX σ).p x G' H'| .no=>False)->P vs H'):tDa K EX fa σ H P:=by
 refine⟨G,δ,g,s, ?_⟩;cases e:fa δ with
 |ok ds=>
  rw [e] at h;simp only [R.bind_ok] at h;refine λvs G' H' st r=>i ds vs G' H' st r ?_;cases e2:k ds with
  |ok ds'=>rw [e2] at h;exact λJ G2 H2 st2 it=>h J G2 H2 (st.trans st2) it
  |ex x=>rw [e2] at h;exact(EX σ).mono _ _ _ _ _ st h
  |no=>rw [e2] at h;exact h
 |ex x=>rw [e] at h;exact h
 |no=>rw [e] at h;exact h
def Cc(lo:Int)(n:Nat):List D:=(List.range n).map λ(k:Nat)=>D.int (lo + (k:Int))
def av_1{lo:Int}{n i:Nat}{d:D}(h:(Cc lo n)[i]? =some d):i < n/\d=.int (lo + (i:Int)):=by
 unfold Cc at h;rw [List.getElem?_map] at h
 by_cases hi:i < n
 ·rw [List.getElem?_range hi] at h;cases h;exact⟨hi,rfl⟩
 ·rw [List.getElem?_eq_none (by rw [List.length_range];omega)] at h;cases h
def m_3(lo:Int)(n:Nat):(Cc lo n).length=n:=by unfold Cc;rw [List.length_map,List.length_range]
def cx_7{G:Hp}(lo:Int)(n:Nat):ItD K G (Itr lo n) (Cc lo n):=λG' H _ g i=>by
 refine⟨λd e=> ?_,λe=> ?_⟩
 ·obtain⟨hi,rfl⟩:=av_1 e;refine⟨hi,λx H' y=> ?_⟩;obtain⟨e1,e2⟩:=y;subst e1 e2;exact⟨G',Step.refl g,.int _⟩
 ·rw [m_3] at e;exact Nat.le_of_eq e
def Co:List D->R (List D)
 | [.int j]=>if j.natAbs < 4611686018427387904 then .ok (Cc 0 j.toNat) else .no
 |_=> .no
def Ax(k:List D->R (List D))(fa:FA):FI:=λ δ=>(fa δ).bind k
def k_0(hm:X.mg "range" =none)(ha:AD X EX [a] fa)(hg:Gl X "range" :=by rfl)(hs:starEach [a] X.env= [(false,eval a X.env)]:=by rfl):ID X EX tg (.Call (.Name "range" p) [a] [] pos) (Ax Co fa):=
 PI.imp (cv_7 hg hm ha hs) λ σ H Q ⟨G,δ,g0,s0,o⟩=>tDa.seqI g0 s0 o λds vs G' H' st r o'=>by
  cases r with
  |nil=>exact False.elim o'
  |cons h t=>
   cases t with
   |cons _ _=>cases h <;> exact False.elim o'
   |nil=>
    cases h with
    |int j=>
     by_cases hc:j.natAbs < 4611686018427387904
     ·rw [show Co [.int j]=.ok (Cc 0 j.toNat) from if_pos hc] at o';exact⟨j,rfl,by omega,by omega,o' _ G' H' (Step.refl st.gh) (cx_7 0 j.toNat)⟩
     ·rw [show Co [.int j]=.no from if_neg hc] at o';exact o'.elim
    |_=>exact False.elim o'
def Gd(x:Str):List D:=x.cps.toList.map λc=> .str ⟨#[c]⟩
def Gh:D->R (List D)
 | .lst ds=> .ok ds
 | .tup ds=> .ok ds
 | .str x=> .ok (Gd x)
 |_=> .no
def Db(f:FE):FI:=λ δ=>(f δ).bind λw=>Gh w.d
def iAny(K:Frag)(tl:TE):TI:=λ σ H Q=>tl σ H λx H1=>
 (∃a,x=.ref a/\(∃xs,SqL K H1 a xs)/\Q (Itl K a) H1)\/(∃a,x=.ref a/\(∃xs,SqT K H1 a xs)/\Q (Itt K a) H1)\/(∃z,x=.str z/\Q (dg_4 z) H1)
def ed_9{l:Expr}{tl:TE}(hl:PE X l tl):PI X tg l (iAny X.K tl):=by
 intro zc s σ H Q I h;refine Bh (hl zc s σ H _ I h) λv s1 ⟨x,H1,I1,r1,q1⟩=> ?_;rcases q1 with⟨a,e,⟨xs,hq⟩,q⟩|⟨a,e,⟨xs,hq⟩,q⟩|⟨z,e,q⟩
 ·subst e;cases r1;obtain⟨its,rv,p,hz⟩:=I1.list hq;refine wpAny_pyIter_list p.isList ?_;refine⟨s1.heap.objs.size,[s1.heap.objs.size],_,_,H1,rfl,I1.kept (t':=s1.toks) λb o e=>Heap.get?_push_of_some _ e,cv_6 a _,⟨_,Heap.get?_push_size _ rfl,rfl,rfl⟩,λb hb=> ?_,q⟩;have e:b=s1.heap.objs.size:=by simpa using hb
  subst e;exact I1.fpOk (Nat.le_refl _) (I1.hok.fresh (Nat.le_refl _))
 ·subst e;cases r1;obtain⟨its,rv,p,hz⟩:=I1.tuple hq;refine wpAny_pyIter_tuple (show s1.heap.IsTuple a its.toArray from p) ?_;refine⟨s1.heap.objs.size,[s1.heap.objs.size],_,_,H1,rfl,I1.kept (t':=s1.toks) λb o e=>Heap.get?_push_of_some _ e,cj_8 a _,⟨_,Heap.get?_push_size _ rfl,rfl,rfl⟩,λb hb=> ?_,q⟩;have e:b=s1.heap.objs.size:=by simpa using hb
  subst e;exact I1.fpOk (Nat.le_refl _) (I1.hok.fresh (Nat.le_refl _))
 ·subst e;obtain⟨t,rfl⟩:=r1;have fin:∀(nm:String) (St:Nat->Heap->Prop),(∀i h,St i h↔h.IsStrIter s1.heap.objs.size nm z t i)->(∀A':Around,A'.handled=none->Walks X.prog X.w A' s1.heap.objs.size [s1.heap.objs.size] [s1.heap.objs.size] z.cps.size (SignAt z) St)->
    ["enumerate","zip","dict_itemiterator","dict_reverseitemiterator","odict_iterator","itertools.zip_longest","itertools.pairwise"].contains nm=false->
    (∀(A:Around) (i:Nat) (s:Shared) (Q E:Value->Shared->Prop),s.heap.IsStrIter s1.heap.objs.size nm z t i->Q (.ref s1.heap.objs.size) s->wpAny (model X.prog X.w) A (pyIter (.ref s1.heap.objs.size)) Q E s)->
    PIE X zc σ tg Q (.ref s1.heap.objs.size) {s1 with heap:=s1.heap.push {cls:=.type nm,data:=.fields #[.str z t,.int 0 0]}}:=by
   intro nm St hS W hn hslf;refine⟨s1.heap.objs.size,[s1.heap.objs.size],St,dg_4 z,H1,rfl,I1.kept (t':=s1.toks) λb o e=>Heap.get?_push_of_some _ e,
    cl_8 W (λi h st=> ?_) (λi h h' st k=> ?_) (λA i s Q E st h=>hslf A i s Q E ((hS _ _).mp st) h) (λi H g=>g) (λi H g=> ?_) (λi H u hu=> ?_),(hS _ _).mpr ⟨_,Heap.get?_push_size _ rfl,rfl,rfl⟩,λb hb=> ?_,q⟩
   ·obtain⟨o,ho,hc,hd⟩:=(hS _ _).mp st;exact⟨o,nm,_,ho,hc,hd,hn⟩
   ·obtain⟨o,ho,r⟩:=(hS _ _).mp st;exact(hS _ _).mpr ⟨o,k _ (by simp) o ho,r⟩
   ·exact g
   ·obtain⟨c,u',e1,e2⟩:=hu;subst e2;exact⟨.str ⟨#[c]⟩,⟨u',rfl⟩,rfl,c,e1,rfl⟩
   ·have e:b=s1.heap.objs.size:=by simpa using hb
    subst e;exact I1.fpOk (Nat.le_refl _) (I1.hok.fresh (Nat.le_refl _))
  cases ha:z.cps.all (· < 128)
  ·exact wpAny_pyIter_wide ha (fin "str_iterator" _ (λ_ _=>Iff.rfl) (λA' hA=>Walks.strWide hA _ z t) (by decide) λA i s Q E st h=>wpAny_pyIter_striter_wide st h)
  ·exact wpAny_pyIter_ascii ha (fin "str_ascii_iterator" _ (λ_ _=>Iff.rfl) (λA' hA=>Walks.strAscii hA _ z t) (by decide) λA i s Q E st h=>wpAny_pyIter_striter_ascii st h)
def dg_5{G:Hp}{a:Addr}{ds:List D}(h:SqL K G a vs)(r:HasL K G vs ds):ItD K G (Itl K a) ds:=λG' H g1 g i=>by
 refine⟨λd e=> ?_,λe=> ?_⟩
 ·obtain⟨v,e1,hv⟩:=r.get e;refine⟨⟨vs,v,(g1.trans g).seq h,e1⟩,λx H' y=> ?_⟩;obtain⟨e2,y⟩:=y;subst e2;have e3:=y vs ((g1.trans g).seq h);rw [e1] at e3;cases e3;exact⟨G',Step.refl g,hv.mono g1⟩
 ·exact⟨vs,(g1.trans g).seq h,by rw [r.length];exact Nat.le_of_eq e⟩
def dr_7{G:Hp}{a:Addr}{ds:List D}(h:SqT K G a vs)(r:HasL K G vs ds):ItD K G (Itt K a) ds:=λG' H g1 g i=>by
 refine⟨λd e=> ?_,λe=> ?_⟩
 ·obtain⟨v,e1,hv⟩:=r.get e;refine⟨⟨vs,v,Same.tupS (g1.trans g) h,e1⟩,λx H' y=> ?_⟩;obtain⟨e2,y⟩:=y;subst e2;have e3:=y vs (Same.tupS (g1.trans g) h);rw [e1] at e3;cases e3;exact⟨G',Step.refl g,hv.mono g1⟩
 ·exact⟨vs,Same.tupS (g1.trans g) h,by rw [r.length];exact Nat.le_of_eq e⟩
def dr_8{G:Hp}(z:Str):ItD K G (dg_4 z) (Gd z):=λG' H g1 g i=>by
 refine⟨λd e=> ?_,λe=> ?_⟩
 ·unfold Gd at e;rw [List.getElem?_map] at e;cases q:z.cps.toList[i]? with
  |none=>rw [q] at e;cases e
  |some c=>
   rw [q] at e;cases e;have hi:i < z.cps.size:=by
    have:=(List.getElem?_eq_some_iff.mp q).1;simpa using this
   refine⟨hi,λx H' y=> ?_⟩;obtain⟨e2,c',e3,e4⟩:=y;subst e2 e4;have:z.cps.toList[i]? =some c':=by simpa using e3
   rw [q] at this;cases this;exact⟨G',Step.refl g,.str _⟩
 ·unfold Gd at e;rw [List.length_map] at e;show i=z.cps.size;simp at e;omega
def v_8(he:ED X EX e f):ID X EX tg e (Db f):=
 PI.imp (ed_9 he) λ σ H Q ⟨G,δ,g0,s0,o⟩=>by
  refine⟨G,δ,g0,s0, ?_⟩;unfold Db at o;cases e1:f δ with
  |ok w=>
   rw [e1] at o;simp only [R.bind_ok] at o;refine WP.intro λv G' H' st r=> ?_;revert r o;cases w.d with
   |lst ds=>
    intro o r;cases r with
    |lst h r=>exact .inl ⟨_,rfl,⟨_,st.gh.seq h⟩,o _ G' H' st (dg_5 h r)⟩
   |tup ds=>
    intro o r;cases r with
    |tup h r=>exact .inr (.inl ⟨_,rfl,⟨_,Same.tupS st.gh h⟩,o _ G' H' st (dr_7 h r)⟩)
   |str z=>
    intro o r;cases r;exact .inr (.inr ⟨z,rfl,o _ G' H' st (dr_8 z)⟩)
   |_=>intro o _;exact False.elim o
  |ex x=>rw [e1] at o;exact o
  |no=>rw [e1] at o;exact o
end
abbrev FG:=D->SE->R SE
def tG(K:Frag)(EX:Bq)(fg:FG):TG:=λv σ H Q=>∃H0 G0 G Δ O d,Ev K H0 G0 G H σ Δ O/\Has K G v d/\match fg d Δ with
 | .ok Δ'=>∀σ' G' H' O',Ev K H0 G0 G' H' σ' Δ' O'->Same G G'->Q σ' H'
 | .ex _=>False
 | .no=>False
def PG.imp{tg:Expr}{t t':TG}(h:PG X tg t)(i:∀v σ H Q,t' v σ H Q->t v σ H Q):PG X tg t':=λzc s σ H v u Q I r q=>h zc s σ H v u Q I r (i v σ H Q q)
abbrev GD(X:Cx)(EX:Bq)(tg:Expr)(fg:FG):Prop:=PG X tg (tG X.K EX fg)
section
variable{X:Cx}{EX:Bq}{pos:Pos}
def gV(i:Nat):FG:=λd Δ=> .ok (Δ.set i (.sh d))
def n_1{i:Nat}{x:Str}(hN:X.N.Nodup)(hi:X.N[i]? =some x:=by rfl)(hx:Loc X.env.scope x:=by first|exact Or.inl rfl|exact Or.inr rfl)
  (hf:X.fn x=true\/X.env.scope.names.lookup x=some .local:=by first|exact .inl rfl|exact .inr rfl|assumption):GD X EX (.Name x pos) (gV i):=
 PG.imp (aq_8 hN hi hx hf) λv σ H Q ⟨H0,G0,G,Δ,O,d,E,r,q⟩=>q _ G H O (E.put r) (Same.refl _)
def Gb(i j:Nat):FG:=λd Δ=>match d with
 | .tup [a,b]=> .ok ((Δ.set i (.sh a)).set j (.sh b))
 |_=> .no
def ai_4{i j k:Nat}{x y:Str}{p1 p2:Pos}(hc:X.calm=true)(hN:X.N.Nodup)(hi:X.N[i]? =some x:=by rfl)(hj:X.N[j]? =some y:=by rfl)(hx:Loc X.env.scope x:=by first|exact Or.inl rfl|exact Or.inr rfl)(hy:Loc X.env.scope y:=by first|exact Or.inl rfl|exact Or.inr rfl)
  (hf:X.fn x=true\/X.env.scope.names.lookup x=some .local:=by first|exact .inl rfl|exact .inr rfl|assumption) (hf2:X.fn y=true\/X.env.scope.names.lookup y=some .local:=by first|exact .inl rfl|exact .inr rfl|assumption)
  (hn:(assignEach [.Name x p1,.Name y p2] X.env).length=2:=by rfl) (hst:(assignEach [.Name x p1,.Name y p2] X.env).findIdx? (·.1)=none:=by rfl)
  (hs:(assignEach [.Name x p1,.Name y p2] X.env).map (·.2)=assign (.Name x p1) X.env::(assignEach [.Name y p2] X.env).map (·.2):=by rfl) (hs2:(assignEach [.Name y p2] X.env).map (·.2)=assign (.Name y p2) X.env::(assignEach [] X.env).map (·.2):=by rfl):
  GD X EX (.Tuple [.Name x p1,.Name y p2] k pos) (Gb i j):=
 PG.imp (dc_8 hc (be_1 (aq_8 hN hi hx hf) (be_1 (aq_8 hN hj hy hf2) cq_0 hs2) hs) hn hst) λv σ H Q ⟨H0,G0,G,Δ,O,d,E,r,q⟩=>by
  cases r with
  |tup h r=>
   cases r with
   |nil=>exact False.elim q
   |cons r1 r=>
    cases r with
    |nil=>exact False.elim q
    |cons r2 r=>
     cases r with
     |nil=>exact⟨_,_,rfl,Same.tupS E.st.gh h,rfl,_,_,rfl,_,_,rfl,rfl,q _ G H O ((E.put r1).put r2) (Same.refl _)⟩
     |cons _ _=>exact False.elim q
  |_=>exact False.elim q
def Fc(fg:FG)(g:FS):List D->FS
 | []=>λ Δ=> .nx Δ
 |d::ds=>λ Δ=>match fg d Δ with
  | .ok Δ1=>(match g Δ1 with
   | .nx Δ2=>Fc fg g ds Δ2
   | .ct Δ2=>Fc fg g ds Δ2
   | .bk Δ2=> .nx Δ2
   |r=>r)
  | .ex _=> .no
  | .no=> .no
def Bu(js:List Nat)(fi:FI)(fg:FG)(g:FS):FS:=λ Δ=>match fi (Bb Δ) with
 | .ok ds=>Fc fg g ds Δ
 | .ex x=> .ex x Δ
 | .no=>match fi (Bb (gsome js Δ)) with
  | .ok ds=>Fc fg g ds (gsome js Δ)
  | .ex x=> .ex x (gsome js Δ)
  | .no=> .no
def ac_4{α:Type}{l:List α}{i:Nat}(h:i < l.length):∃x,l[i]? =some x/\l.drop i=x::l.drop (i + 1):=⟨l[i],by simp [h],List.drop_eq_getElem_cons h⟩
def bo_9{fg:FG}{g:FS}{H0:HB}{G0 G1 H1:Hp}{J:It}{ds:List D}{Δ:SE}{O:OS}{σ:Sg}{D:Ends}(E:Ev K H0 G0 G1 H1 σ Δ O)(it:ItD K G1 J ds)(q:Fin K EX H0 G0 G1 D (Fc fg g ds Δ)):
  ∃W:Nat->Nat->Sg->Hp->Prop,(∃m,W 0 m σ H1)/\∀i m σ H,W i m σ H->
   (J.stop i H/\D.nx σ H)\/(J.go i H/\∃N:Sg->Hp->Prop,(∀σ' H',N σ' H'->∃m',m' < m/\W (i + 1) m' σ' H')/\∀x H',J.yld i H x H'->tG K EX fg x σ H' λ σ2 H2=>tS K EX g {D with nx:=N,ct:=N,bk:=D.nx} σ2 H2):=by
 refine⟨λi m σ H=>m=ds.length - i/\i<=ds.length/\∃G Δ O,Ev K H0 G0 G H σ Δ O/\Same G1 G/\Fin K EX H0 G0 G1 D (Fc fg g (ds.drop i) Δ),⟨ds.length,by simp,Nat.zero_le _,G1,Δ,O,E,Same.refl _,q⟩, ?_⟩
 rintro i m σ H ⟨rfl,hi,G,Δ,O,E,sg,q⟩
 obtain⟨i1,i2⟩:=it G H sg E.st.gh i
 by_cases hlt:i < ds.length
 ·obtain⟨d,e1,e2⟩:=ac_4 hlt;obtain⟨go,yl⟩:=i1 d e1;refine .inr ⟨go,λ σ' H'=>∃G Δ O,Ev K H0 G0 G H' σ' Δ O/\Same G1 G/\Fin K EX H0 G0 G1 D (Fc fg g (ds.drop (i + 1)) Δ),λ σ' H' w=>⟨ds.length - (i + 1),by omega,rfl,hlt,w⟩,λx H' y=> ?_⟩;obtain⟨G',st,hx⟩:=yl x H' y;rw [e2] at q;refine⟨H0,G0,G',Δ,O,d,E.grow st,hx, ?_⟩;have q':Fin K EX H0 G0 G1 D (match fg d Δ with
   | .ok Δ1=>(match g Δ1 with
    | .nx Δ2=>Fc fg g (ds.drop (i + 1)) Δ2
    | .ct Δ2=>Fc fg g (ds.drop (i + 1)) Δ2
    | .bk Δ2=> .nx Δ2
    |r=>r)
   | .ex _=> .no
   | .no=> .no):=q
  cases e3:fg d Δ with
  |ok Δ1=>
   rw [e3] at q';intro σ2 G2 H2 O2 E2 s2;have s12:Same G1 G2:=sg.trans (st.gg.trans s2);refine⟨H0,G0,G2,Δ1,O2,E2, ?_⟩;cases e4:g Δ1 with
   |nx Δ2=>simp only [e4] at q';exact λ σ3 G3 H3 O3 E3 s3=>⟨G3,Δ2,O3,E3,s12.trans s3,q'⟩
   |ct Δ2=>simp only [e4] at q';exact λ σ3 G3 H3 O3 E3 s3=>⟨G3,Δ2,O3,E3,s12.trans s3,q'⟩
   |bk Δ2=>simp only [e4] at q';exact λ σ3 G3 H3 O3 E3 s3=>q' σ3 G3 H3 O3 E3 (s12.trans s3)
   |rt w=>simp only [e4] at q';exact q'
   |ex x Δ2=>simp only [e4] at q';exact λ σ3 G3 H3 O3 E3 s3=>q' σ3 G3 H3 O3 E3 (s12.trans s3)
   |no=>simp only [e4] at q';exact q'
  |ex x=>rw [e3] at q';exact q'
  |no=>rw [e3] at q';exact q'
 ·have e:ds.length=i:=by omega
  refine .inl ⟨i2 e, ?_⟩;rw [List.drop_eq_nil_of_le (by omega)] at q;exact q σ G H O E sg
def Gf{tg iter:Expr}{body:List Stmt}{fi:FI}{fg:FG}{g:FS}(js:List Nat)(hp:PassesOwn (model X.prog X.w) X.A X.env X.xe)(hc:X.calm=true)(hi:ID X EX tg iter fi)(hg:GD X EX tg fg)(hb:BD X EX body g)
  (hs:∀x,foldedSetIterable iter X.env x=pure x:=by intro _;rfl):SD X EX (.For tg iter body [] pos) (Bu js fi fg g):=
 PS.imp (eb_3 hp hc hi hg hb hs) λD σ H ⟨H0,G0,G,Δ,O,E,q⟩=>by
  unfold Bu at q;cases e1:fi (Bb Δ) with
  |ok ds=>
   rw [e1] at q;refine⟨G,Bb Δ,E.st.gh,E.gsh, ?_⟩;rw [e1];exact λJ G' H' st it=>bo_9 (E.grow st) it (Fin.mono st.gg q)
  |ex x=>
   rw [e1] at q;exact⟨G,Bb Δ,E.st.gh,E.gsh,by rw [e1];exact q σ G H O E (Same.refl _)⟩
  |no=>
   rw [e1] at q;obtain⟨G1,O1,sg,E1⟩:=E.gsome js;refine⟨G1,Bb (gsome js Δ),E1.st.gh,E1.gsh, ?_⟩;cases e2:fi (Bb (gsome js Δ)) with
   |ok ds=>
    simp only [e2] at q;exact λJ G' H' st it=>bo_9 (E1.grow st) it (Fin.mono (sg.trans st.gg) q)
   |ex x=>simp only [e2] at q;exact q σ G1 H O1 E1 sg
   |no=>simp only [e2] at q;exact q
def Ea(i:Nat)(f:FE):FS:=λ Δ=>match Δ[i]? with
 |some (.ow (.lst ds))=>if ds.length < 16777216 then(match f (Bb Δ) with
   | .ok w=> .nx (Δ.set i (.ow (.lst (ds ++ [w.d]))))
   | .ex x=> .ex x Δ
   | .no=>match f (Ar Δ) with
    | .ok w=>if Ba w.d=true then .nx (Δ.set i (.ow (.lst (ds ++ [w.d])))) else .no
    |_=> .no) else .no
 |_=> .no
def av_2{i:Nat}{x:Str}{e:Expr}{f:FE}{p1 zf zd:Pos}(he:ED X EX e f)(hN:X.N[i]? =some x:=by rfl)(hv:Hk X.env.scope x:=by first|exact Or.inl rfl|exact Or.inr (Or.inl rfl)|exact Or.inr (Or.inr rfl))(hd:(x ==("__debug__" :Str))=false:=by decide)
  (hcd:(x ==("__classdict__" :Str))=false:=by decide) (hsw:swapsWith (.Call (.Attribute (.Name x p1) "append" zf) [e] [] zd) none pos.line X.env=pure false:=by rfl)
  (aa:attributeBase (.Name x p1) "append" X.env (eval (.Name x p1) X.env)=eval (.Name x p1) X.env:=by rfl)
  (ay:((backTo zd (starEach [e] X.env)).all (λx=> !x.1) && (backToKw zd (keywordEach [] X.env)).all (λx=>x.1.isSome)
   && decide ([e].length + ([]:List Keyword).length + (if([]:List Keyword).isEmpty then 0 else 1) < 30))=true:=by rfl)
  (ae:(zf.endLine ==zd.line)=true:=by rfl) (hs:starEach [e] X.env=(false,eval e X.env)::starEach [] X.env:=by rfl) (af:(backTo zd (starEach [] X.env)).any (·.1)=false:=by rfl):
  SD X EX (.Expr (.Call (.Attribute (.Name x p1) "append" zf) [e] [] zd) pos) (Ea i f):=
 PS.imp (ak_8 (de_4 PySem.F.plainAttrs_list PySem.F.slot_list_append PySem.F.type_list_append bn_8 (Fu hN hv hd hcd) (k_9 he y_5 hs) aa ay ae hs af) hsw) λD σ H ⟨H0,G0,G,Δ,O,E,q⟩=>by
  unfold Ea at q
  split at q
  ·rename_i ds e1
   split at q
   ·rename_i hz;obtain⟨v0,s1,t⟩:=E.ow i _ _ e1 rfl;obtain⟨a,vs,rfl,m,hH,rl⟩:=t.list_of
    ·skip
     refine⟨.ref a,s1,.inl ⟨rfl,_,SqL.of hH⟩, ?_⟩;have fin:∀{G' H':Hp} {v:V} {d:L3.D},Ev X.K H0 G0 G' H' σ Δ O->Same G G'->H' a=some (.lst vs)->HasL X.K G' vs ds->Has X.K G' v d->Fin X.K EX H0 G0 G D (.nx (Δ.set i (.ow (.lst (ds ++ [d])))))->
       cq_6 (.ref a) [v] H' λ_ H1=>D.nx σ H1:=λ{G' H' v d} E' sg hH' r' hv' q'=>
      ⟨a,vs,v,rfl,rfl,hH',by rw [r'.length,sizeLine_eq];exact hz,q' σ G' _ _ (E'.writeL s1 m (r'.append (.cons hv' .nil))) sg⟩
     cases e2:f (Bb Δ) with
     |ok w=>
      simp only [e2] at q;refine⟨G,Bb Δ,E.st.gh,E.gsh, ?_⟩;rw [e2];exact WP.intro λv G' H' st r=>fin (E.grow st) st.gg (st.hh _ _ hH) (rl.mono st.gg) r q
     |ex x=>
      simp only [e2] at q;exact⟨G,Bb Δ,E.st.gh,E.gsh,by rw [e2];exact q σ G H O E (Same.refl _)⟩
     |no=>
      simp only [e2] at q;refine⟨Fw G H O,Ar Δ,E.aH,E.gall, ?_⟩;cases e3:f (Ar Δ) with
      |ok w=>
       simp only [e3] at q
       split at q
       ·rename_i fl;exact WP.intro λv G' H' st r=>fin (E.keep st.hh) (Same.refl _) (st.hh _ _ hH) rl (r.ofFl fl) q
       ·exact q.elim
      |ex x=>simp only [e3] at q;exact q.elim
      |no=>simp only [e3] at q;exact q
   ·exact q.elim
  ·exact q.elim
end
def Hi(X:Cx)(scope:Scope)(cl:List (Str×Addr))(N':List Str)(C:Addr)(s0:Shared)(H0:Hp)(fp:List Addr)(pn:List (Addr×Obj)):Cx where
 prog:=X.prog
 w:=X.w
 K:=X.K
 mg:=X.mg
 base:=X.base
 A:=X.A
 N:=N'
 s₀:=s0
 H₀:=H0
 env:=compEnvC scope cl C X.env
 outer:=X.stack
 stack:=X.stack
 ex:=fp
 fn:=λ_=>false
 calm:=X.calm
 pn:=pn
 xe:=λ_ _=>False
abbrev FGc:=D->DE->R DE
def tGc(K:Frag)(EX:Bq)(fg:FGc):TG:=λv σ H Q=>∃G δ d,Same G H/\HasS K G σ δ/\Has K G v d/\match fg d δ with
 | .ok δ'=>∀σ',HasS K G σ' δ'->HasS K G σ' δ->Q σ' H
 | .ex x=>(EX σ).p x G H
 | .no=>False
abbrev GC(X:Cx)(EX:Bq)(tg:Expr)(fg:FGc):Prop:=PG X tg (tGc X.K EX fg)
def CTs(X:Cx)(EX:Bq)(ifs:List Expr)(p:FT):Prop:=
 ∀(zc:List (Addr×Obj)) (s:Shared) (σ:Sg) (H:Hp) (Q:Bool->Hp->Prop),Inv X zc σ H s->tDt X.K EX p σ H Q->
  wpAny (model X.prog X.w) X.A (forIn ifs true λc r=>if r=true then do let ok<-isTrue c X.env (eval c X.env);pure (ForInStep.yield ok) else pure (ForInStep.yield r)) (TP X zc σ Q) X.xe s
section
variable{X:Cx}{EX:Bq}{pos:Pos}
def gC(i:Nat):FGc:=λd δ=>match δ[i]? with
 |some none=> .ok (δ.set i (some d))
 |_=> .no
def HasS.put{G:Hp}{σ:Sg}{δ:DE}{d:D}(h:HasS K G σ δ)(r:Has K G v d)(i:Nat):HasS K G (σ.set i (some v)) (δ.set i (some d)):=by
 refine⟨by rw [List.length_set,List.length_set];exact h.len,λj d' e=> ?_⟩;rcases Ha e with⟨rfl,q⟩|⟨n,q⟩
 ·cases q;have hlt:i < δ.length:=by
   by_cases hh:i < δ.length
   ·exact hh
   ·rw [List.getElem?_eq_none (by rw [List.length_set];omega)] at e;cases e
  exact⟨v,by rw [List.getElem?_set_self (by rw [h.len];exact hlt)],r⟩
 ·obtain⟨v',e1,r'⟩:=h.get j d' q;exact⟨v',by rw [List.getElem?_set_ne n];exact e1,r'⟩
def dr_9{i:Nat}{x:Str}(hN:X.N.Nodup)(hi:X.N[i]? =some x:=by rfl)(hx:Loc X.env.scope x:=by first|exact Or.inl rfl|exact Or.inr rfl)
  (hf:X.fn x=true\/X.env.scope.names.lookup x=some .local:=by first|exact .inl rfl|exact .inr rfl|assumption):GC X EX (.Name x pos) (gC i):=
 PG.imp (aq_8 hN hi hx hf) λv σ H Q ⟨G,δ,d,g,s,r,q⟩=>by
  unfold gC at q;cases e:δ[i]? with
  |none=>rw [e] at q;exact q.elim
  |some o=>
   rw [e] at q;cases o with
   |some _=>exact q.elim
   |none=>
    refine q _ (s.put r i) ⟨by rw [List.length_set];exact s.len,λj d' e'=> ?_⟩;obtain⟨v',e1,r'⟩:=s.get j d' e';refine⟨v', ?_,r'⟩;rw [List.getElem?_set_ne]
    ·exact e1
    ·rintro rfl
     rw [e] at e';cases e'
def w_6:CTs X EX [] (λ_=> .ok true):=λzc s σ H Q I ⟨G,δ,g,h,q⟩=>wpAny_tests_nil ⟨H,I,q G H (Step.refl g)⟩
def cl_9{c:Expr}{p:FT}(h:TD X EX c p):CTs X EX [c] p:=λzc s σ H Q I q=>wpAny_tests_one (h zc s σ H Q I q)
def Fh(fg:FGc)(p:FT)(f:FE)(δ:DE):List D->R (List D)
 | []=> .ok []
 |d::ds=>(fg d δ).bind λ δ1=>(p δ1).bind λb=>if b=true then(f δ1).bind λw=>(Fh fg p f δ ds).bind λrs=> .ok (w.d::rs) else Fh fg p f δ ds
def R.calm{α:Type}:R α->R α
 | .ok w=> .ok w
 |_=> .no
@[simp] theorem R.calm_ok{α:Type}(a:α):(R.ok a).calm=.ok a:=rfl
@[simp] theorem R.calm_ex{α:Type}(x:Xn):(R.ex x:R α).calm=.no:=rfl
@[simp] theorem R.calm_no{α:Type}:(R.no:R α).calm=.no:=rfl
def Bx(m:Nat)(fi:FI)(fg:FGc)(p:FT)(f:FE):FE:=λ δ=>((fi δ).bind λds=>if ds.length<=16777216 then(Fh fg p f (δ ++ List.replicate m none) ds).bind λrs=> .ok (.ow (.lst rs)) else .no).calm
def R.calm_never{α:Type}{r:R α}{x:Xn}(h:r.calm=.ex x):False:=by
 cases r <;> cases h
def cb_6{m:Nat}{fi:FI}{fg:FGc}{p:FT}{f:FE}{δ:DE}{x:Xn}(h:Bx m fi fg p f δ=.ex x):False:=R.calm_never h
@[reducible] def ee_0(prog:Program)(w:World)(A:Around)(env:Env)(tg elt:Expr)(ifs:List Expr)(it zm:Value)(bad:Value->Shared->Prop)(fin more:Shared->Prop):Option Value->Shared->Prop
 |none=>fin
 |some v=>wpAny (model prog w) A (letOwnedTupleGo tg it v) (λ_=>wpAny (model prog w) A (assign tg env v) (λ_=>
   wpAny (model prog w) A (forIn ifs true λc r=>if r=true then do let ok<-isTrue c env (eval c env);pure (ForInStep.yield ok) else pure (ForInStep.yield r)) (λok=>
    if ok=true then wpAny (model prog w) A (eval elt env) (λx=>wpAny (model prog w) A (call (.builtin "list.append") [zm,x]) (λ_=>more) bad) bad else more) bad) bad) bad
def cm_0{prog:Program}{w:World}{A:Around}{R:Result->Shared->Prop}{s:Shared}{elt target iter:Expr}{ifs:List Expr}{scope:Scope}{it zm:Value}{env:Env}(I:Nat->Shared->Prop)
  (turn:∀n s,I n s->wpAny (model prog w) A (pyNext it) (ee_0 prog w A env target elt ifs it zm (notedBy (model prog w) A env λe=>R (.error e)) (R (.ok .next)) λs'=>∃m,m < n/\I m s') (notedBy (model prog w) A env λe=>R (.error e)) s)
  (n:Nat) (h:I n s):codeAny (model prog w) A (.compLoop (.ListComp elt [⟨target,iter,ifs,0⟩] scope pos) 0 it zm env) R s:=by
 refine codeAny_loop rfl I (λk t hk=>wpAny_noted (env:=env) (m:=compTurn (.ListComp elt [⟨target,iter,ifs,0⟩] scope pos) 0 it zm env) (compTurn_list .. ▸ ?_)) n h;refine wpAny_bind (wpAny_standAt (wpAny_bind (Bh (turn k t hk) ?_)))
 rintro (_|v) t1 g1
 ·exact wpAny_pure g1
 refine wpAny_bind (Bh g1 λ_ t2 g2=>wpAny_bind (Bh g2 λ_ t3 g3=>wpAny_bind (Bh g3 ?_)))
 rintro (_|_) t4 g4
 ·exact wpAny_pure ⟨rfl,g4⟩
 ·exact wpAny_bind (wpAny_bind (Bh g4 λ_ t5 g5=>wpAny_bind (Bh g5 λ_ t6 g6=>wpAny_pure (wpAny_pure ⟨rfl,g6⟩))))
structure CompN(X:Cx)(scope:Scope)(cl:List (Str×Addr))(N':List Str):Prop where
 clos:closureFor scope X.env=pure cl
 cell:∀y∈scope.names,y.2≠ .cell
 kind:scope.kind=.function
 names:∀y∈scope.names,y.2=.local->scope.names.lookup y.1=some .local
 sub:∀x c,cl.lookup x=some c->X.env.cells.lookup x=some c
 has:∀x,((relabel scope X.env).names.lookup x=some .cell\/(relabel scope X.env).names.lookup x=some .free)->∃c,cl.lookup x=some c
 old:∀(i:Nat) (x:Str),N'[i]? =some x->i < X.N.length->Hk (relabel scope X.env) x->X.N[i]? =some x/\(X.env.scope.names.lookup x=some .cell\/X.env.scope.names.lookup x=some .free)/\(∃c,cl.lookup x=some c)/\((relabel scope X.env).names.lookup x=some .cell\/(relabel scope X.env).names.lookup x=some .free)
def Dx(cells:List (Str×Addr)):List (Str×NameKind)->List (Str×Addr)->List (Str×Addr)
 | [],zm=>zm
 |(x,k)::r,zm=>Dx cells r (if k=.free then(x,(cells.lookup x).getD 0)::zm else zm)
def bk_7{scope:Scope}{env:Env}(h:∀p∈scope.names,p.2=.free->∃c,env.cells.lookup p.1=some c):closureFor scope env=pure (Dx env.cells scope.names []):=by
 have all:∀(names:List (Str×NameKind)) (zm:List (Str×Addr)),(∀p∈names,p.2=.free->∃c,env.cells.lookup p.1=some c)->
   (forIn names zm λ(x:Str×NameKind) (r:List (Str×Addr))=>if(x.2 == .free)=true then do let a<-cellOf env x.1;pure (ForInStep.yield ((x.1,a)::r)) else pure (ForInStep.yield r):Sem (List (Str×Addr)))=pure (Dx env.cells names zm):=by
  intro names
  induction names with
  |nil=>intro zm _;rfl
  |cons p r ih=>
   intro zm hp;obtain⟨x,k⟩:=p;rw [List.forIn_cons]
   by_cases hk:k=.free
   ·subst hk;obtain⟨c,e⟩:=hp (x,.free) List.mem_cons_self rfl;have e1:cellOf env x=pure c:=by unfold cellOf;rw [show env.cells.lookup x=some c from e]
    simp only [beq_self_eq_true,if_true,e1,pure_bind];rw [ih _ λq hq=>hp q (List.mem_cons_of_mem _ hq)];show _=pure (Dx env.cells r (if NameKind.free=.free then(x,(env.cells.lookup x).getD 0)::zm else zm));rw [if_pos rfl,show env.cells.lookup x=some c from e];rfl
   ·have hb:(k ==NameKind.free)=false:=by simpa using hk
    simp only [hb,Bool.false_eq_true,if_false,pure_bind];rw [ih _ λq hq=>hp q (List.mem_cons_of_mem _ hq)];show _=pure (Dx env.cells r (if k=.free then(x,(env.cells.lookup x).getD 0)::zm else zm));rw [if_neg hk]
 unfold closureFor;have:=all scope.names [] h;simpa using this
theorem cb_7{cells:List (Str×Addr)}{q:Str×Addr}:∀{names:List (Str×NameKind)} {zm:List (Str×Addr)},q∈Dx cells names zm->q∈zm\/((q.1,NameKind.free)∈names/\q.2=(cells.lookup q.1).getD 0)
 | [],zm,h=> .inl h
 |(x,k)::r,zm,h=>by
  rcases cb_7 (names:=r) h with h|⟨h1,h2⟩
  ·split at h
   ·rename_i hk;rcases List.mem_cons.mp h with rfl|h
    ·exact .inr ⟨by rw [hk];exact List.mem_cons_self,rfl⟩
    ·exact .inl h
   ·exact .inl h
  ·exact .inr ⟨List.mem_cons_of_mem _ h1,h2⟩
theorem cb_8{cells:List (Str×Addr)}{x:Str}:∀{names:List (Str×NameKind)} {zm:List (Str×Addr)},(zm.lookup x).isSome=true->((Dx cells names zm).lookup x).isSome=true
 | [],zm,h=>h
 |(y,k)::r,zm,h=>by
  refine cb_8 (names:=r) ?_
  split
  ·rw [List.lookup_cons]
   split
   ·rfl
   ·exact h
  ·exact h
theorem cb_9{cells:List (Str×Addr)}{x:Str}:∀{names:List (Str×NameKind)} {zm:List (Str×Addr)},(x,NameKind.free)∈names->((Dx cells names zm).lookup x).isSome=true
 |(y,k)::r,zm,h=>by
  rcases List.mem_cons.mp h with h|h
  ·cases h;refine cb_8 (names:=r) ?_;rw [if_pos rfl,List.lookup_cons];simp
  ·exact cb_9 (names:=r) h
theorem y_6{env:Env}:∀(names:List (Str×NameKind)) (x:Str),
  (names.map λ(n,k)=>if(k ==NameKind.free && env.scope.kind == .function && env.kindOf n ==some .cell) then(n,NameKind.cell) else(n,k)).lookup x=(names.lookup x).map λk=>if(k ==NameKind.free && env.scope.kind == .function && env.kindOf x ==some .cell)=true then NameKind.cell else k
 | [],x=>rfl
 |(n,k)::r,x=>by
  have ih:=y_6 (env:=env) r x;show List.lookup x ((if(k ==NameKind.free && env.scope.kind == .function && env.kindOf n ==some .cell)=true then(n,NameKind.cell) else(n,k))::_)=_;cases hx:x ==n with
  |true=>
   have e:x=n:=eq_of_beq hx;subst e
   by_cases hc:(k ==NameKind.free && env.scope.kind == .function && env.kindOf x ==some .cell)=true
   ·rw [if_pos hc];simp only [List.lookup_cons,beq_self_eq_true,Option.map_some];rw [if_pos hc]
   ·rw [if_neg hc];simp only [List.lookup_cons,beq_self_eq_true,Option.map_some];rw [if_neg hc]
  |false=>
   by_cases hc:(k ==NameKind.free && env.scope.kind == .function && env.kindOf n ==some .cell)=true
   ·rw [if_pos hc];simp only [List.lookup_cons,hx];exact ih
   ·rw [if_neg hc];simp only [List.lookup_cons,hx];exact ih
def ay_4(inner outer:List (Str×NameKind))(N N':List Str):Bool:=
 (inner.all λp=>p.2 != .cell && (p.2 != .local || inner.lookup p.1 ==some .local) && (p.2 != .free || (outer.lookup p.1 ==some .cell || outer.lookup p.1 ==some .free))) &&
 (List.range N.length).all λi=>match N'[i]? with
  |some x=>(match inner.lookup x with
   |some .free=>N[i]? ==some x && (outer.lookup x ==some .cell || outer.lookup x ==some .free)
   |some .local=>false
   |some .cell=>false
   |_=>true)
  |none=>true
def bf_0{scope:Scope}{N':List Str}(ok:X.Ok)(hk:scope.kind=.function)(hb:ay_4 scope.names X.env.scope.names X.N N'=true):CompN X scope (Dx X.env.cells scope.names []) N':=by
 unfold ay_4 at hb;rw [Bool.and_eq_true] at hb;obtain⟨h1,h2⟩:=hb;have h1:=List.all_eq_true.mp h1;have h2:=List.all_eq_true.mp h2;have fr:∀p∈scope.names,p.2=.free->∃c,X.env.cells.lookup p.1=some c:=λp hp hf=>by
  have z:=h1 p hp;simp only [hf,Bool.and_eq_true,Bool.or_eq_true,bne_iff_ne,beq_iff_eq] at z;exact ok.has p.1 (by
   rcases z.2 with z|z
   ·exact absurd rfl z
   ·exact z)
 have inn:∀x k,scope.names.lookup x=some k->(x,k)∈scope.names:=λx k e=>PySem.mem_of_lookup e;have au:∀p∈scope.names,p.2≠ .cell:=λp hp hc=>by
  have z:=h1 p hp;rw [hc] at z;simp at z
 have de:∀x,scope.names.lookup x=some .free->∃c,(Dx X.env.cells scope.names []).lookup x=some c:=λx e=>Option.isSome_iff_exists.mp (cb_9 (inn x _ e));have du:∀x,((relabel scope X.env).names.lookup x=some .cell\/(relabel scope X.env).names.lookup x=some .free)->scope.names.lookup x=some .free:=λx h=>by
  unfold relabel at h;rw [y_6] at h;cases e:scope.names.lookup x with
  |none=>rw [e] at h;simp at h
  |some k=>
   rw [e] at h;have nc:=au (x,k) (inn x k e);cases k with
   |free=>rfl
   |cell=>exact absurd rfl nc
   |«local»=>simp at h
   |globalExplicit=>simp at h
   |globalImplicit=>simp at h
 refine⟨bk_7 fr,au,hk,λy hy hl=> ?_,λx c e=> ?_,λx h=>de x (du x h),λi x e hi hv=> ?_⟩
 ·have z:=h1 y hy;simp only [hl,Bool.and_eq_true,Bool.or_eq_true,bne_iff_ne,beq_iff_eq] at z;rcases z.1.2 with z|z
  ·exact absurd rfl z
  ·exact z
 ·rcases cb_7 (PySem.mem_of_lookup e) with z|⟨z1,z2⟩
  ·exact absurd z (by simp)
  ·obtain⟨c',e'⟩:=fr (x,.free) z1 rfl;have z2:c=(X.env.cells.lookup x).getD 0:=z2;have e':X.env.cells.lookup x=some c':=e';rw [e'] at z2⊢;cases z2;rfl
 ·have z:=h2 i (List.mem_range.mpr hi);rw [e] at z;dsimp only at z;have look:scope.names.lookup x=some .free/\(((relabel scope X.env).names.lookup x=some .cell\/(relabel scope X.env).names.lookup x=some .free)):=by
   unfold Hk relabel at hv;unfold relabel;rw [y_6] at hv⊢;cases q:scope.names.lookup x with
   |none=>rw [q] at hv;simp at hv
   |some k=>
    rw [q] at hv z;cases k with
    |free=>
     refine⟨rfl, ?_⟩
     by_cases hc:(X.env.scope.kind == .function && X.env.kindOf x ==some .cell)=true
     ·left;simp [Bool.and_assoc,hc]
     ·right;simp [Bool.and_assoc,hc]
    |cell=>simp at z
    |«local»=>simp at z
    |globalExplicit=>simp at hv
    |globalImplicit=>simp at hv
  rw [look.1] at z;simp only [Bool.and_eq_true,Bool.or_eq_true,beq_iff_eq] at z;exact⟨z.1,z.2,de x look.1,look.2⟩
def cx_8{elt iter tg:Expr}{ifs:List Expr}{scope:Scope}{N':List Str}{fi:FI}{fg:FGc}{p:FT}{f:FE}{m:Nat}(hx0:∀e s,¬X.xe e s)(hc:X.calm=true)(hk:scope.kind=.function)(hb:ay_4 scope.names X.env.scope.names X.N N'=true)
  (hm:N'.length=X.N.length + m)
  (hin:∀C s0 H0 fp pn,GC (Hi X scope (Dx X.env.cells scope.names []) N' C s0 H0 fp pn) Ee tg fg/\CTs (Hi X scope (Dx X.env.cells scope.names []) N' C s0 H0 fp pn) Ee ifs p/\ED (Hi X scope (Dx X.env.cells scope.names []) N' C s0 H0 fp pn) Ee elt f)
  {zc:List (Addr×Obj)} {s:Shared} {σ:Sg} {δ:DE} (I:Inv X zc σ H s) {Z:Hp->Hp->Prop} (hZ:∀G2 H2,Z G2 H2->Same G2 H2/\HasS X.K G2 σ δ)
  (hit:wpAny (model X.prog X.w) X.A (eval iter X.env) (λxv s₁=>wpAny (model X.prog X.w) X.A (pyIter xv) (λitv s₂=>∃(it:Addr) (fp:List Addr) (tn:Nat->Heap->Prop) (J:It) (H2:Hp) (ds:List D) (G2:Hp),itv=.ref it/\Inv X zc σ H2 s₂/\Turn X.prog X.w X.K tg J fp it tn/\tn 0 s₂.heap/\(∀b∈fp,Eh X zc H2 b)/\fi δ=.ok ds/\Z G2 H2/\ItD X.K G2 J ds) X.xe s₁) X.xe s)
  {RR:Value->Addr->Result->Shared->Prop}
  (o:match Bx m fi fg p f δ with| .ok _=>True| .ex x=>False| .no=>False)
  (hRR:∀(Da C:Addr) (s1:Shared) (G2 H2 G' H':Hp) (vs:List V) (rs:List D),Bx m fi fg p f δ=.ok (.ow (.lst rs))->Inv X zc σ H' s1->(∃m,s1.heap.Ns C m)->Eh X zc H' C->Z G2 H2->Step G2 H2 G' H'->H2 Da=none->H' Da=some (.lst vs)->G' Da=none->HasL X.K G' vs rs->RR (.ref Da) C (.ok .next) s1):
  wpAny (model X.prog X.w) X.A (eval iter X.env) (λx s₁=>wpAny (model X.prog X.w) X.A (pyIter x) (λit s₂=>wpAny (model X.prog X.w) X.A (newList []) (λzm s₃=>
   wpAny (model X.prog X.w) X.A (newFunctionEnv scope X.env.globals (Dx X.env.cells scope.names []) [] X.env.qual none .none (some X.env)) (λcenv s₄=>
    codeAny (model X.prog X.w) X.A (.compStart (.ListComp elt [⟨tg,iter,ifs,0⟩] scope pos) 0 it zm {cenv with scope:=relabel scope X.env}) (RR zm cenv.locals) s₄) X.xe s₃) X.xe s₂) X.xe s₁) X.xe s:=by
 have n:=bf_0 I.ok hk hb;generalize hcle:Dx X.env.cells scope.names []=cl at n hin⊢;have cb:∀ds,fi δ=.ok ds->ds.length<=16777216/\(match Fh fg p f (δ ++ List.replicate m none) ds with| .ok rs=>Bx m fi fg p f δ=.ok (.ow (.lst rs))| .ex x=>False| .no=>False):=λds e=>by
  unfold Bx at o⊢;simp only [e,R.bind_ok] at o⊢
  by_cases hz:ds.length<=16777216
  ·refine⟨hz, ?_⟩;rw [if_pos hz] at o⊢;cases e2:Fh fg p f (δ ++ List.replicate m none) ds with
   |ok rs=>rfl
   |ex x=>rw [e2] at o;exact o
   |no=>rw [e2] at o;exact o
  ·rw [if_neg hz] at o;exact o.elim
 
 refine wpAny_mono hit (λxv s₁ h₁=>wpAny_mono h₁ (λitv s₂ h₂=> ?_) λ_ _ e=>(hx0 _ _ e).elim) λ_ _ e=>(hx0 _ _ e).elim;obtain⟨it,fp,tn,J,H2,ds,G2,rfl,I2,T,st2,f2,e2,hz2,itd⟩:=h₂;obtain⟨sg2,h0⟩:=hZ G2 H2 hz2;obtain⟨hz,o⟩:=cb ds e2
 
 have hfD:H2 s₂.heap.objs.size=none:=I2.hok.fresh (Nat.le_refl _);refine wpAny_newObj_type (wpAny_newFunctionEnv n.cell (by intro y hy;simp at hy) (λh₁ hns₁ hsb₁=> ?_) n.kind);dsimp only at hns₁ hsb₁⊢;generalize hDa:s₂.heap.objs.size=Da at hfD;have hDn: @Eq Nat s₂.heap.objs.size Da:=hDa;have I3:Inv X zc σ (upd H2 Da (.lst [])) {s₂ with heap:=s₂.heap.push {cls:=.type "list",dict:=none,data:=.seq ([]:List Value).toArray}}:=by
  rw [<-hDa];exact I2.lnew (t':=s₂.toks) .nil (Nat.zero_le _)
 generalize hH3:s₂.heap.push {cls:=.type "list",dict:=none,data:=.seq ([]:List Value).toArray}=hp3 at hns₁ hsb₁ I3⊢;have hC:hp3.objs.size=Da + 1:=by rw [<-hH3,Heap.size_push,hDa]
 generalize hCe:hp3.objs.size=C at hns₁ hsb₁ hC;have hCn: @Eq Nat hp3.objs.size C:=hCe;have hC2: @Eq Nat C (Da + 1):=hC;have ft:∀b o,s₂.heap.get? b=some o->hp3.get? b=some o:=λb o e=>by rw [<-hH3];exact Heap.get?_push_of_some _ e
 have up:∀b o,hp3.get? b=some o->h₁.get? b=some o:=λb o e=>hsb₁.extBut b o (Nat.ne_of_lt (show @LT.lt Nat _ b C by rw [<-hCn];exact Heap.lt_size e)) (Heap.get?_push_of_some _ e)
 
 have fpC:∀b∈fp,b < s₂.heap.objs.size:=λb hb=>by
  obtain⟨o,e,_⟩:=T.obj _ _ st2 b hb;exact Heap.lt_size e
 have hcl:∀x c,cl.lookup x=some c->c < hp3.objs.size/\c∉fp/\(upd H2 Da (.lst [])) c=none:=λx c e=>by
  have e':=n.sub x c e;obtain⟨v,hv⟩:=I3.cell x c e';exact⟨hv.lt,λz=>(f2 c z).2.2.2.2.1 x c e' rfl,I3.freeC x c e'⟩
 let X':=Hi X scope cl N' C {s₂ with heap:=hp3} (upd H2 Da (.lst [])) fp (X.pn ++ zc)
 have ok':X'.Ok:=by
  refine⟨I.ok.mod,n.kind,I.ok.glob,I.ok.blt,Nat.le_of_eq hCe,λx y c h1 h2=>I.ok.inj x y c (n.sub x c h1) (n.sub y c h2),λx hx=>n.has x hx,λx c z=> ?_,I.ok.hd,I.ok.frames,.inl rfl,λb hb=>⟨?_,λx c e z=> ?_⟩,λb o e=> ?_, ?_,λb o e hb=> ?_,λb hb z=> ?_,I3.stack,I3.stkFree⟩
  ·exact absurd z Bool.false_ne_true
  ·exact Nat.ne_of_lt (Nat.lt_of_lt_of_le (fpC b hb) (show @LE.le Nat _ s₂.heap.objs.size C by omega))
  ·subst z;exact(hcl x c e).2.1 hb
  ·exact I3.bs b o e
  ·exact Nat.le_trans I.ok.bsz I3.sz
  ·rcases(f2 b hb).2.2.2.1 with z|z
   ·exact I.ok.noex b o e z
   ·exact absurd (Heap.lt_size (I.ok.bs b o e).1) (Nat.not_lt_of_le z)
  ·rcases List.mem_cons.mp (I3.stkSub b z) with z|z
   ·exact(f2 b hb).2.1 z
   ·exact(f2 b hb).2.2.1 z
 have lenσ:σ.length=X.N.length:=I.len;have I4:Inv X' [] (σ ++ List.replicate m none) (upd H2 Da (.lst [])) {s₂ with heap:=h₁,toks:=s₂.toks + ([]:List (Str×Value)).length}:=by
  refine⟨ok',rfl,I2.bare,Un.kept up,⟨_,hns₁,λi x v e1 e2 e3=> ?_⟩,λx c e=> ?_, ?_,λx c e=>(hcl x c e).2.2,λp hp=> ?_,I3.hok.kept up, ?_⟩
  ·have hi:i < σ.length:=by
    by_cases hh:i < σ.length
    ·exact hh
    ·rw [List.getElem?_append_right (by omega),List.getElem?_replicate] at e2
     split at e2 <;> cases e2
   rw [List.getElem?_append_left hi] at e2;obtain⟨n1,n2,⟨c,n3⟩,n4⟩:=n.old i x e1 (by omega) e3;obtain⟨mm,hnm,hl⟩:=I3.loc;obtain⟨u,r,l⟩:=hl i x v n1 e2 (.inr n2);refine⟨u,r,.inr ⟨n4,c,n3, ?_⟩⟩;have n3':=n.sub x c n3;rcases l with⟨k1,k2⟩|⟨k1,c',k2,k3⟩
   ·exfalso;have k1':X.env.scope.names.lookup x=some .local:=k1;rcases n2 with n2|n2
    ·rw [n2] at k1';cases k1'
    ·rw [n2] at k1';cases k1'
   ·rw [n3'] at k2;cases k2;exact k3.keeps up
  ·obtain⟨v,hv⟩:=I3.cell x c (n.sub x c e);exact⟨v,hv.keeps up⟩
  ·show upd H2 Da (.lst []) C=none;exact I3.hok.fresh (by show hp3.objs.size<=C;omega)
  ·have hp':p∈X.pn ++ zc:=by
    have hp2:p∈(X.pn ++ zc) ++ []:=hp
    rwa [List.append_nil] at hp2
   obtain⟨z1,z2,z3,z4,z5⟩:=I3.pin p hp';refine⟨up _ _ z1,z2, ?_,λz=> ?_,z5⟩
   ·exact Nat.ne_of_lt (show @LT.lt Nat _ p.1 C by rw [<-hCn];exact Heap.lt_size z1)
   ·rcases List.mem_cons.mp (I3.stkSub p.1 z) with z|z
    ·exact z3 z
    ·exact z4 z
  ·rw [List.length_append,List.length_replicate,lenσ];exact hm.symm
 obtain⟨hgc,hct,hel⟩:=hin C {s₂ with heap:=hp3} (upd H2 Da (.lst [])) fp (X.pn ++ zc);have hS4:HasS X.K G2 (σ ++ List.replicate m none) (δ ++ List.replicate m none):=by
  refine⟨by rw [List.length_append,List.length_append,List.length_replicate,List.length_replicate,h0.len],λi d e=> ?_⟩
  by_cases hh:i < δ.length
  ·rw [List.getElem?_append_left hh] at e;obtain⟨v,e1,r⟩:=h0.get i d e;exact⟨v,by rw [List.getElem?_append_left (by rw [h0.len];exact hh)];exact e1,r⟩
  ·rw [List.getElem?_append_right (by omega),List.getElem?_replicate] at e
   split at e <;> cases e
 generalize hδ:δ ++ List.replicate m none=δ' at hS4 o;have stn:tn 0 h₁:=T.keep 0 _ _ st2 λb hb o e=>up b o (ft b o e);have fpn:∀b∈fp,(upd H2 Da (.lst [])) b=none:=λb hb=>by
  rw [Bm (Nat.ne_of_lt (show @LT.lt Nat _ b Da by rw [<-hDn];exact fpC b hb))];exact(f2 b hb).1
 have cv:∀{pl:List (Addr×Obj)} {H':Hp},pl= []->(∀b∈fp,H' b=none)->∀b∈fp,Eh X' pl H' b:=λ{pl H'} hpl hn b hb=>by
  subst hpl;refine⟨hn b hb, ?_,λz=> ?_,.inl hb,λx c e z=> ?_,λp hp z=> ?_⟩
  ·exact Nat.ne_of_lt (Nat.lt_of_lt_of_le (fpC b hb) (show @LE.le Nat _ s₂.heap.objs.size C by omega))
  ·rcases List.mem_cons.mp (I3.stkSub b z) with z|z
   ·exact(f2 b hb).2.1 z
   ·exact(f2 b hb).2.2.1 z
  ·subst z;exact(hcl x c e).2.1 hb
  ·have hp':p∈X.pn ++ zc:=by
    have hp2:p∈(X.pn ++ zc) ++ []:=hp
    rwa [List.append_nil] at hp2
   exact(f2 b hb).2.2.2.2.2 p hp' z
 have loop:∀s4:Shared,Inv X' [] (σ ++ List.replicate m none) (upd H2 Da (.lst [])) s4->tn 0 s4.heap->codeAny (model X.prog X.w) X.A (.compLoop (.ListComp elt [⟨tg,iter,ifs,0⟩] scope pos) 0 (.ref it) (.ref Da) (compEnvC scope cl C X.env)) (RR (.ref Da) C) s4:=by
  intro s4 I4 tn4;refine cm_0 (λk s'=>∃i σ' H' G' vs rs,k=ds.length - i/\i<=ds.length/\Inv X' [] σ' H' s'/\tn i s'.heap/\(∀b∈fp,H' b=none)/\HasS X.K G' σ' δ'/\Step G2 H2 G' H'/\Same G2 G'/\H' Da=some (.lst vs)/\G' Da=none/\
   HasL X.K G' vs rs/\rs.length<=i/\(match Fh fg p f δ' (ds.drop i) with| .ok rs2=>Bx m fi fg p f δ=.ok (.ow (.lst (rs ++ rs2)))| .ex x=>False| .no=>False)) ?_ ds.length
   ⟨0,_,_,G2,[],[],by simp,Nat.zero_le _,I4,tn4,fpn,hS4,Step.own sg2 hfD _,Same.refl _,Cw,sg2.free hfD,.nil,Nat.zero_le _,by simpa using o⟩
  rintro k s' ⟨i,σ',H',G',vs,rs,rfl,hi,I',tni,fn',hS,st,sg,hD,gD,rl,hl,o'⟩
  obtain⟨i1,i2⟩:=itd G' H' sg st.gh i
  by_cases hlt:i < ds.length
  ·obtain⟨d,e1,e2⟩:=ac_4 hlt;obtain⟨go,yl⟩:=i1 d e1;refine Bh (T.item X' rfl rfl rfl hc i [] s' σ' H' _ I' (cv rfl fn') tni go) λr s1 ⟨u,hr,h1⟩=> ?_;subst hr;refine Bh h1 λ_ s5 ⟨x,H5,I5,r5,y5,st5,fr5⟩=> ?_;obtain⟨G5,aq,hx5⟩:=yl x H5 y5;have I5':=I5.pinned (cv rfl fr5) (T.obj _ _ st5);rw [e2] at o';have o1:match((fg d δ').bind λ δ1=>(p δ1).bind λb=>if b=true then(f δ1).bind λw=>(Fh fg p f δ' (ds.drop (i + 1))).bind λrs=> .ok (w.d::rs) else Fh fg p f δ' (ds.drop (i + 1))) with| .ok rs2=>Bx m fi fg p f δ=.ok (.ow (.lst (rs ++ rs2)))| .ex x=>False| .no=>False:=o'
   have hS5:HasS X.K G5 σ' δ':=hS.mono aq.gg;refine wpAny_mono (hgc _ s5 σ' H5 x u (λ σ6 H6=>∃δ1,fg d δ'=.ok δ1/\H6=H5/\HasS X.K G5 σ6 δ1/\HasS X.K G5 σ6 δ') I5' r5 ⟨G5,δ',d,aq.gh,hS5,hx5, ?_⟩) (λ_ s6 ⟨σ6,H6,I6,δ1,e6,eH,hS6,hS6'⟩=> ?_) λ_ _ z=>False.elim z
   ·cases e6:fg d δ' with
    |ok δ1=>exact λ σ6 h6 h6'=>⟨δ1,rfl,rfl,h6,h6'⟩
    |ex x=>rw [e6] at o1;exact o1
    |no=>rw [e6] at o1;exact o1
   subst eH;rw [e6] at o1;simp only [R.bind_ok] at o1;refine wpAny_mono (hct _ s6 σ6 H6 (λb H7=>∃G7,p δ1=.ok b/\Step G5 H6 G7 H7) I6 ⟨G5,δ1,aq.gh,hS6, ?_⟩) (λb s7 ⟨H7,I7,G7,e7,stp7⟩=> ?_) λ_ _ z=>False.elim z
   ·cases e7:p δ1 with
    |ok b=>exact λG7 H7 st7=>⟨G7,rfl,st7⟩
    |ex x=>rw [e7] at o1;exact o1
    |no=>rw [e7] at o1;exact o1
   rw [e7] at o1;simp only [R.bind_ok] at o1
   
   have gD7:G7 Da=none:=(aq.trans stp7).nw Da gD (by rw [hD];simp);have hD7:H7 Da=some (.lst vs):=(aq.trans stp7).hh _ _ hD;have bp:∀{σ9:Sg} {H9:Hp} {s9:Shared},Inv X' ([] ++ be_2 fp s5.heap) σ9 H9 s9->tn (i + 1) s9.heap/\∀b∈fp,H9 b=none:=λ{σ9 H9 s9} I9=>
    ⟨T.keep _ _ _ st5 λb hb o e=>(I9.pin (b,o) (List.mem_append_right _ (List.mem_append_right _ (ae_3 hb e)))).1,λb hb=>by
     obtain⟨o,e,d⟩:=T.obj _ _ st5 b hb;exact(I9.pin (b,o) (List.mem_append_right _ (List.mem_append_right _ (ae_3 hb e)))).2.1⟩
   have hSk:∀{G9:Hp},Same G7 G9->HasS X.K G9 σ6 δ':=λ{G9} sm=>hS6'.mono (stp7.gg.trans sm);cases b with
   |false=>
    rw [if_neg Bool.false_ne_true] at o1⊢;exact⟨ds.length - (i + 1),by omega,i + 1,σ6,H7,G7,vs,rs,rfl,hlt,I7.unpinned,(bp I7).1,(bp I7).2,hSk (Same.refl _),st.trans (aq.trans stp7),sg.trans (aq.gg.trans stp7.gg),hD7,gD7,rl.mono (aq.gg.trans stp7.gg),by omega,o1⟩
   |true=>
    rw [if_pos rfl] at o1⊢;refine wpAny_mono (hel _ s7 σ6 H7 (λv H8=>∃w G8,f δ1=.ok w/\Step G7 H7 G8 H8/\Has X.K G8 v w.d) I7 ⟨G7,δ1,stp7.gh,hS6.mono stp7.gg, ?_⟩) (λu8 s8 ⟨v8,H8,I8,r8,w8,G8,e8,stp8,hv8⟩=> ?_) λ_ _ z=>False.elim z
    ·cases e8:f δ1 with
     |ok w=>exact WP.intro λv G8 H8 st8 r8=>⟨w,G8,rfl,st8,r8⟩
     |ex x=>rw [e8] at o1;exact o1
     |no=>rw [e8] at o1;exact o1
    rw [e8] at o1;simp only [R.bind_ok] at o1;have gD8:G8 Da=none:=stp8.nw Da gD7 (by rw [hD7];simp);have hD8:H8 Da=some (.lst vs):=stp8.hh _ _ hD7;have rl8:HasL X.K G8 vs rs:=rl.mono (aq.gg.trans (stp7.gg.trans stp8.gg));refine wpAny_mono (bn_8 (X:=X') _ s8 σ6 H8 (.ref Da) [v8] (.ref Da) [u8] (λ_ H9=>H9=upd H8 Da (.lst (vs ++ [v8]))) I8 rfl (.cons r8 .nil) ⟨Da,vs,v8,rfl,rfl,hD8,by rw [rl.length,sizeLine_eq];omega,rfl⟩) (λ_ s9 ⟨_,H9,I9,_,e9⟩=> ?_) λ_ _ z=>False.elim z;subst e9;have stA:=st.trans (aq.trans (stp7.trans stp8));refine⟨ds.length - (i + 1),by omega,i + 1,σ6,_,G8,vs ++ [v8],rs ++ [w8.d],rfl,hlt,I9.unpinned,(bp I9).1,(bp I9).2,hSk stp8.gg,⟨λb o z=> ?_,λb o z=> ?_,stA.gg,stA.nw⟩,sg.trans (aq.gg.trans (stp7.gg.trans stp8.gg)),Cw,gD8,rl8.append (.cons hv8 .nil),by rw [List.length_append,List.length_singleton];omega, ?_⟩
    ·rw [Bm (Hg z hfD)];exact stA.hh b o z
    ·rw [Bm (Hg z gD8)];exact stp8.gh b o z
    ·cases e10:Fh fg p f δ' (ds.drop (i + 1)) with
     |ok rs2=>
      rw [e10] at o1;simp only [R.bind_ok] at o1⊢;rw [List.append_assoc];exact o1
     |ex x=>rw [e10] at o1;exact o1
     |no=>rw [e10] at o1;exact o1
  ·have e:ds.length=i:=by omega
   refine Bh (T.done X' rfl rfl rfl hc i [] s' σ' H' _ I' (cv rfl fn') tni (i2 e)) λr s1 ⟨hr,I1⟩=> ?_;subst hr;rw [List.drop_eq_nil_of_le (by omega)] at o';have o1:Bx m fi fg p f δ=.ok (.ow (.lst (rs ++ []))):=o';rw [List.append_nil] at o1;obtain⟨mm,hnm,_⟩:=I1.loc;have gn:Inv X zc σ H' s1:=I3.call' (s':=s1) (ch:=fp) I1.os I1.base I1.hok I1.bare λb hb=>by
    obtain⟨f0,f1',f2',f3,f4,f5⟩:=f2 b hb;exact⟨f3,f1',f4,f5⟩
   exact hRR Da C s1 G2 H2 G' H' vs rs o1 gn ⟨mm,hnm⟩ (I3.fpOk (by show hp3.objs.size<=C;omega) I1.free) hz2 st hfD hD gD rl
 exact codeAny_compStart_list (loop _ I4 stn) (T.self X.A 0 _ _ _ stn (loop _ I4 stn))
def bf_1{elt iter tg:Expr}{ifs:List Expr}{scope:Scope}{N':List Str}{fi:FI}{fg:FGc}{p:FT}{f:FE}{m:Nat}(hx0:∀e s,¬X.xe e s)(hc:X.calm=true)(hi:ID X Ee tg iter fi)(hk:scope.kind=.function)(hb:ay_4 scope.names X.env.scope.names X.N N'=true)
  (hm:N'.length=X.N.length + m)
  (hin:∀C s0 H0 fp pn,GC (Hi X scope (Dx X.env.cells scope.names []) N' C s0 H0 fp pn) Ee tg fg/\CTs (Hi X scope (Dx X.env.cells scope.names []) N' C s0 H0 fp pn) Ee ifs p/\ED (Hi X scope (Dx X.env.cells scope.names []) N' C s0 H0 fp pn) Ee elt f)
  {zc:List (Addr×Obj)} {s:Shared} {σ:Sg} {G H:Hp} {δ:DE} (I:Inv X zc σ H s) (g0:Same G H) (h0:HasS X.K G σ δ) {RR:Value->Addr->Result->Shared->Prop}
  (o:match Bx m fi fg p f δ with| .ok _=>True| .ex x=>False| .no=>False)
  (hRR:∀(Da C:Addr) (s1:Shared) (G' H':Hp) (vs:List V) (rs:List D),Bx m fi fg p f δ=.ok (.ow (.lst rs))->Inv X zc σ H' s1->(∃m,s1.heap.Ns C m)->Eh X zc H' C->Step G H G' H'->H Da=none->H' Da=some (.lst vs)->G' Da=none->HasL X.K G' vs rs->RR (.ref Da) C (.ok .next) s1):
  wpAny (model X.prog X.w) X.A (eval iter X.env) (λx s₁=>wpAny (model X.prog X.w) X.A (pyIter x) (λit s₂=>wpAny (model X.prog X.w) X.A (newList []) (λzm s₃=>
   wpAny (model X.prog X.w) X.A (newFunctionEnv scope X.env.globals (Dx X.env.cells scope.names []) [] X.env.qual none .none (some X.env)) (λcenv s₄=>
    codeAny (model X.prog X.w) X.A (.compStart (.ListComp elt [⟨tg,iter,ifs,0⟩] scope pos) 0 it zm {cenv with scope:=relabel scope X.env}) (RR zm cenv.locals) s₄) X.xe s₃) X.xe s₂) X.xe s₁) X.xe s:=by
 refine cx_8 hx0 hc hk hb hm hin I (Z:=λG2 H2=>Step G H G2 H2) (λG2 H2 z=>⟨z.gh,h0.mono z.gg⟩) ?_ o λDa C s1 G2 H2 G' H' vs rs e Io hm' fc z st h1 h2 h3 rl=>hRR Da C s1 G' H' vs rs e Io hm' fc (z.trans st) (z.hh.free h1) h2 h3 rl;refine wpAny_mono (hi zc s σ H (λJ H2=>∃ds G2,fi δ=.ok ds/\Step G H G2 H2/\ItD X.K G2 J ds) I ⟨G,δ,g0,h0, ?_⟩) (λxv s₁ h₁=>wpAny_mono h₁ (λitv s₂ h₂=> ?_) λ_ _ e=>(hx0 _ _ e).elim) λ_ _ e=>(hx0 _ _ e).elim
 ·unfold Bx at o;cases e:fi δ with
  |ok ds=>exact λJ G2 H2 st it=>⟨ds,G2,rfl,st,it⟩
  |ex x=>rw [e] at o;exact o
  |no=>rw [e] at o;exact o
 ·obtain⟨it,fp,tn,J,H2,rfl,I2,T,st2,f2,ds,G2,e2,stp,itd⟩:=h₂;exact⟨it,fp,tn,J,H2,ds,G2,rfl,I2,T,st2,f2,e2,stp,itd⟩
def dg_6{elt iter tg:Expr}{ifs:List Expr}{scope:Scope}{N':List Str}{fi:FI}{fg:FGc}{p:FT}{f:FE}{m:Nat}(hx0:∀e s,¬X.xe e s)(hc:X.calm=true)(hi:ID X Ee tg iter fi)(hk:scope.kind=.function)(hb:ay_4 scope.names X.env.scope.names X.N N'=true)
  (hm:N'.length=X.N.length + m)
  (hin:∀C s0 H0 fp pn,GC (Hi X scope (Dx X.env.cells scope.names []) N' C s0 H0 fp pn) Ee tg fg/\CTs (Hi X scope (Dx X.env.cells scope.names []) N' C s0 H0 fp pn) Ee ifs p/\ED (Hi X scope (Dx X.env.cells scope.names []) N' C s0 H0 fp pn) Ee elt f)
  (hs:∀x,foldedSetIterable iter X.env x=pure x:=by intro _;rfl):ED X Ee (.ListComp elt [⟨tg,iter,ifs,0⟩] scope pos) (Bx m fi fg p f):=by
 intro zc s σ H Q I q;obtain⟨G,δ,g0,h0,o⟩:=q;rw [eval_ListComp];have n:=bf_0 I.ok hk hb;refine wpAny_comprehension_free (use:=none) rfl hs n.clos n.kind n.names (bf_1 (RR:=λzm C=>compPost (model X.prog X.w) X.A X.xe none (EP X zc σ Q) zm C) hx0 hc hi hk hb hm hin I g0 h0 ?_ λDa C s1 G' H' vs rs e Io hm' fc st h1 h2 h3 rl=> ?_)
 ·cases e:Bx m fi fg p f δ with
  |ok w=>trivial
  |ex x=>rw [e] at o;exact o
  |no=>rw [e] at o;exact o
 ·rw [e] at o;obtain⟨mm,hnm⟩:=hm';obtain⟨c0,c1,c2,c3,c4,c5⟩:=fc;exact⟨mm,hnm,λh' sb=>⟨.ref Da,H',Io.turned (t':=s1.toks) (λb ob hb e=>(sb.2 b hb).trans e) c0 c1 c3 c4 c5,rfl,o (.ref Da) (λb=>b=Da) G' H' st (λa e=>by subst e;exact⟨h1,h3,by rw [h2];simp⟩) (.list h2 rfl rl)⟩⟩
def t_7{elt iter tg:Expr}{ifs:List Expr}{scope:Scope}{N':List Str}{fi:FI}{fg:FGc}{p:FT}{f:FE}{m:Nat}(hc:X.calm=true)(hi:ID X.nox Ee tg iter fi)(hk:scope.kind=.function)(hb:ay_4 scope.names X.env.scope.names X.N N'=true)
  (hm:N'.length=X.N.length + m)
  (hin:∀C s0 H0 fp pn,GC (Hi X scope (Dx X.env.cells scope.names []) N' C s0 H0 fp pn) Ee tg fg/\CTs (Hi X scope (Dx X.env.cells scope.names []) N' C s0 H0 fp pn) Ee ifs p/\ED (Hi X scope (Dx X.env.cells scope.names []) N' C s0 H0 fp pn) Ee elt f)
  (hs:∀x,foldedSetIterable iter X.env x=pure x:=by intro _;rfl):ED X EX (.ListComp elt [⟨tg,iter,ifs,0⟩] scope pos) (Bx m fi fg p f):=
 PE.imp (PE.nox (dg_6 (X:=X.nox) (λ_ _ z=>z) hc hi hk hb hm hin hs)) λ σ H Q ⟨G,δ,g0,h0,o⟩=>by
  refine⟨G,δ,g0,h0, ?_⟩;cases e:Bx m fi fg p f δ with
  |ok w=>rw [e] at o;exact o
  |ex x=>exact(cb_6 e).elim
  |no=>rw [e] at o;exact o
theorem PS.nox{st:Stmt}{t:TS}(h:PS X.nox st t):PS X st t:=λzc s σ H D I hw=>
 wpAny_mono (h zc s σ H D (I.wish _) hw) (λ_ _ q=>q.unwish) λ_ _ z=>False.elim z
def ds_0{i:Nat}{js:List Nat}{f:FE}(h:∀δ x,f δ≠ .ex x){Δ Δ':SE}{x:Xn}(e:Ag i js f Δ=.ex x Δ'):False:=by
 unfold Ag at e;have hp:∀Δ2,Ei i Δ2 (f (Bb Δ2))=.ex x Δ'->False:=λ Δ2 e2=>by
  unfold Ei at e2;cases q:f (Bb Δ2) with
  |ok w=>rw [q] at e2;cases w <;> cases e2
  |ex y=>exact h _ _ q
  |no=>rw [q] at e2;cases e2
 cases q:f (Bb Δ) with
 |ok w=>rw [q] at e;cases w <;> cases e
 |ex y=>exact h _ _ q
 |no=>
  rw [q] at e;cases q2:f (Ar Δ) with
  |ok w=>
   simp only [q2] at e
   split at e
   ·cases e
   ·exact hp _ e
  |ex y=>exact h _ _ q2
  |no=>simp only [q2] at e;cases e
def dg_7(js:List Nat){elt iter tg:Expr}{ifs:List Expr}{scope:Scope}{N':List Str}{fi:FI}{fg:FGc}{p:FT}{f:FE}{m i:Nat}{y:Str}{py bg:Pos}(hx0:∀e s,¬X.xe e s)(hc:X.calm=true)(hi:ID X Ee tg iter fi)(hk:scope.kind=.function)(hb:ay_4 scope.names X.env.scope.names X.N N'=true)
  (hm:N'.length=X.N.length + m)
  (hin:∀C s0 H0 fp pn,GC (Hi X scope (Dx X.env.cells scope.names []) N' C s0 H0 fp pn) Ee tg fg/\CTs (Hi X scope (Dx X.env.cells scope.names []) N' C s0 H0 fp pn) Ee ifs p/\ED (Hi X scope (Dx X.env.cells scope.names []) N' C s0 H0 fp pn) Ee elt f)
  (hN:X.N.Nodup) (hy:X.N[i]? =some y:=by rfl) (hx:Loc X.env.scope y:=by first|exact Or.inl rfl|exact Or.inr rfl) (hf:X.fn y=true\/X.env.scope.names.lookup y=some .local:=by first|exact .inl rfl|exact .inr rfl|assumption)
  (hsw:swapsWith (.ListComp elt [⟨tg,iter,ifs,0⟩] scope pos) (some (.Name y py)) bg.line X.env=pure true:=by rfl)
  (hs:∀x,foldedSetIterable iter X.env x=pure x:=by intro _;rfl):SD X Ee (.Assign [.Name y py] (.ListComp elt [⟨tg,iter,ifs,0⟩] scope pos) bg) (Ag i js (Bx m fi fg p f)):=by
 intro zc s σ H D I q;have q2:=cb_4 q;obtain⟨G,δ,g0,h0,o⟩:=q2;have n:=bf_0 I.ok hk hb;rw [exec_Assign_Name_used _ _ _ _ hsw];refine wpAny_bind (wpAny_standAt (wpAny_bind ?_));show wpAny _ X.A (do let _<-comprehension (.ListComp elt [⟨tg,iter,ifs,0⟩] scope pos) scope X.env _ (newList []) false (eval iter X.env) (some (assign (.Name y py) X.env))) _ _ s;refine wpAny_bind (wpAny_mono (wpAny_comprehension_free (use:=some (assign (.Name y py) X.env)) (Q:=λ_ s'=>SP X zc D .next s') rfl hs n.clos n.kind n.names
  (bf_1 (RR:=λzm C=>compPost (model X.prog X.w) X.A X.xe (some (assign (.Name y py) X.env)) (λ_ s'=>SP X zc D .next s') zm C) hx0 hc hi hk hb hm hin I g0 h0 ?_ λDa C s1 G' H' vs rs e Io hm' fc st h1 h2 h3 rl=> ?_)) (λ_ s' hq=>wpAny_pure (wpAny_pure hq)) λ_ _ e=>e)
 ·cases e:Bx m fi fg p f δ with
  |ok w=>trivial
  |ex x=>rw [e] at o;exact o
  |no=>rw [e] at o;exact o
 ·rw [e] at o;obtain⟨mm,hnm⟩:=hm';obtain⟨c0,c1,c2,c3,c4,c5⟩:=fc;show wpAny _ X.A (assign (.Name y py) X.env (.ref Da)) _ _ _;refine wpAny_assign_Name (bn_1 Io hN hy hx (v:=.ref Da) rfl (λs2 I2 ⟨a,sb,ha⟩=> ?_) hf);have hCa:C≠a:=by
   rcases ha with rfl|ha
   ·exact c1
   ·exact λz=>c4 y a ha z.symm
  refine⟨mm,hnm.sameBut sb hCa,λh' sb'=>⟨_,H',I2.turned (t':=s2.toks) (λb ob hb e=>(sb'.2 b hb).trans e) c0 c1 c3 c4 c5, ?_⟩⟩;exact o (.ref Da) (λb=>b=Da) G' H' st (λa e=>by subst e;exact⟨h1,h3,by rw [h2];simp⟩) (.list h2 rfl rl)
def bc_6(js:List Nat){elt iter tg:Expr}{ifs:List Expr}{scope:Scope}{N':List Str}{fi:FI}{fg:FGc}{p:FT}{f:FE}{m i:Nat}{y:Str}{py bg:Pos}(hc:X.calm=true)(hi:ID X.nox Ee tg iter fi)(hk:scope.kind=.function)(hb:ay_4 scope.names X.env.scope.names X.N N'=true)
  (hm:N'.length=X.N.length + m)
  (hin:∀C s0 H0 fp pn,GC (Hi X scope (Dx X.env.cells scope.names []) N' C s0 H0 fp pn) Ee tg fg/\CTs (Hi X scope (Dx X.env.cells scope.names []) N' C s0 H0 fp pn) Ee ifs p/\ED (Hi X scope (Dx X.env.cells scope.names []) N' C s0 H0 fp pn) Ee elt f)
  (hN:X.N.Nodup) (hy:X.N[i]? =some y:=by rfl) (hx:Loc X.env.scope y:=by first|exact Or.inl rfl|exact Or.inr rfl) (hf:X.fn y=true\/X.env.scope.names.lookup y=some .local:=by first|exact .inl rfl|exact .inr rfl|assumption)
  (hsw:swapsWith (.ListComp elt [⟨tg,iter,ifs,0⟩] scope pos) (some (.Name y py)) bg.line X.env=pure true:=by rfl)
  (hs:∀x,foldedSetIterable iter X.env x=pure x:=by intro _;rfl):SD X EX (.Assign [.Name y py] (.ListComp elt [⟨tg,iter,ifs,0⟩] scope pos) bg) (Ag i js (Bx m fi fg p f)):=
 PS.imp (PS.nox (dg_7 (X:=X.nox) js (λ_ _ z=>z) hc hi hk hb hm hin hN hy hx hf hsw hs)) λD σ H ⟨H0,G0,G,Δ,O,E,q⟩=>by
  refine⟨H0,G0,G,Δ,O,E, ?_⟩;cases e:Ag i js (Bx m fi fg p f) Δ with
  |ex x Δ'=>exact(ds_0 (λ_ _ z=>cb_6 z) e).elim
  |_=>rw [e] at q;exact q
end
def bp_0:bootBuiltins "bool" =some (.type "bool"):=by decide +kernel
def s_8{k:Nat}{scope:Scope}{cl:List (Str×Addr)}{N':List Str}{C:Addr}{s0:Shared}{H0:Hp}{fp:List Addr}{pn:List (Addr×Obj)}{c:Bool}(h:RoomC c k (Cx.A X)):RoomC c k (Cx.A (Hi X scope cl N' C s0 H0 fp pn)):=h
section
variable{X:Cx}{EX:Bq}{a b e:Expr}{es:List Expr}{f g:FE}{fa:FA}{pos p2:Pos}
abbrev FO:=DE->R (Option Int)
def tDo(K:Frag)(EX:Bq)(fo:FO):TO:=λ σ H Q=>∃G δ,Same G H/\HasS K G σ δ/\match fo δ with
 | .ok i=>∀G' H',Step G H G' H'->Q i H'
 | .ex x=>(EX σ).p x G H
 | .no=>False
abbrev OD(X:Cx)(EX:Bq)(e:Option Expr)(fo:FO):Prop:=PO X e (tDo X.K EX fo)
def oNone:FO:=λ_=> .ok none
def intPart:D->R (Option Int)
 | .int i=> .ok (some i)
 |_=> .no
def Ey(f:FE):FO:=λ δ=>(f δ).bind λw=>intPart w.d
def PO.imp{e:Option Expr}{t t':TO}(h:PO X e t)(i:∀σ H Q,t' σ H Q->t σ H Q):PO X e t':=λzc s σ H Q I q=>h zc s σ H Q I (i σ H Q q)
def ds_1:OD X EX none oNone:=PO.imp dq_1 λ σ H Q ⟨G,δ,g,s,o⟩=>o G H (Step.refl g)
def ar_7(h:ED X EX e f):OD X EX (some e) (Ey f):=PO.imp (dq_2 h) λ σ H Q ⟨G,δ,g,s,o⟩=>by
 refine⟨G,δ,g,s, ?_⟩;unfold Ey at o;cases e1:f δ with
 |ok w=>
  rw [e1] at o;simp only [R.bind_ok] at o;refine WP.intro λv G' H' st r=> ?_;revert r o;cases w.d with
  |int i=>intro o r;cases r;exact⟨i,rfl,o G' H' st⟩
  |_=>intro o _;exact False.elim o
 |ex x=>rw [e1] at o;exact o
 |no=>rw [e1] at o;exact o
def cutL{α:Type}(xs:List α)(lo hi:Option Int):List α:=(xs.drop (HT.sIx xs.length 0 lo)).take (HT.sIx xs.length xs.length hi - HT.sIx xs.length 0 lo)
def av_3:D->Option Int->Option Int->R W
 | .lst ds,lo,hi=> .ok (.ow (.lst (cutL ds lo hi)))
 | .str x,lo,hi=>if x.length<=16777216 then .ok (.sh (.str (Txt.slice x lo hi))) else .no
 |_,_,_=> .no
def ee_1:SlR X (λx lo hi H Q=>∃z,x=.str z/\z.length<=sizeLine/\Q (.str (Txt.slice z lo hi)) H):=by
 intro zc s σ H x v vl vu lo hi sl Q I rx hs pl pu h;obtain⟨z,rfl,hz,q⟩:=h;obtain⟨t,rfl⟩:=rx;refine⟨"str",_,PySem.F.slot_str_getitem.lookup,typeIs_str _ _ _, ?_⟩;obtain⟨o,ho,hc,hd⟩:=hs;have fin:∀t' k,EP X zc σ Q (.str (Txt.slice z lo hi) t') {s with toks:=k}:=λt' k=>⟨.str _,H,I.tok _,⟨_,rfl⟩,q⟩;cases pl with
 |none=>
  cases pu with
  |none=>exact wpAny_getItem_str_slice (l:=none) (u:=none) (st:=none) ⟨o,ho,hc,hd⟩ rfl (post_val_or_str ⟨Nat.le_trans (Txt.slice_le z _ _) hz,fin⟩)
  |int j uj=>exact wpAny_getItem_str_slice (l:=none) (u:=some (j,uj)) (st:=none) ⟨o,ho,hc,hd⟩ rfl (post_val_or_str ⟨Nat.le_trans (Txt.slice_le z _ _) hz,fin⟩)
 |int i ui=>
  cases pu with
  |none=>exact wpAny_getItem_str_slice (l:=some (i,ui)) (u:=none) (st:=none) ⟨o,ho,hc,hd⟩ rfl (post_val_or_str ⟨Nat.le_trans (Txt.slice_le z _ _) hz,fin⟩)
  |int j uj=>exact wpAny_getItem_str_slice (l:=some (i,ui)) (u:=some (j,uj)) (st:=none) ⟨o,ho,hc,hd⟩ rfl (post_val_or_str ⟨Nat.le_trans (Txt.slice_le z _ _) hz,fin⟩)
def rSlD(K:Frag):V->Option Int->Option Int->Hp->VK->Prop:=λx lo hi H Q=>∃(EX:EXT) (G:Hp) (d:D),Same G H/\Has K G x d/\Out K EX G H (av_3 d lo hi) Q
def sl_d:SlR X (rSlD X.K):=by
 intro zc s σ H x v vl vu lo hi sl Q I rx hs pl pu h;obtain⟨EX,G,d,g,r,o⟩:=h;cases r with
 |lst h r=>
  rename_i vs ds;refine dq_4 zc s σ H _ v vl vu lo hi sl Q I rx hs pl pu ⟨_,_,rfl,g.seq h,λp hp=> ?_⟩;have gm:HasL X.K G (cutV vs lo hi) (cutL ds lo hi):=by
   unfold cutV cutL;rw [r.length];exact(r.drop _).take _
  exact x_5 o g gm p hp
 |str z=>
  simp only [av_3] at o
  split at o
  ·rename_i hz;exact ee_1 zc s σ H _ v vl vu lo hi sl Q I rx hs pl pu ⟨z,rfl,by rw [sizeLine_eq];exact hz,Dd o g (.str _)⟩
  ·exact o.elim
 |_=>exact False.elim o
def Gg(f:FE)(lo hi:FO):FE:=λ δ=>(f δ).bind λw=>(lo δ).bind λl=>(hi δ).bind λu=>av_3 w.d l u
def tDo.seq{G H:Hp}{σ:Sg}{δ:DE}{fo:FO}{k:Option Int->R W}{Q:VK}{P:Option Int->Hp->Prop}(g:Same G H)(s:HasS K G σ δ)(h:Out K (EX σ) G H ((fo δ).bind k) Q)
  (i:∀b G' H',fo δ=.ok b->Step G H G' H'->Out K (EX σ) G' H' (k b) Q->P b H'):tDo K EX fo σ H P:=by
 refine⟨G,δ,g,s, ?_⟩;cases e:fo δ with
 |ok w=>rw [e] at h;exact λG' H' st=>i w G' H' e st (Out.mono st h)
 |ex x=>rw [e] at h;exact h
 |no=>rw [e] at h;exact h
def bf_2{lo hi:Option Expr}{fl fh:FO}(he:ED X EX e f)(hl:OD X EX lo fl)(hu:OD X EX hi fh):ED X EX (.Subscript e (.Slice lo hi none p2) pos) (Gg f fl fh):=
 PE.imp (de_0 sl_d he hl hu) λ σ H Q ⟨G,δ,g0,s0,o⟩=>tD.seq g0 s0 o λw v G1 H1 _ st1 r1 o1=>tDo.seq st1.gh (s0.mono st1.gg) o1 λl G2 H2 _ st2 o2=>
  tDo.seq st2.gh (s0.mono (st1.gg.trans st2.gg)) o2 λu G3 H3 _ st3 o3=>⟨_,G3,w.d,st3.gh,r1.mono (st2.gg.trans st3.gg),o3⟩
def tyD(T:String):D->Bool
 | .str _=>T == "str"
 | .int _=>T == "int"
 | .lst _=>T == "list"
 |_=>false
def dy_8{G H:Hp}{T:String}{d:D}(g:Same G H)(r:Has K G v d)(h:tyD T d=true):tyV K T v H:=by
 cases r with
 |str x=>exact eq_of_beq h
 |int i=>exact eq_of_beq h
 |lst hq r=>exact .inl ⟨eq_of_beq h,_,g.seq hq⟩
 |_=>cases h
def rDm(K:Frag)(fn:D->List D->R W):V->List V->Hp->VK->Prop:=λx vs H Q=>∃(EX:EXT) (G:Hp) (d:D) (ds:List D),Same G H/\Has K G x d/\HasL K G vs ds/\Out K EX G H (fn d ds) Q
abbrev MtD(X:Cx)(id:String)(fn:D->List D->R W):Prop:=MtR X id (rDm X.K fn)
def Gi(T:String)(fn:D->List D->R W)(f:FE)(fa:FA):FE:=λ δ=>(f δ).bind λw=>if tyD T w.d=true then(fa δ).bind λds=>fn w.d ds else .no
variable{o:Expr}{name:Str}{zf zd:Pos}{T id:String}{fn:D->List D->R W}
def ar_8(pa:PlainAttrs T)(slot:Slot T name id)(hty:typeOf (.builtin id)=pure (.type "method_descriptor"))(hm:MtD X id fn)(ho:ED X EX o f)(ha:AD X EX (e::es) fa)
  (aa:attributeBase o name X.env (eval o X.env)=eval o X.env:=by rfl)
  (ay:((backTo zd (starEach (e::es) X.env)).all (λx=> !x.1) && (backToKw zd (keywordEach [] X.env)).all (λx=>x.1.isSome)
   && decide ((e::es).length + ([]:List Keyword).length + (if([]:List Keyword).isEmpty then 0 else 1) < 30))=true:=by rfl)
  (ae:(zf.endLine ==zd.line)=true:=by rfl) (hs:starEach (e::es) X.env=(false,eval e X.env)::starEach es X.env:=by rfl) (af:(backTo zd (starEach es X.env)).any (·.1)=false:=by rfl):
  ED X EX (.Call (.Attribute o name zf) (e::es) [] zd) (Gi T fn f fa):=
 PE.imp (de_4 pa slot hty hm ho ha aa ay ae hs af) λ σ H Q ⟨G,δ,g0,s0,o⟩=>tD.seq g0 s0 o λw v G1 H1 _ st1 r1 o1=>by
  split at o1
  ·rename_i ht;exact⟨dy_8 st1.gh r1 ht,tDa.seq st1.gh (s0.mono st1.gg) o1 λds vs G2 H2 _ st2 r2 o2=>⟨_,G2,w.d,ds,st2.gh,r1.mono st2.gg,r2,o2⟩⟩
  ·exact o1.elim
def eMeth0(T:String)(fn:D->List D->R W)(f:FE):FE:=λ δ=>(f δ).bind λw=>if tyD T w.d=true then fn w.d [] else .no
def dg_8(pa:PlainAttrs T)(slot:Slot T name id)(hty:typeOf (.builtin id)=pure (.type "method_descriptor"))(hm:MtD X id fn)(ho:ED X EX o f)
  (aa:attributeBase o name X.env (eval o X.env)=eval o X.env:=by rfl) (ae:(zf.endLine ==zd.line)=true:=by rfl):ED X EX (.Call (.Attribute o name zf) [] [] zd) (eMeth0 T fn f):=
 PE.imp (de_3 pa slot hty hm ho aa ae) λ σ H Q ⟨G,δ,g0,s0,o⟩=>tD.seq g0 s0 o λw v G1 H1 _ st1 r1 o1=>by
  split at o1
  ·rename_i ht;exact⟨dy_8 st1.gh r1 ht,_,G1,w.d,[],st1.gh,r1,.nil,o1⟩
  ·exact o1.elim
def dg_9:D->List D->R W
 | .int i,[]=> .ok (.sh (.int (Builtin.Int.intBits i:Nat)))
 |_,_=> .no
def cx_9:MtD X "int.bit_length" dg_9:=by
 intro zc s σ H x vs v us Q I rx rv h;obtain⟨EX,G,d,ds,g,r,rl,o⟩:=h;cases r with
 |int i=>
  cases rl with
  |nil=>
   obtain⟨t,rfl⟩:=rx;cases rv;exact PyProof.Rows.call_int_bit_length ⟨.int _,H,I.tok _,⟨_,rfl⟩,Dd o g (.int _)⟩
  |cons _ _=>exact False.elim o
 |_=>cases rl <;> exact False.elim o
def bf_3:D->List D->R W
 | .str x,[.str y]=> .ok (.sh (.int (Txt.count x y)))
 |_,_=> .no
def bu_2{G:Hp}{d:D}{ds:List D}(r:Has K G v d)(rl:HasL K G vs ds){P:Prop}(h:∀x y,v=.str x->d=.str x->vs= [.str y]->ds= [.str y]->P)(n:(∀x y,¬(d=.str x/\ds= [.str y]))->P):P:=by
 by_cases e:∃x y,d=.str x/\ds= [.str y]
 ·obtain⟨x,y,rfl,rfl⟩:=e;cases r;cases rl with
  |cons a t=>cases a;cases t;exact h x y rfl rfl rfl rfl
 ·exact n λx y z=>e ⟨x,y,z⟩
def cy_0:MtD X "str.count" bf_3:=by
 intro zc s σ H x vs v us Q I rx rv h;obtain⟨EX,G,d,ds,g,r,rl,o⟩:=h;refine bu_2 r rl (λx y e1 e2 e3 e4=> ?_) λn=> ?_
 ·subst e1 e2 e3 e4;obtain⟨t,rfl⟩:=rx;obtain⟨u,rfl,t',rfl⟩:=rv.one;exact SC.count ⟨.int _,H,I.tok _,⟨_,rfl⟩,Dd o g (.int _)⟩
 ·have e:bf_3 d ds=.no:=by
   unfold bf_3
   split
   ·rename_i x y;exact absurd ⟨rfl,rfl⟩ (n x y)
   ·rfl
  rw [e] at o;exact o.elim
def cc_1:D->List D->R W
 | .str x,[.str y]=> .ok (.sh (.int (Txt.find x y)))
 |_,_=> .no
def dh_0:MtD X "str.find" cc_1:=by
 intro zc s σ H x vs v us Q I rx rv h;obtain⟨EX,G,d,ds,g,r,rl,o⟩:=h;refine bu_2 r rl (λx y e1 e2 e3 e4=> ?_) λn=> ?_
 ·subst e1 e2 e3 e4;obtain⟨t,rfl⟩:=rx;obtain⟨u,rfl,t',rfl⟩:=rv.one;exact SC.find ⟨.int _,H,I.tok _,⟨_,rfl⟩,Dd o g (.int _)⟩
 ·have e:cc_1 d ds=.no:=by
   unfold cc_1
   split
   ·rename_i x y;exact absurd ⟨rfl,rfl⟩ (n x y)
   ·rfl
  rw [e] at o;exact o.elim
def bp_1:List D->Option (List Str)
 | []=>some []
 | .str x::ds=>(bp_1 ds).map (x:: ·)
 |_=>none
theorem cc_2{G:Hp}:∀{vs:List V} {ds:List D} {us:List Value} {ys:List Str},HasL K G vs ds->Vals vs us->bp_1 ds=some ys->StrsAre us ys
 |_,_,_,_,.nil,r,e=>by cases r;cases e;exact .nil
 |_,_,_,_,.cons h t,r,e=>by
  cases r with
  |cons r1 r2=>
   cases h with
   |str x=>
    obtain⟨t',rfl⟩:=r1;simp only [bp_1] at e;obtain⟨zs,q,rfl⟩:=Option.map_eq_some_iff.mp e;exact .cons x t' (cc_2 t r2 q)
   |_=>cases e
def ar_9:D->List D->R W
 | .str x,[.lst ds]=>match bp_1 ds with
  |some ys=>if(ys.map (·.length)).sum + ys.length * x.length<=16777216 then .ok (.sh (.str (Txt.join x ys))) else .no
  |none=> .no
 |_,_=> .no
def cc_3:MtD X "str.join" ar_9:=by
 intro zc s σ H x vs v us Q I rx rv h;obtain⟨EX,G,d,ds,g,r,rl,o⟩:=h;cases r with
 |str x=>
  cases rl with
  |nil=>exact False.elim o
  |cons a t=>
   cases t with
   |cons _ _=>cases a <;> exact False.elim o
   |nil=>
    cases a with
    |lst h r=>
     obtain⟨t,rfl⟩:=rx;obtain⟨u,rfl,ru⟩:=rv.one;cases ru;simp only [ar_9] at o
     split at o
     ·rename_i ys e
      split at o
      ·rename_i hz;obtain⟨its,rv',pl,_⟩:=I.list (g.seq h);exact join_list pl.isList (by simpa using cc_2 r rv' e) hz λt' k=>⟨.str _,H,I.tok _,⟨_,rfl⟩,Dd o g (.str _)⟩
      ·exact o.elim
     ·exact o.elim
    |_=>exact False.elim o
 |_=>cases rl <;> exact False.elim o
def Dj(T:String):D->Option Bool
 | .non=>some false
 | .bl _=>some (T == "bool" || T == "int")
 | .int _=>some (T == "int")
 | .str _=>some (T == "str")
 | .lst _=>some (T == "list")
 | .tup _=>some (T == "tuple")
 |_=>none
def eIs(T:String)(f:FE):FE:=λ δ=>(f δ).bind λw=>match Dj T w.d with
 |some k=> .ok (.sh (.bl k))
 |none=> .no
structure KitT(K:Frag)(T:String):Prop where
 non:kitOne K (.type "NoneType") (.type T)=some false
 bl:kitOne K (.type "bool") (.type T)=some (T == "bool" || T == "int")
 int:kitOne K (.type "int") (.type T)=some (T == "int")
 str:kitOne K (.type "str") (.type T)=some (T == "str")
 lst:kitOne K (.type "list") (.type T)=some (T == "list")
 tup:kitOne K (.type "tuple") (.type T)=some (T == "tuple")
def dh_1{T:String}(k:KitT X.K T):Fg X (.builtin "isinstance") (λxs H Q=>∃G x d b,xs= [x,.ty T]/\Same G H/\Has X.K G x d/\Dj T d=some b/\Q (.bl b) H):=by
 intro zc s σ H xs us Q I rv h;obtain⟨G,x,d,b,rfl,g,r,e,q⟩:=h;obtain⟨u,u2,rfl,r1,r2⟩:=rv.two;cases r2;have fin:∀tk,EP X zc σ Q (.bool b) {s with toks:=tk}:=λtk=>⟨.bl b,H,I.tok _,rfl,q⟩;cases r with
 |non=>cases r1;exact kia_one kitx_none I.kIn True.intro (k.non.trans e) (λz=>nomatch z) fin
 |bl y=>cases r1;exact kia_one kitx_bool I.kIn True.intro (k.bl.trans e) (λz=>nomatch z) fin
 |int i=>obtain⟨t,rfl⟩:=r1;exact kia_one kitx_int I.kIn True.intro (k.int.trans e) (λz=>nomatch z) fin
 |str y=>obtain⟨t,rfl⟩:=r1;exact kia_one kitx_str I.kIn True.intro (k.str.trans e) (λz=>nomatch z) fin
 |lst h r=>
  cases r1;obtain⟨its,_,⟨ob,n,e1,c,_,_⟩,_⟩:=I.list (g.seq h);exact kia_one kitx_list I.kIn ⟨ob,e1,c⟩ (k.lst.trans e) (λz=>nomatch z) fin
 |tup h r=>
  cases r1;obtain⟨its,_,⟨ob,e1,c,_⟩,_⟩:=I.tuple (Same.tupS g h);exact kia_one kitx_tuple I.kIn ⟨ob,e1,c⟩ (k.tup.trans e) (λz=>nomatch z) fin
 |exn0 _ _=>cases e
 |exn1 _ _ _ _ _=>cases e
 |dic _ _ _=>cases e
 |obj _ _ _ _=>cases e
def bf_4{Tn:Str}{T:String}{pp p3:Pos}(k:KitT X.K T)(ha:ED X EX a f)(hm:X.mg "isinstance" =none)(hmT:X.mg Tn=none)(hvT:bootBuiltins Tn=some (.type T))(hg:Gl X "isinstance" :=by rfl)(hgT:Gl X Tn:=by rfl)
  (hn:Tn≠ "__name__" :=by decide) (hdT:(Tn ==("__debug__" :Str))=false:=by decide)
  (he:starEach [a,.Name Tn p3] X.env=(false,eval a X.env)::starEach [.Name Tn p3] X.env:=by rfl) (hpl:(backTo pos (starEach [.Name Tn p3] X.env)).any (·.1)=false:=by rfl)
  (hs:starEach [.Name Tn p3] X.env=(false,eval (.Name Tn p3) X.env)::starEach [] X.env:=by rfl):ED X EX (.Call (.Name "isinstance" pp) [a,.Name Tn p3] [] pos) (eIs T f):=
 PE.imp (be_6 (dh_1 k) hg hm boot_isinstance (k_9 ha (k_9 (do_9 (v:=.ty T) hgT hmT hvT rfl hn hdT) y_5 hs) he) (by decide) (by decide) he hpl) λ σ H Q ⟨G,δ,g0,s0,o⟩=>tD.seq g0 s0 o λw v G1 H1 _ st1 r1 o1=>by
  split at o1
  ·rename_i b e;exact⟨G1,v,w.d,b,rfl,st1.gh,r1,e,Dd o1 st1.gh (.bl b)⟩
  ·exact o1.elim
end
def bf_5(K:Frag):Sp:=λvs H Q _=>∃(a:Addr) (ns:List Int),vs= [.ref a]/\SqL K H a (ns.map V.int)/\ns.length<=63/\∀H',Q (.bl true) H'
theorem cr_5{G:Hp}:∀ns:List Int,HasL K G (ns.map V.int) (ns.map D.int)
 | []=> .nil
 |n::ns=> .cons (.int n) (cr_5 ns)
def ee_2{w:World}{k:Nat}{f:Addr}{x:Str}{F:List D->R W}(h:FnX P w K mg base true k f fd [x] (Bi K 1 F))
  (hF:∀ns:List Int,ns.length<=63->∃v,F [.lst (ns.map D.int)]=.ok v/\v.d=.bl true):FnOk P w K mg base CX0 k f fd [x] (bf_5 K):=by
 have hs:∀vs H Q E,bf_5 K vs H Q E->Bi K 1 F vs H Q λ_ _ _=>False:=λvs H Q E q=>by
  obtain⟨a,ns,rfl,hS,hl,q⟩:=q;obtain⟨v,e,ev⟩:=hF ns hl;refine⟨rfl,H,[.lst (ns.map D.int)],Same.refl _,.cons (.lst hS (cr_5 ns)) .nil, ?_⟩;rw [e];refine WP.intro λu G' H' st r=> ?_;rw [ev] at r;cases r;exact q H'
 refine⟨λvs H Q E q=>(hs vs H Q E q).1,λA outer s H args us vs Q E hr e0 hb hv q=>codeAny_mono (h.run A outer s H args us vs Q _ (RoomC.of hr) e0 hb hv (hs vs H Q E q)) λr s' hq=> ?_⟩;cases r with
 |error e=>
  obtain⟨a,C,dx,T,H',_,_,_,_,_,_,_,_,_,_,z⟩:=hq;exact z
 |ok fl=>cases fl <;> exact hq
def em_1{l:PySem.W.OpenLaw}{q:Program}{loose:List Str}{XP:(Str->Option Value)->Heap->Prop}{YP:World->Heap->Prop}{d:DefRec}{K:Params->Frag}{x:Str}{k:Nat}(hn:l.most=some 63)(hdf:d.params.defaults= [])(hr:Room k callerA)
  (hY:∀(w:World) (h:Heap),YP w h->(K w.params).In h)
  (F:∀(w:World) (mg:Str->Option Value) (fa:Addr) (h:Heap),(K w.params).In h->h.Ns mainGlobals mg->mg d.name=some (.ref fa)->
   ∃fd:FuncData,(∀(s:Shared) (u:Value),BindsTo s fd ⟨[u],[]⟩ [(x,u)])/\∀base:Heap,(K w.params).In base->base.Ns mainGlobals mg->FnOk l.prog w (K w.params) mg base CX0 k fa fd [x] (bf_5 (K w.params))):
  PySem.W.WalkO q loose XP YP l.row.toRowW d [] (λf vs=>PySem.call f vs):=
 dq_6 (n:=63) (k:=k) (x:=x) (CX:=λ_=>CX0) (sp:=λw=>bf_5 (K w.params)) hn (by decide) hdf hr hY F (λ_ _ a ns hl _ hS=>⟨a,ns,rfl,hS,hl,λ_=>rfl⟩) λ_ _ _ _ _ z=>z
def Inv.pair{zc:List (Addr×Obj)}{σ:Sg}{s:Shared}{e it:Addr}{h':Heap}{tk:Nat}{its:List Value}(I:Inv X zc σ H s)(fe:Eh X zc H e)(fi:Eh X zc H it)
  (k:∀b o,b≠e->b≠it->s.heap.get? b=some o->h'.get? b=some o) (he:∃o,h'.get? e=some o) (hi:∃o,h'.get? it=some o) (ht:h'.get? s.heap.objs.size=some {cls:=.type "tuple",data:=.seq its.toArray}) (rv:Vals vs its) (hz:vs.length<=sizeLine):
  Inv X zc σ (upd H s.heap.objs.size (.tup vs)) {s with heap:=h',toks:=tk}:=by
 have hn:H s.heap.objs.size=none:=I.hok.fresh (Nat.le_refl _);obtain⟨e0,e1,e2,e3,e4,e5⟩:=fe;obtain⟨i0,i1,i2,i3,i4,i5⟩:=fi;have neH:∀b u,H b=some u->b≠e/\b≠it:=λb u q=>⟨λz=>(by rw [z,e0] at q;cases q),λz=>(by rw [z,i0] at q;cases q)⟩;have lt:∀b o,s.heap.get? b=some o->b≠s.heap.objs.size:=λb o q=>Nat.ne_of_lt (Heap.lt_size q);refine I.step (g':=s.gens) (d':=s.drawn) (ch:=[e,it]) (λb hb=> ?_) (λb o _ _ hc q _=>k b o (λz=>hc (by simp [z])) (λz=>hc (by simp [z])) q)
  (λb o _ _ hc q _=>⟨o.slots,k b o (λz=>hc (by simp [z])) (λz=>hc (by simp [z])) q⟩) (λb o _ q n=>by rw [Bm (lt b o q)];exact n) (λb o hc q=>⟨o,k b o (λz=>hc (by simp [z])) (λz=>hc (by simp [z])) q⟩)
  (λb xs q=>by rw [Bm (Hg q hn)];exact q) (λb o u q=>by rw [Bm (Hg q hn)];exact q) (λb ps q=>⟨#[],by rw [Bm (Hg q hn),q];simp⟩) (λm hm=> ?_) (λb u q=> ?_) I.bare
 ·have hb':b=e\/b=it:=by simpa using hb
  rcases hb' with rfl|rfl
  ·exact⟨e3,e1,e4,e5⟩
  ·exact⟨i3,i1,i4,i5⟩
 ·obtain⟨o,es,ep,ho,r⟩:=hm;exact⟨o,es,ep,k _ o (Ne.symm e1) (Ne.symm i1) ho,r⟩
 ·by_cases z:b=s.heap.objs.size
  ·subst z;rw [Cw] at q;cases q;exact⟨hz,its,rv,⟨_,ht,rfl,0,rfl⟩⟩
  ·rw [Bm z] at q;refine(I.hok b u q).stay (λc v hc r=> ?_) (λc r=>by rw [Bm (Hg r hn)];exact r) λc xs r=>by rw [Bm (Hg r hn)];exact r
   rcases hc with rfl|hc
   ·exact k c v (neH c u q).1 (neH c u q).2 r
   ·exact k c v (neH c _ hc).1 (neH c _ hc).2 r
def Inv.turned2{zc:List (Addr×Obj)}{σ:Sg}{s:Shared}{e it:Addr}{h':Heap}{tk:Nat}(I:Inv X zc σ H s)(fe:Eh X zc H e)(fi:Eh X zc H it)
  (k:∀b o,b≠e->b≠it->s.heap.get? b=some o->h'.get? b=some o):Inv X zc σ H {s with heap:=h',toks:=tk}:=by
 obtain⟨e0,e1,e2,e3,e4,e5⟩:=fe;obtain⟨i0,i1,i2,i3,i4,i5⟩:=fi;have neH:∀b u,H b=some u->b≠e/\b≠it:=λb u q=>⟨λz=>(by rw [z,e0] at q;cases q),λz=>(by rw [z,i0] at q;cases q)⟩;refine I.step (g':=s.gens) (d':=s.drawn) (ch:=[e,it]) (λb hb=> ?_) (λb o _ _ hc q _=>k b o (λz=>hc (by simp [z])) (λz=>hc (by simp [z])) q)
  (λb o _ _ hc q _=>⟨o.slots,k b o (λz=>hc (by simp [z])) (λz=>hc (by simp [z])) q⟩) (λb o _ q n=>n) (λb o hc q=>⟨o,k b o (λz=>hc (by simp [z])) (λz=>hc (by simp [z])) q⟩)
  (λb xs q=>q) (λb o u q=>q) (λb ps q=>⟨#[],by rw [q];simp⟩) (λm hm=> ?_) (λb u q=> ?_) I.bare
 ·have hb':b=e\/b=it:=by simpa using hb
  rcases hb' with rfl|rfl
  ·exact⟨e3,e1,e4,e5⟩
  ·exact⟨i3,i1,i4,i5⟩
 ·obtain⟨o,es,ep,ho,r⟩:=hm;exact⟨o,es,ep,k _ o (Ne.symm e1) (Ne.symm i1) ho,r⟩
 ·refine(I.hok b u q).stay (λc v hc r=> ?_) (λc r=>r) λc xs r=>r;rcases hc with rfl|hc
  ·exact k c v (neH c u q).1 (neH c u q).2 r
  ·exact k c v (neH c _ hc).1 (neH c _ hc).2 r
def enL(K:Frag)(l:Addr):It:=
 ⟨λi H=>∃xs x,SqL K H l xs/\xs[i]? =some x,λi H v H'=>∃p,H p=none/\v=.ref p/\∀xs x,SqL K H l xs->xs[i]? =some x->H'=upd H p (.tup [.int (i:Int),x]),λi H=>∃xs,SqL K H l xs/\xs.length=i⟩
def enS(z:Str):It:=
 ⟨λi _=>i < z.cps.size,λi H v H'=>∃p c,H p=none/\v=.ref p/\z.cps[i]? =some c/\H'=upd H p (.tup [.int (i:Int),.str ⟨#[c]⟩]),λi _=>i=z.cps.size⟩
def dh_2{w:World}{elts:List Expr}{x1:Nat}(e it l:Addr)(hei:e≠it):Turn P w K (.Tuple elts x1 pos) (enL K l) [e,it] e (λi h=>(∃old,IsEnum h e it (i:Int) old)/\h.IsListIter it l i) where
 mem:=by simp
 obj:=λi h st b hb=>by
  have hb':b=e\/b=it:=by simpa using hb
  rcases hb' with rfl|rfl
  ·obtain⟨⟨old,q⟩,_⟩:=st;exact⟨_,q,λv z=>by cases z⟩
  ·obtain⟨_,⟨o,q,c,d⟩⟩:=st;exact⟨o,q,λv z=>by rw [d] at z;cases z⟩
 keep:=λi h h' st k=>by
  obtain⟨⟨old,q⟩,r⟩:=st;exact⟨⟨old,k e (by simp) _ q⟩,r.at λo z=>k it (by simp) o z⟩
 item:=by
  intro X hP hw hK hc i zc s σ H E I hf st hg;subst hP hw hK;obtain⟨xs,x,hq,hx⟩:=hg;obtain⟨its,rv,p,hz⟩:=I.list hq;obtain⟨u,hu,ru⟩:=rv.get hx;obtain⟨⟨old,he⟩,hit⟩:=st;have fe:=hf e (by simp);have fi:=hf it (by simp);have pl:=p.isList;have nle:l≠e:=λz=>by
   subst z;obtain⟨o,ho,hc',_⟩:=pl;rw [show s.heap.get? l=_ from he] at ho;cases ho;exact absurd hc' (by simp)
  have nli:l≠it:=λz=>by
   subst z;obtain⟨o,ho,hc',_⟩:=pl;obtain⟨o',ho',hc2,_⟩:=hit;rw [ho] at ho';cases ho';rw [hc'] at hc2;exact absurd hc2 (by simp)
  have hlt:i < its.toArray.size:=by
   have:=(List.getElem?_eq_some_iff.mp hu).1;simpa using this
  refine wpAny_pyNext_enum_itemD (Draws.list (A:=X.A.in1) (I.ok.hd hc) it l nli its.toArray) he ⟨hit,pl⟩ hlt hei (by simp [hei,Ne.symm nle]) λy h' tk hy ho hst bz hsz kk=> ?_;have ey:y=u:=by
   have:its.toArray[i]? =some u:=by simpa using hu
   rw [this] at hy;exact(Option.some.inj hy).symm
  subst ey;refine⟨_,rfl,wpAny_letOwnedTupleGo_enum ho λh'' bf sb=> ?_⟩;have av:∃old,IsEnum h'' e it ((i + 1:Nat):Int) old:=⟨_,by
   have e1:((i + 1:Nat):Int)=(i:Int) + 1:=by omega
   rw [e1];exact bf⟩
  refine⟨.ref s.heap.objs.size,upd H s.heap.objs.size (.tup [.int (i:Int),x]), ?_,rfl,⟨_,I.hok.fresh (Nat.le_refl _),rfl,λys y' hy' ey'=> ?_⟩,⟨av, ?_⟩,λb hb=> ?_⟩
  ·have ne:s.heap.objs.size≠e:=λz=>absurd (Heap.lt_size he) (by rw [<-z];exact Nat.lt_irrefl _);refine Inv.pair (its:=[.int (i:Int) tk,y]) I fe fi (λb o h1 h2 q=>(sb.2 b h1).trans (kk b o h1 h2 q)) ⟨_,bf⟩ ?_ ((sb.2 _ ne).trans bz) (.cons ⟨_,rfl⟩ (.cons ru .nil)) (by show 2<=sizeLine;decide);obtain⟨⟨o,q,_⟩,_⟩:=hst;exact⟨o,(sb.2 it (Ne.symm hei)).trans q⟩
  ·have:=I.list_inj hy' hq;subst this;rw [hx] at ey';cases ey';rfl
  ·exact hst.1.at λo z=>(sb.2 it (Ne.symm hei)).trans z
  ·have hb':b=e\/b=it:=by simpa using hb
   have hbl:b < s.heap.objs.size:=by
    rcases hb' with rfl|rfl
    ·exact Heap.lt_size he
    ·obtain⟨o,q,_⟩:=hit;exact Heap.lt_size q
   rw [Bm (Nat.ne_of_lt hbl)];exact(hf b hb).1
 done:=by
  intro X hP hw hK hc i zc s σ H E I hf st hg;subst hP hw hK;obtain⟨xs,hq,hx⟩:=hg;obtain⟨its,rv,p,hz⟩:=I.list hq;obtain⟨⟨old,he⟩,hit⟩:=st;have hl:=rv.length;have pl:=p.isList;have nli:l≠it:=λz=>by
   subst z;obtain⟨o,ho,hc',_⟩:=pl;obtain⟨o',ho',hc2,_⟩:=hit;rw [ho] at ho';cases ho';rw [hc'] at hc2;exact absurd hc2 (by simp)
  have en:i=its.toArray.size:=by simp;omega
  refine wpAny_pyNext_enum_endD (Draws.list (A:=X.A.in1) (I.ok.hd hc) it l nli its.toArray) he (by rw [<-en];exact⟨hit,pl⟩) λh' eb=>⟨rfl, ?_⟩;exact Inv.turned2 (tk:=s.toks) I (hf e (by simp)) (hf it (by simp)) λb o h1 h2 q=>eb b o h2 q
 self:=λA i s Q E st h=>by
  obtain⟨⟨old,he⟩,_⟩:=st;exact wpAny_pyIter_enum he h
def bp_2{prog:Program}{w:World}{A:Around}(hh:A.handled=none)(it:Addr)(x:Str)(t:Tok):
  Draws prog w A it [it] x.cps.size (λi v=>∃c u,x.cps[i]? =some c/\v=.str ⟨#[c]⟩ u) (λi h=>h.IsStrIter it (strIterType x) x t i):=by
 unfold strIterType;cases ha:x.cps.all (· < 128)
 ·exact Draws.strWide hh it x t
 ·exact Draws.strAscii hh it x t
def dh_3{w:World}{elts:List Expr}{x1:Nat}(e it:Addr)(z:Str)(t:Tok)(hei:e≠it):Turn P w K (.Tuple elts x1 pos) (enS z) [e,it] e (λi h=>(∃old,IsEnum h e it (i:Int) old)/\h.IsStrIter it (strIterType z) z t i) where
 mem:=by simp
 obj:=λi h st b hb=>by
  have hb':b=e\/b=it:=by simpa using hb
  rcases hb' with rfl|rfl
  ·obtain⟨⟨old,q⟩,_⟩:=st;exact⟨_,q,λv z=>by cases z⟩
  ·obtain⟨_,⟨o,q,c,d⟩⟩:=st;exact⟨o,q,λv z=>by rw [d] at z;cases z⟩
 keep:=λi h h' st k=>by
  obtain⟨⟨old,q⟩,⟨o,r,c⟩⟩:=st;exact⟨⟨old,k e (by simp) _ q⟩,⟨o,k it (by simp) o r,c⟩⟩
 item:=by
  intro X hP hw hK hc i zc s σ H E I hf st hg;subst hP hw hK;obtain⟨⟨old,he⟩,hit⟩:=st;have fe:=hf e (by simp);have fi:=hf it (by simp);refine wpAny_pyNext_enum_itemD (bp_2 (A:=X.A.in1) (I.ok.hd hc) it z t) he hit hg hei (by simp [hei]) λy h' tk hy ho hst bz hsz kk=> ?_;obtain⟨c,uc,hcx,rfl⟩:=hy;refine⟨_,rfl,wpAny_letOwnedTupleGo_enum ho λh'' bf sb=> ?_⟩;have av:∃old,IsEnum h'' e it ((i + 1:Nat):Int) old:=⟨_,by
   have e1:((i + 1:Nat):Int)=(i:Int) + 1:=by omega
   rw [e1];exact bf⟩
  refine⟨.ref s.heap.objs.size,upd H s.heap.objs.size (.tup [.int (i:Int),.str ⟨#[c]⟩]), ?_,rfl,⟨_,c,I.hok.fresh (Nat.le_refl _),rfl,hcx,rfl⟩,⟨av, ?_⟩,λb hb=> ?_⟩
  ·have ne:s.heap.objs.size≠e:=λz=>absurd (Heap.lt_size he) (by rw [<-z];exact Nat.lt_irrefl _);refine Inv.pair (its:=[.int (i:Int) tk,.str ⟨#[c]⟩ uc]) I fe fi (λb o h1 h2 q=>(sb.2 b h1).trans (kk b o h1 h2 q)) ⟨_,bf⟩ ?_ ((sb.2 _ ne).trans bz) (.cons ⟨_,rfl⟩ (.cons ⟨_,rfl⟩ .nil)) (by show 2<=sizeLine;decide);obtain⟨o,q,_⟩:=hst;exact⟨o,(sb.2 it (Ne.symm hei)).trans q⟩
  ·obtain⟨o,q,r⟩:=hst;exact⟨o,(sb.2 it (Ne.symm hei)).trans q,r⟩
  ·have hb':b=e\/b=it:=by simpa using hb
   have hbl:b < s.heap.objs.size:=by
    rcases hb' with rfl|rfl
    ·exact Heap.lt_size he
    ·obtain⟨o,q,_⟩:=hit;exact Heap.lt_size q
   rw [Bm (Nat.ne_of_lt hbl)];exact(hf b hb).1
 done:=by
  intro X hP hw hK hc i zc s σ H E I hf st hg;subst hP hw hK;obtain⟨⟨old,he⟩,hit⟩:=st;have en:i=z.cps.size:=hg;refine wpAny_pyNext_enum_endD (bp_2 (A:=X.A.in1) (I.ok.hd hc) it z t) he (by rw [<-en];exact hit) λh' eb=>⟨rfl, ?_⟩;exact Inv.turned2 (tk:=s.toks) I (hf e (by simp)) (hf it (by simp)) λb o h1 h2 q=>eb b o h2 q
 self:=λA i s Q E st h=>by
  obtain⟨⟨old,he⟩,_⟩:=st;exact wpAny_pyIter_enum he h
def Gc(k:Nat):List D->List D
 | []=> []
 |d::ds=> .tup [.int (k:Int),d]::Gc (k + 1) ds
theorem p_5:∀{ds:List D} {k i:Nat} {d:D},(Gc k ds)[i]? =some d->∃d',ds[i]? =some d'/\d=.tup [.int ((k + i:Nat):Int),d']
 | [],_,_,_,h=>by simp [Gc] at h
 |x::ds,k,0,d,h=>by simp [Gc] at h;exact⟨x,rfl,h.symm⟩
 |x::ds,k,i + 1,d,h=>by
  obtain⟨d',e1,e2⟩:=p_5 (ds:=ds) (k:=k + 1) (i:=i) (by simpa [Gc] using h);exact⟨d',by simpa using e1,by rw [e2,show k + 1 + i=k + (i + 1) by omega]⟩
theorem av_4:∀(ds:List D) (k:Nat),(Gc k ds).length=ds.length
 | [],_=>rfl
 |_::ds,k=>by simp [Gc,av_4 ds (k + 1)]
def av_5:D->R (List D)
 | .lst ds=> .ok (Gc 0 ds)
 | .str x=> .ok (Gc 0 (Gd x))
 |_=> .no
def u_5(f:FE):FI:=λ δ=>(f δ).bind λw=>av_5 w.d
section
variable{X:Cx}{EX:Bq}{a:Expr}{f:FE}{elts:List Expr}{x1:Nat}{tp p pos:Pos}
def iEn(K:Frag)(t:TA):TI:=λ σ H Q=>t σ H λvs H1=>(∃l,vs= [.ref l]/\(∃xs,SqL K H1 l xs)/\Q (enL K l) H1)\/(∃z,vs= [.str z]/\Q (enS z) H1)
def ds_2{ta:TA}(hg:Gl X "enumerate")(hm:X.mg "enumerate" =none)(ha:PA X [a] ta)(hs:starEach [a] X.env= [(false,eval a X.env)]:=by rfl):PI X (.Tuple elts x1 tp) (.Call (.Name "enumerate" p) [a] [] pos) (iEn X.K ta):=by
 intro zc s σ H Q I h;refine Call_ (ae_2 I hg hm PyProof.Rows.boot_enumerate (PyProof.Rows.callWith_type1 (Bh (ha pos zc s σ H _ I h) λus s1 ⟨vs,H1,I1,r1,q1⟩=> ?_) hs rfl));rcases q1 with⟨l,rfl,⟨xs,hq⟩,q⟩|⟨z,rfl,q⟩
 ·obtain⟨u,rfl,ru⟩:=r1.one;cases ru;obtain⟨its,rv,pl,hz⟩:=I1.list hq;refine call_enumerate_list pl.isList λh' he hit hsz kk=>wpAny_pyIter_enum he ?_;refine⟨s1.heap.objs.size + 1,[s1.heap.objs.size + 1,s1.heap.objs.size],_,enL X.K l,H1,rfl,I1.kept (t':=s1.toks) kk,dh_2 _ _ l (Nat.succ_ne_self _),⟨⟨_,he⟩,hit⟩,λb hb=> ?_,q⟩;have hb':b=s1.heap.objs.size + 1\/b=s1.heap.objs.size:=by simpa using hb
  have hbl:s1.heap.objs.size<=b:=by
   rcases hb' with rfl|rfl
   ·exact Nat.le_succ _
   ·exact Nat.le_refl _
  exact I1.fpOk hbl (I1.hok.fresh hbl)
 ·obtain⟨u,rfl,t,rfl⟩:=r1.one;refine call_enumerate_str λh' he hit hsz kk=>wpAny_pyIter_enum he ?_;refine⟨s1.heap.objs.size + 1,[s1.heap.objs.size + 1,s1.heap.objs.size],_,enS z,H1,rfl,I1.kept (t':=s1.toks) kk,dh_3 _ _ z t (Nat.succ_ne_self _),⟨⟨_,he⟩,hit⟩,λb hb=> ?_,q⟩;have hb':b=s1.heap.objs.size + 1\/b=s1.heap.objs.size:=by simpa using hb
  have hbl:s1.heap.objs.size<=b:=by
   rcases hb' with rfl|rfl
   ·exact Nat.le_succ _
   ·exact Nat.le_refl _
  exact I1.fpOk hbl (I1.hok.fresh hbl)
def ds_3{G:Hp}{l:Addr}{ds:List D}(h:SqL K G l vs)(r:HasL K G vs ds):ItD K G (enL K l) (Gc 0 ds):=λG' H g1 g i=>by
 refine⟨λd e=> ?_,λe=> ?_⟩
 ·obtain⟨d',e1,rfl⟩:=p_5 e;obtain⟨v,e2,hv⟩:=r.get e1;refine⟨⟨vs,v,(g1.trans g).seq h,e2⟩,λx H' y=> ?_⟩;obtain⟨p,hp,rfl,y⟩:=y;have:=y vs v ((g1.trans g).seq h) e2;subst this;refine⟨_,Step.new g hp _,.tup (SqT.of Cw) (.cons (by rw [Nat.zero_add];exact .int _) (.cons (hv.mono (g1.trans (n_5 (g.free hp) _))) .nil))⟩
 ·rw [av_4] at e;exact⟨vs,(g1.trans g).seq h,by rw [r.length];exact e⟩
def ds_4{G:Hp}(z:Str):ItD K G (enS z) (Gc 0 (Gd z)):=λG' H g1 g i=>by
 refine⟨λd e=> ?_,λe=> ?_⟩
 ·obtain⟨d',e1,rfl⟩:=p_5 e;unfold Gd at e1;rw [List.getElem?_map] at e1;cases q:z.cps.toList[i]? with
  |none=>rw [q] at e1;cases e1
  |some c=>
   rw [q] at e1;cases e1;have hi:i < z.cps.size:=by
    have:=(List.getElem?_eq_some_iff.mp q).1;simpa using this
   refine⟨hi,λx H' y=> ?_⟩;obtain⟨p,c',hp,rfl,hc,rfl⟩:=y;have:z.cps.toList[i]? =some c':=by simpa using hc
   rw [q] at this;cases this;refine⟨_,Step.new g hp _,.tup (SqT.of Cw) (.cons (by rw [Nat.zero_add];exact .int _) (.cons (.str _) .nil))⟩
 ·rw [av_4] at e;unfold Gd at e;rw [List.length_map] at e;show i=z.cps.size;simp at e;omega
def al_0(hm:X.mg "enumerate" =none)(he:ED X EX a f)(hg:Gl X "enumerate" :=by rfl)(hs:starEach [a] X.env= [(false,eval a X.env)]:=by rfl)(hs1:starEach [a] X.env=(false,eval a X.env)::starEach [] X.env:=by rfl):
  ID X EX (.Tuple elts x1 tp) (.Call (.Name "enumerate" p) [a] [] pos) (u_5 f):=
 PI.imp (ds_2 hg hm (k_9 he y_5 hs1) hs) λ σ H Q ⟨G,δ,g0,s0,o⟩=>by
  refine⟨G,δ,g0,s0, ?_⟩;unfold u_5 at o;cases e1:f δ with
  |ok w=>
   rw [e1] at o;simp only [R.bind_ok] at o;refine WP.intro λv G' H' st r=> ?_;revert r o;cases w.d with
   |lst ds=>
    intro o r;cases r with
    |lst h r=>exact .inl ⟨_,rfl,⟨_,st.gh.seq h⟩,o _ G' H' st (ds_3 h r)⟩
   |str z=>
    intro o r;cases r;exact .inr ⟨z,rfl,o _ G' H' st (ds_4 z)⟩
   |_=>intro o _;exact False.elim o
  |ex x=>rw [e1] at o;exact o
  |no=>rw [e1] at o;exact o
end
def Itr3(lo c:Int)(n:Nat):It:=⟨λi _=>i < n,λi H x H'=>H'=H/\x=.int (lo + (i:Int) * c),λi _=>n<=i⟩
def cc_4{w:World}{tg:Expr}(it:Addr)(lo c:Int)(n:Nat):Turn P w K tg (Itr3 lo c n) [it] it (λi h=>IsRangeIter h it (lo + (i:Nat) * c) ((n:Int) - (i:Nat)) c) where
 mem:=by simp
 obj:=λi h st b hb=>by
  have e:b=it:=by simpa using hb
  subst e;exact⟨_,st,λv z=>by
   have z':Data.fields _=Data.cell v:=z;cases z'⟩
 keep:=λi h h' st k=>k it (by simp) _ st
 item:=by
  intro X hP hw hK hc i zc s σ H E I hf st hg;subst hP hw hK;obtain⟨f0,f1,f2,f3,f4,f5⟩:=hf it (by simp);have W:=Walks.range (prog:=X.prog) (w:=X.w) (I.ok.hd hc) it lo c n;refine W.item i s _ _ hg st λv h' tk hv st' kk=> ?_;obtain⟨t,rfl⟩:=hv;have I1:Inv X zc σ H {s with heap:=h',toks:=tk}:=I.turned (λb o hb e=>kk b o (by simpa using hb) e) f0 f1 f3 f4 f5;exact⟨_,rfl,bn_2 (s:={s with heap:=h',toks:=tk}) (n:= "range_iterator") st' rfl rfl (by decide) ⟨.int (lo + (i:Int) * c),H,I1,⟨t,rfl⟩,⟨rfl,rfl⟩,st',λb hb=>(hf b hb).1⟩⟩
 done:=by
  intro X hP hw hK hc i zc s σ H E I hf st hg;subst hP hw hK;obtain⟨f0,f1,f2,f3,f4,f5⟩:=hf it (by simp);exact wpAny_pyNext_range_end (I.ok.hd hc) st (by have:n<=i:=hg;omega) λh' eb=>⟨rfl,I.turned (t':=s.toks) (λb o hb e=>eb b o hb e) f0 f1 f3 f4 f5⟩
 self:=λ_ _ _ _ _ st h=>wpAny_pyIter_rangeiter st h
def C3(i j c:Int):Prop:=0<=i/\i.natAbs < 1073741824/\j.natAbs < 1073741824/\0 < c/\c.natAbs < 1073741824
instance (i j c:Int):Decidable (C3 i j c):=by unfold C3;exact inferInstance
def ds_5{i j c:Int}(h:C3 i j c):0<=Builtin.Range.rangeSize i j c/\Builtin.Range.rangeSize i j c<=1073741824:=by
 obtain⟨h0,h1,h2,h3,h4⟩:=h;unfold Builtin.Range.rangeSize;rw [if_pos h3]
 split
 ·have:0<=(j - i - 1) / c:=Int.ediv_nonneg (by omega) (by omega);have:(j - i - 1) / c<=j - i - 1:=Int.ediv_le_self _ (by omega);omega
 ·omega
section
variable{X:Cx}{EX:Bq}{tg a b c:Expr}{fa:FA}{ta:TA}{p pos:Pos}
def em_3(ta:TA):TI:=λ σ H R=>ta σ H λvs H1=>∃i j c:Int,vs= [.int i,.int j,.int c]/\C3 i j c/\R (Itr3 i c (Builtin.Range.rangeSize i j c).toNat) H1
def cy_1(hg:Gl X "range")(hm:X.mg "range" =none)(ha:PA X [a,b,c] ta)(hs:starEach [a,b,c] X.env=(false,eval a X.env)::starEach [b,c] X.env)(hpl:(backTo pos (starEach [b,c] X.env)).any (·.1)=false):
  PI X tg (.Call (.Name "range" p) [a,b,c] [] pos) (em_3 ta):=by
 intro zc s σ H R I h;refine Call_ (ae_2 I hg hm boot_range (PyProof.Rows.callWith_type1 (Bh (ha pos zc s σ H _ I h) λus s1 ⟨vs,H1,I1,r1,q1⟩=> ?_) hs hpl));obtain⟨i,j,k,e,hC,q⟩:=q1;subst e;cases r1 with
 |cons r rr=>
  cases rr with
  |cons r' rr=>
   cases rr with
   |cons r'' rr=>
    cases rr;obtain⟨t,rfl⟩:=r;obtain⟨t',rfl⟩:=r';obtain⟨t'',rfl⟩:=r'';have hz:=ds_5 hC;have hC':=hC;obtain⟨h0,h1,h2,h3,h4⟩:=hC';refine call_range_3 (by omega) ?_ (Or.inl (PyProof.noPylong_small (by omega)));have sm:Builtin.Range.small i j k=true:=by
     unfold Builtin.Range.small;simp only [Builtin.Range.rangeFitsLong,Bool.and_eq_true,Bool.or_eq_true,decide_eq_true_eq,beq_iff_eq];refine⟨⟨⟨⟨⟨by omega,by omega⟩,by omega,by omega⟩,by omega,by omega⟩,by omega,by omega⟩,.inr ?_⟩;rw [if_pos (show k > 0 from h3),Bool.and_eq_true,decide_eq_true_eq,decide_eq_true_eq];omega
    refine wpAny_pyIter_range (IsRange.new ..) sm ?_;have I2:Inv X zc σ H1 {s1 with heap:=s1.heap.push {cls:=.type "range",data:=.fields #[.int i t,.int j t',.int k t'']}}:=I1.kept (t':=s1.toks) λb o e=>Heap.get?_push_of_some _ e;refine⟨(s1.heap.push {cls:=.type "range",data:=.fields #[.int i t,.int j t',.int k t'']}).objs.size,[(s1.heap.push {cls:=.type "range",data:=.fields #[.int i t,.int j t',.int k t'']}).objs.size],_,_,H1,rfl,
     I2.kept (t':=s1.toks) λb o e=>Heap.get?_push_of_some _ e,cc_4 _ i k (Builtin.Range.rangeSize i j k).toNat, ?_,λb hb=> ?_,q⟩
    ·have e1:i + ((0:Nat):Int) * k=i:=by simp
     have e2:(((Builtin.Range.rangeSize i j k).toNat:Nat):Int) - ((0:Nat):Int)=Builtin.Range.rangeSize i j k:=by omega
     show IsRangeIter _ _ (i + ((0:Nat):Int) * k) ((((Builtin.Range.rangeSize i j k).toNat:Nat):Int) - ((0:Nat):Int)) k;rw [e1,e2];exact Heap.get?_push_size _ rfl
    ·have e:b=(s1.heap.push {cls:=.type "range",data:=.fields #[.int i t,.int j t',.int k t'']}).objs.size:=by simpa using hb
     subst e;exact I2.fpOk (Nat.le_refl _) (I2.hok.fresh (Nat.le_refl _))
def Gz(lo c:Int)(n:Nat):List D:=(List.range n).map λ(k:Nat)=>D.int (lo + (k:Int) * c)
def bf_6{lo c:Int}{n i:Nat}{d:D}(h:(Gz lo c n)[i]? =some d):i < n/\d=.int (lo + (i:Int) * c):=by
 unfold Gz at h;rw [List.getElem?_map] at h
 by_cases hi:i < n
 ·rw [List.getElem?_range hi] at h;cases h;exact⟨hi,rfl⟩
 ·rw [List.getElem?_eq_none (by rw [List.length_range];omega)] at h;cases h
def bf_7(lo c:Int)(n:Nat):(Gz lo c n).length=n:=by unfold Gz;rw [List.length_map,List.length_range]
def Gs:List D->R (List D)
 | [.int i,.int j,.int c]=>if C3 i j c then .ok (Gz i c (Builtin.Range.rangeSize i j c).toNat) else .no
 |_=> .no
def cy_2(hm:X.mg "range" =none)(ha:AD X EX [a,b,c] fa)(hg:Gl X "range" :=by rfl)(hs:starEach [a,b,c] X.env=(false,eval a X.env)::starEach [b,c] X.env:=by rfl)(hpl:(backTo pos (starEach [b,c] X.env)).any (·.1)=false:=by rfl):
  ID X EX tg (.Call (.Name "range" p) [a,b,c] [] pos) (Ax Gs fa):=
 PI.imp (cy_1 hg hm ha hs hpl) λ σ H Q ⟨G,δ,g0,s0,o⟩=>tDa.seqI g0 s0 o λds vs G' H' st r o'=>by
  by_cases hds:∃i j c,ds= [.int i,.int j,.int c]
  ·obtain⟨i,j,c,rfl⟩:=hds;obtain rfl:vs= [.int i,.int j,.int c]:=by
    cases r with
    |cons r1 r=>
     cases r with
     |cons r2 r=>
      cases r with
      |cons r3 r=>
       cases r;cases r1;cases r2;cases r3;rfl
   by_cases hc:C3 i j c
   ·rw [show Gs [.int i,.int j,.int c]=.ok (Gz i c (Builtin.Range.rangeSize i j c).toNat) from if_pos hc] at o';refine⟨i,j,c,rfl,hc,o' _ G' H' (Step.refl st.gh) λG2 H2 _ g k=>⟨λd e=> ?_,λe=> ?_⟩⟩
    ·obtain⟨hi,rfl⟩:=bf_6 e;refine⟨hi,λx H' y=> ?_⟩;obtain⟨e1,e2⟩:=y;subst e1 e2;exact⟨G2,Step.refl g,.int _⟩
    ·rw [bf_7] at e;exact Nat.le_of_eq e
   ·rw [show Gs [.int i,.int j,.int c]=.no from if_neg hc] at o';exact o'.elim
  ·have e:Gs ds=.no:=by
    unfold Gs
    split
    ·rename_i i j c;exact absurd ⟨i,j,c,rfl⟩ hds
    ·rfl
   rw [e] at o';exact o'.elim
end
section
variable{X:Cx}{EX:Bq}{a:Expr}{f:FE}{pos:Pos}
def av_6:List D->Option (List Bool)
 | []=>some []
 | .bl b::ds=>(av_6 ds).map (b:: ·)
 |_=>none
def allD:List D->R W
 | [.lst ds]=>match av_6 ds with
  |some bs=> .ok (.sh (.bl (bs.all id)))
  |none=> .no
 |_=> .no
theorem cc_5{G:Hp}:∀{vs:List V} {ds:List D} {us:List Value} {bs:List Bool},HasL K G vs ds->Vals vs us->av_6 ds=some bs->us=bs.map Value.bool
 |_,_,_,_,.nil,r,e=>by cases r;cases e;rfl
 |_,_,_,_,.cons h t,r,e=>by
  cases r with
  |cons r1 r2=>
   cases h with
   |bl x=>
    cases r1;simp only [av_6] at e;obtain⟨zs,q,rfl⟩:=Option.map_eq_some_iff.mp e;rw [List.map_cons,cc_5 t r2 q]
   |_=>cases e
def cy_3(bs:List Bool):(List.range bs.length).all (λi=>bs.getD i true)=bs.all id:=by
 rw [Bool.eq_iff_iff,List.all_eq_true,List.all_eq_true];constructor
 ·intro h b hb;obtain⟨i,hi,e⟩:=List.getElem_of_mem hb;have:=h i (List.mem_range.mpr hi);simp [hi] at this;rw [<-e];exact this
 ·intro h i hi;have hi:=List.mem_range.mp hi;simp [hi];exact h _ (List.getElem_mem hi)
def cy_4(hc:X.calm=true):Ek X (.builtin "all") allD:=by
 intro zc s σ H vs us Q I rv q;obtain⟨EX,G,ds,g,r,o⟩:=q;cases r with
 |nil=>exact False.elim o
 |cons h t=>
  cases t with
  |cons _ _=>cases h <;> exact False.elim o
  |nil=>
   cases h with
   |lst h r=>
    rename_i l _ _;simp only [allD] at o
    split at o
    ·rename_i bs e;obtain⟨u,rfl,ru⟩:=rv.one;cases ru;obtain⟨its,rv',pl,hz⟩:=I.list (g.seq h);have eb:=cc_5 r rv' e;subst eb;have nl:l≠s.heap.objs.size:=λz=>by
      obtain⟨o',ho,_⟩:=pl.isList;exact absurd (Heap.lt_size ho) (by rw [<-z];exact Nat.lt_irrefl _)
     refine call_all_walk (wpAny_pyIter_list pl.isList ⟨s.heap.objs.size,_,_,_,_,_,λi=>bs.getD i true,rfl,Walks.list (A:=X.A.in1) (I.ok.hd hc) s.heap.objs.size l nl (bs.map Value.bool).toArray,⟨⟨_,Heap.get?_push_size _ rfl,rfl,rfl⟩, ?_⟩,λi v s' Q' E' hP hQ=> ?_,λh' tk kk=> ?_⟩)
     ·exact pl.isList.at λo z=>Heap.get?_push_of_some _ z
     ·have hP':(bs.map Value.bool)[i]? =some v:=by simpa using hP
      rw [List.getElem?_map] at hP';cases q:bs[i]? with
      |none=>rw [q] at hP';cases hP'
      |some b=>
       rw [q] at hP';cases hP';have:bs.getD i true=b:=by simp [List.getD,q]
       dsimp only at hQ;rw [this] at hQ;exact wpAny_truthy_bool hQ
     ·have en:(bs.map Value.bool).toArray.size=bs.length:=by simp
      rw [en,cy_3];refine⟨.bl _,H,I.kept (t':=tk) λb o' z=>kk b o' (by
       have hb:b≠s.heap.objs.size:=Nat.ne_of_lt (Heap.lt_size z);simpa using hb) (Heap.get?_push_of_some _ z),rfl,Dd o g (.bl _)⟩
    ·exact o.elim
   |_=>exact False.elim o
def av_7:D->List D->R W
 | .str x,[.str y]=>match Builtin.Str.occurrences x y 0 x.length 1 with
  |i::_=> .ok (.sh (.int (i:Nat)))
  | []=> .no
 |_,_=> .no
def cy_5:MtD X "str.index" av_7:=by
 intro zc s σ H x vs v us Q I rx rv h;obtain⟨EX,G,d,ds,g,r,rl,o⟩:=h;refine bu_2 r rl (λx y e1 e2 e3 e4=> ?_) λn=> ?_
 ·subst e1 e2 e3 e4;obtain⟨t,rfl⟩:=rx;obtain⟨u,rfl,t',rfl⟩:=rv.one;simp only [av_7] at o
  split at o
  ·rename_i i Ew e;exact SC.index e ⟨.int _,H,I.tok _,⟨_,rfl⟩,Dd o g (.int _)⟩
  ·exact o.elim
 ·have e:av_7 d ds=.no:=by
   unfold av_7
   split
   ·rename_i x y;exact absurd ⟨rfl,rfl⟩ (n x y)
   ·rfl
  rw [e] at o;exact o.elim
end
section
variable{prog:Program}{w:World}{A:Around}{E:Value->Shared->Prop}{s:Shared}
end
section
variable{X:Cx}{EX:Bq}{pos:Pos}
def HasS.skip{G:Hp}{σ:Sg}{δ:DE}{i:Nat}(h:HasS K G σ δ)(e:δ[i]? =some none):HasS K G (σ.set i (some v)) δ:=by
 refine⟨by rw [List.length_set];exact h.len,λj d' e'=> ?_⟩;obtain⟨v',e1,r'⟩:=h.get j d' e';refine⟨v', ?_,r'⟩;rw [List.getElem?_set_ne]
 ·exact e1
 ·rintro rfl
  rw [e] at e';cases e'
end
section
variable{X:Cx}{EX:Bq}
def nonB:D->Bool
 | .non=>true
 |_=>false
def isND(neg:Bool):D->D->R W
 |d,.non=> .ok (.sh (.bl (if neg then !nonB d else nonB d)))
 |_,_=> .no
def dh_5{G:Hp}{d:D}(r:Has K G v d):decide (v=.non)=nonB d:=by
 cases r <;> rfl
def ds_6:Fm X (compareOp .Is) (isND false):=by
 intro zc s σ H x y v u Q I rx ry q;obtain⟨EX,G,a,b,g,ra,rb,o⟩:=q;cases rb with
 |non=>exact eb_9 zc s σ H _ _ _ _ Q I rx ry ⟨rfl,by rw [dh_5 ra];exact Dd o g (.bl _)⟩
 |_=>exact False.elim o
def cc_6:Fm X (compareOp .IsNot) (isND true):=by
 intro zc s σ H x y v u Q I rx ry q;obtain⟨EX,G,a,b,g,ra,rb,o⟩:=q;cases rb with
 |non=>exact dp_4 zc s σ H _ _ _ _ Q I rx ry ⟨rfl,by rw [dh_5 ra];exact Dd o g (.bl _)⟩
 |_=>exact False.elim o
def as_0(i:Nat)(fi fe:FE):FS:=λ Δ=>match Δ[i]? with
 |some (.ow (.lst ds))=>(match fe (Ar Δ) with
  | .ok w=>if Ba w.d=true then(match fi (Ar Δ) with
   | .ok z=>(match z.d with
    | .int k=>(match ixN ds.length k with
     |some j=> .nx (Δ.set i (.ow (.lst (ds.set j w.d))))
     |none=> .no)
    |_=> .no)
   |_=> .no) else .no
  |_=> .no)
 |_=> .no
def bu_3{i:Nat}{x:Str}{e ie:Expr}{fe fi:FE}{p1 zg pos:Pos}(he:ED X EX e fe)(hi:ED X EX ie fi)(hN:X.N[i]? =some x:=by rfl)(hv:Hk X.env.scope x:=by first|exact Or.inl rfl|exact Or.inr (Or.inl rfl)|exact Or.inr (Or.inr rfl))(hd:(x ==("__debug__" :Str))=false:=by decide)
  (hcd:(x ==("__classdict__" :Str))=false:=by decide)
  (ha:∀v,assign (.Subscript (.Name x p1) ie zg) X.env v=(do
   let ov<-holding [v] (eval (.Name x p1) X.env)
   let iv<-holding [v,ov] (eval ie X.env)
   standAt zg
   holding [v,ov,iv] (setItem ov iv v)
   release [v,ov,iv] []):=by intro _;rfl)
  (hs:swapsWithSole [.Subscript (.Name x p1) ie zg] e pos.line X.env=pure false:=by rfl) (hw:swappedStores [.Subscript (.Name x p1) ie zg] e X.env=pure none:=by rfl)
  (h1:(assignEach [.Subscript (.Name x p1) ie zg] X.env).map (·.2)= [assign (.Subscript (.Name x p1) ie zg) X.env]:=by rfl):
  SD X EX (.Assign [.Subscript (.Name x p1) ie zg] e pos) (as_0 i fi fe):=
 PS.imp (cj_6 he (dc_9 (Fu hN hv hd hcd) hi ca_3 ha) hs hw h1) λD σ H ⟨H0,G0,G,Δ,O,E,q⟩=>by
  unfold as_0 at q
  split at q
  ·rename_i ds e1;obtain⟨v0,s1,t⟩:=E.ow i _ _ e1 rfl;obtain⟨a,vs,rfl,m,hH,rl⟩:=t.list_of
   ·skip
    refine⟨Fw G H O,Ar Δ,E.aH,E.gall, ?_⟩;cases e2:fe (Ar Δ) with
    |ex x=>rw [e2] at q;exact q.elim
    |no=>rw [e2] at q;exact q.elim
    |ok w=>
     simp only [e2] at q
     split at q
     ·rename_i fl;refine WP.intro λv G' H' st r=> ?_;have E1:=E.keep st.hh;refine⟨.ref a,s1,Fw G H' O,Ar Δ,E1.aH,E1.gall, ?_⟩;cases e3:fi (Ar Δ) with
      |ex x=>simp only [e3] at q;exact q.elim
      |no=>simp only [e3] at q;exact q.elim
      |ok z=>
       simp only [e3] at q;refine WP.intro λv2 G2 H2 st2 r2=> ?_;revert q r2;cases z.d with
       |int k=>
        intro q r2;cases r2;cases e4:ixN ds.length k with
        |none=>simp only [e4] at q;exact q.elim
        |some j=>
         simp only [e4] at q;have hH2:H2 a=some (.lst vs):=st2.hh _ _ (st.hh _ _ hH);refine⟨a,vs,k,j,rfl,rfl,hH2,by rw [rl.length];exact e4, ?_⟩;exact q σ G _ _ ((E1.keep st2.hh).writeL s1 m (HasL.set (r.ofFl fl) j rl)) (Same.refl _)
       |_=>intro q _;exact False.elim q
     ·exact q.elim
  ·exact q.elim
end
def Itv(K:Frag)(a:Addr)(xs:List V):It:=⟨λi H=>SqL K H a xs/\i < xs.length,λi H x H'=>H'=H/\xs[xs.length - 1 - i]? =some x,λi _=>i=xs.length⟩
def dh_6{w:World}{tg:Expr}(a it:Addr)(xs:List V):Turn P w K tg (Itv K a xs) [it] it (λi h=>h.IsRevIter it a ((xs.length:Int) - 1 - (i:Int))) where
 mem:=by simp
 obj:=λi h st b hb=>by
  have e:b=it:=by simpa using hb
  subst e;obtain⟨o,e,c,d⟩:=st;exact⟨o,e,λv z=>by rw [d] at z;cases z⟩
 keep:=λi h h' st k=>st.at λo e=>k it (by simp) o e
 item:=by
  intro X hP hw hK hc i zc s σ H E I hf st hg;subst hP hw hK;obtain⟨hq,hlt⟩:=hg;obtain⟨its,rv,p,hz⟩:=I.list hq;obtain⟨f0,f1,f2,f3,f4,f5⟩:=hf it (by simp);have e:(xs.length:Int) - 1 - (i:Int)=((xs.length - 1 - i:Nat):Int):=by omega
  rw [e] at st;obtain⟨x,hx⟩:∃x,xs[xs.length - 1 - i]? =some x:=⟨_,List.getElem?_eq_getElem (by omega)⟩;obtain⟨u,hu,ru⟩:=rv.get hx;refine wpAny_pyNext_rev_item st p.isList (x:=u) (by simpa using hu) λh' st' sb=> ?_;have I1:Inv X zc σ H {s with heap:=h'}:=I.turned (t':=s.toks) (λb o hb e=>(sb.2 b hb).trans e) f0 f1 f3 f4 f5;have e2:((xs.length - 1 - i:Nat):Int) - 1=(xs.length:Int) - 1 - ((i + 1:Nat):Int):=by omega
  rw [e2] at st';obtain⟨o,e,c,d⟩:=id st';exact⟨u,rfl,bn_2 (s:={s with heap:=h'}) e c d (by decide) ⟨x,H,I1,ru,⟨rfl,hx⟩,st',λb hb=>(hf b hb).1⟩⟩
 done:=by
  intro X hP hw hK hc i zc s σ H E I hf st hg;subst hP hw hK;have hg:i=xs.length:=hg;subst hg;obtain⟨f0,f1,f2,f3,f4,f5⟩:=hf it (by simp);have e:(xs.length:Int) - 1 - (xs.length:Int)= -1:=by omega
  rw [e] at st;exact wpAny_pyNext_rev_end (I.ok.hd hc) st λh' eb=>⟨rfl,I.turned (t':=s.toks) (λb o hb e=>eb b o hb e) f0 f1 f3 f4 f5⟩
 self:=λ_ _ _ _ _ st h=>wpAny_pyIter_revIter st h
def dy_9:D->R (List D)
 | .lst ds=> .ok ds.reverse
 |_=> .no
def iRev(f:FE):FI:=λ δ=>(f δ).bind λw=>dy_9 w.d
def ds_7{G:Hp}{l:Addr}{ds:List D}(h:SqL K G l vs)(r:HasL K G vs ds):ItD K G (Itv K l vs) ds.reverse:=λG' H g1 g i=>by
 have hl:=r.length;refine⟨λd e=> ?_,λe=> ?_⟩
 ·have hi:i < ds.length:=by
   have:=(List.getElem?_eq_some_iff.mp e).1;simpa using this
  rw [List.getElem?_reverse hi] at e;obtain⟨v,e2,hv⟩:=r.get e;refine⟨⟨(g1.trans g).seq h,by omega⟩,λx H' y=> ?_⟩;obtain⟨e3,y⟩:=y;subst e3;rw [hl,e2] at y;cases y;exact⟨G',Step.refl g,hv.mono g1⟩
 ·rw [List.length_reverse] at e;show i=vs.length;omega
section
variable{X:Cx}{EX:Bq}{tg a b:Expr}{f g:FE}{fa:FA}{p pos:Pos}
def iRv(K:Frag)(t:TA):TI:=λ σ H Q=>t σ H λvs H1=>∃l xs,vs= [.ref l]/\SqL K H1 l xs/\Q (Itv K l xs) H1
def ee_3{ta:TA}(hg:Gl X "reversed")(hm:X.mg "reversed" =none)(ha:PA X [a] ta)(hs:starEach [a] X.env= [(false,eval a X.env)]:=by rfl):PI X tg (.Call (.Name "reversed" p) [a] [] pos) (iRv X.K ta):=by
 intro zc s σ H Q I h;refine Call_ (ae_2 I hg hm PyProof.Rows.boot_reversed (PyProof.Rows.callWith_type1 (Bh (ha pos zc s σ H _ I h) λus s1 ⟨vs,H1,I1,r1,q1⟩=> ?_) hs rfl));obtain⟨l,xs,rfl,hq,q⟩:=q1;obtain⟨u,rfl,ru⟩:=r1.one;cases ru;obtain⟨its,rv,pl,hz⟩:=I1.list hq;have hl:=rv.length;refine call_reversed_list pl.isList ?_;refine wpAny_pyIter_revIter (i:=(its.toArray.size:Int) - 1) ⟨_,Heap.get?_push_size _ rfl,rfl,rfl⟩ ?_;refine⟨s1.heap.objs.size,[s1.heap.objs.size],_,Itv X.K l xs,H1,rfl,I1.kept (t':=s1.toks) λb o e=>Heap.get?_push_of_some _ e,dh_6 l _ xs,⟨_,Heap.get?_push_size _ rfl,rfl, ?_⟩,λb hb=> ?_,q⟩
 ·have e:(xs.length:Int) - 1 - ((0:Nat):Int)=(its.toArray.size:Int) - 1:=by simp;omega
  rw [e];rfl
 ·have e:b=s1.heap.objs.size:=by simpa using hb
  subst e;exact I1.fpOk (Nat.le_refl _) (I1.hok.fresh (Nat.le_refl _))
def ee_4(hm:X.mg "reversed" =none)(he:ED X EX a f)(hg:Gl X "reversed" :=by rfl)(hs:starEach [a] X.env= [(false,eval a X.env)]:=by rfl)(hs1:starEach [a] X.env=(false,eval a X.env)::starEach [] X.env:=by rfl):
  ID X EX tg (.Call (.Name "reversed" p) [a] [] pos) (iRev f):=
 PI.imp (ee_3 hg hm (k_9 he y_5 hs1) hs) λ σ H Q ⟨G,δ,g0,s0,o⟩=>by
  refine⟨G,δ,g0,s0, ?_⟩;unfold iRev at o;cases e1:f δ with
  |ok w=>
   rw [e1] at o;simp only [R.bind_ok] at o;refine WP.intro λv G' H' st r=> ?_;revert r o;cases w.d with
   |lst ds=>
    intro o r;cases r with
    |lst h r=>exact⟨_,_,rfl,st.gh.seq h,o _ G' H' st (ds_7 h r)⟩
   |_=>intro o _;exact False.elim o
  |ex x=>rw [e1] at o;exact o
  |no=>rw [e1] at o;exact o
theorem HasL.rep{G:Hp}{ds:List D}(r:HasL K G vs ds):∀n:Nat,HasL K G (List.replicate n vs).flatten (List.replicate n ds).flatten
 |0=> .nil
 |n + 1=>by rw [List.replicate_succ,List.replicate_succ,List.flatten_cons,List.flatten_cons];exact r.append (HasL.rep r n)
def repD(ds:List D):D->R W
 | .int k=>if k.natAbs < 4611686018427387904/\ds.length * k.toNat<=16777216 then .ok (.ow (.lst (List.replicate k.toNat ds).flatten)) else .no
 |_=> .no
def eRep(fa:FA)(f:FE):FE:=λ δ=>(fa δ).bind λds=>if ds.length<=16777216 then(f δ).bind λw=>repD ds w.d else .no
def cm_2{es:List Expr}{gk:Pos}(ha:AD X EX es fa)(hb:ED X EX b f):ED X EX (.BinOp (.List es gk) .Mult b pos) (eRep fa f):=
 PE.imp (dy_5 ec_8 (dd_9 ha) hb) λ σ H Q ⟨G,δ,g0,s0,o⟩=>tDa.seq g0 s0 o λds vs G' H' _ st r o'=>by
  split at o'
  ·rename_i hz;refine⟨by rw [r.length,sizeLine_eq];exact hz,λq hq=> ?_⟩;have so:=Step.own st.gh hq (.lst vs);refine tD.seq so.gh (s0.mono st.gg) (Out.mono so o') λw v G2 H2 _ st2 r2 o2=> ?_;revert r2 o2;cases w.d with
   |int k=>
    intro r2 o2;cases r2;simp only [repD] at o2
    split at o2
    ·rename_i hk;exact⟨q,k,vs,rfl,rfl,st2.hh _ _ Cw,by have:=hk.1;omega,by have:=hk.1;omega,by rw [r.length,sizeLine_eq];exact hk.2,x_5 o2 st2.gh ((r.mono st2.gg).rep k.toNat)⟩
    ·exact o2.elim
   |_=>intro _ o2;exact False.elim o2
  ·exact o'.elim
def Gu:List D->Option (List Int)
 | []=>some []
 | .int i::ds=>(Gu ds).map (i:: ·)
 |_=>none
def sumD:List D->R W
 | [.lst ds]=>match Gu ds with
  |some is=> .ok (.sh (.int is.sum))
  |none=> .no
 |_=> .no
theorem cr_6{G:Hp}:∀{vs:List V} {ds:List D} {us:List Value} {is:List Int},HasL K G vs ds->Vals vs us->Gu ds=some is->us.length=is.length/\∀(j:Nat) (v:Value),us[j]? =some v->∃t,v=.int (is.getD j 0) t
 |_,_,_,_,.nil,r,e=>by cases r;cases e;exact⟨rfl,λj v h=>by simp at h⟩
 |_,_,_,_,.cons h t,r,e=>by
  cases r with
  |cons r1 r2=>
   cases h with
   |int x=>
    obtain⟨tk,rfl⟩:=r1;simp only [Gu] at e;obtain⟨zs,q,rfl⟩:=Option.map_eq_some_iff.mp e;obtain⟨h1,h2⟩:=cr_6 t r2 q;refine⟨by simp [h1],λj v hj=> ?_⟩;cases j with
    |zero=>simp at hj;subst hj;exact⟨tk,rfl⟩
    |succ j=>
     obtain⟨t',e'⟩:=h2 j v (by simpa using hj);exact⟨t',by rw [e'];simp⟩
   |_=>cases e
theorem ay_5(is:List Int):∀j,preSum (λi=>is.getD i 0) j=(is.take j).sum
 |0=>by simp [preSum]
 |j + 1=>by rw [preSum,ay_5 is j,PySem.sum_take_succ]
def cy_7(hc:X.calm=true):Ek X (.builtin "sum") sumD:=by
 intro zc s σ H vs us Q I rv q;obtain⟨EX,G,ds,g,r,o⟩:=q;cases r with
 |nil=>exact False.elim o
 |cons h t=>
  cases t with
  |cons _ _=>cases h <;> exact False.elim o
  |nil=>
   cases h with
   |lst h r=>
    rename_i l _ _;simp only [sumD] at o
    split at o
    ·rename_i is e;obtain⟨u,rfl,ru⟩:=rv.one;cases ru;obtain⟨its,rv',pl,hz⟩:=I.list (g.seq h);obtain⟨el,ev⟩:=cr_6 r rv' e;have nl:l≠s.heap.objs.size:=λz=>by
      obtain⟨o',ho,_⟩:=pl.isList;exact absurd (Heap.lt_size ho) (by rw [<-z];exact Nat.lt_irrefl _)
     have ll:l < s.heap.objs.size:=by
      obtain⟨o',ho,_⟩:=pl.isList;exact Heap.lt_size ho
     refine call_sum_walkAnyS (wpAny_pyIter_list pl.isList ⟨s.heap.objs.size,_,_,_,_,_,_,λi=>is.getD i 0,rfl,(Walks.list (A:=X.A.in1) (I.ok.hd hc) s.heap.objs.size l nl its.toArray).toS,⟨⟨_,Heap.get?_push_size _ rfl,rfl,rfl⟩, ?_⟩,λb hb=> ?_,λi v hP=>ev i v (by simpa using hP),λs' t' mv=> ?_⟩)
     ·exact pl.isList.at λo z=>Heap.get?_push_of_some _ z
     ·rw [Heap.size_push];have hb':b=s.heap.objs.size\/b=l:=by simpa using hb
      rcases hb' with rfl|rfl
      ·exact Nat.lt_succ_self _
      ·exact Nat.lt_succ_of_lt ll
     ·have en:its.toArray.size=is.length:=by simp [el]
      rw [en,ay_5,List.take_length];obtain⟨m1,m2,m3,m4,m5⟩:=mv;have e':s'={s with heap:=s'.heap,toks:=s'.toks}:=by
       cases s';simp only at m2 m3 m4;subst m2 m3 m4;rfl
      rw [e'];refine⟨.int _,H,I.kept (t':=s'.toks) λb o' z=>m1 b o' (by
       have hb:b≠s.heap.objs.size:=Nat.ne_of_lt (Heap.lt_size z);simpa using hb) (Heap.get?_push_of_some _ z),⟨t',rfl⟩,Dd o g (.int _)⟩
    ·exact o.elim
   |_=>exact False.elim o
def cy_8{G:Hp}(lo:Int):∀n:Nat,HasL K G ((List.range n).map λ(k:Nat)=>V.int (lo + (k:Int))) (Cc lo n):=by
 intro n;unfold Cc;generalize List.range n=l
 induction l with
 |nil=>exact .nil
 |cons a l ih=>exact .cons (.int _) ih
def em_4{n:Nat}{lo:Int}{zm:Array Value}(h:PySem.ItemsOf (λi v=>∃t,v=.int (lo + i * 1) t) zm n):Vals ((List.range n).map λ(k:Nat)=>V.int (lo + (k:Int))) zm.toList:=by
 obtain⟨h1,h2⟩:=h;have all:∀(l:List Value) (k:Nat),(∀(j:Nat) v,l[j]? =some v->∃t,v=.int (lo + ((k + j:Nat):Int)) t)->Vals ((List.range' k l.length).map λ(k:Nat)=>V.int (lo + (k:Int))) l:=by
  intro l
  induction l with
  |nil=>intro k _;exact .nil
  |cons a l ih=>
   intro k h;rw [List.length_cons,List.range'_succ,List.map_cons];refine .cons ?_ (ih (k + 1) λj v hj=> ?_)
   ·obtain⟨t,e⟩:=h 0 a rfl;exact⟨t,by rw [e];rfl⟩
   ·obtain⟨t,e⟩:=h (j + 1) v (by simpa using hj);exact⟨t,by rw [e,show k + (j + 1)=k + 1 + j by omega]⟩
 have:=all zm.toList 0 λj v hj=>by
  obtain⟨t,e⟩:=h2 j v (by simpa using hj);exact⟨t,by rw [e];simp⟩
 rw [show zm.toList.length=n by simpa using h1] at this;rw [List.range_eq_range'];exact this
def cc_7{zc:List (Addr×Obj)}{s:Shared}{σ:Sg}{Q:VK}{lo hi:Int}{t u v:Tok}{tk:Nat}(hc:X.calm=true)(I:Inv X zc σ H s)(h1: -(2 ^ 62)<=lo)(h2:lo < 2 ^ 62)(h3: -(2 ^ 62)<=hi)(h4:hi < 2 ^ 62)(hz:(hi - lo).toNat<=16777216)
  (q:∀p,H p=none->Q (.ref p) (upd H p (.lst ((List.range (hi - lo).toNat).map λ(k:Nat)=>V.int (lo + (k:Int)))))):
  wpAny (model X.prog X.w) X.A (call (.type "list") [.ref s.heap.objs.size]) (EP X zc σ Q) X.xe {s with heap:=s.heap.push {cls:=.type "range",data:=.fields #[.int lo t,.int hi u,.int 1 v]},toks:=tk}:=by
 have I1:Inv X zc σ H {s with heap:=s.heap.push {cls:=.type "range",data:=.fields #[.int lo t,.int hi u,.int 1 v]},toks:=tk}:=I.kept λb o e=>Heap.get?_push_of_some _ e;have en:Builtin.Range.rangeSize lo hi 1=(((hi - lo).toNat:Nat):Int):=by rw [rangeSize_one];split <;> omega
 refine PySem.call_list_range (I1.ok.hd hc) (IsRange.new ..) (small_one h1 h2 h3 h4) en hz λh' tk' zm c kk hat it=> ?_;have rv:=em_4 it;have fr:=I1.hok.fresh (Nat.le_refl _);refine⟨.ref _,upd H _ (.lst _),I1.laid (t':=tk') kk (Nat.le_refl _) ⟨?_,zm.toList,c,rv,by simpa using hat⟩,rfl,q _ fr⟩;rw [rv.length,sizeLine_eq];have:=it.1;simp;omega
def Gw(k:List D->R (List D))(fa:FA):FE:=λ δ=>(fa δ).bind λas=>(k as).bind λds=>if ds.length<=16777216 then .ok (.ow (.lst ds)) else .no
def ab_0{p' pos':Pos}(hc:X.calm=true)(hml:X.mg "list" =none)(hm:X.mg "range" =none)(ha:AD X EX [a] fa)(hgl:Gl X "list" :=by rfl)(hg:Gl X "range" :=by rfl)
  (hs:starEach [a] X.env= [(false,eval a X.env)]:=by rfl)
  (hs2:starEach [.Call (.Name "range" p') [a] [] pos'] X.env=(false,eval (.Call (.Name "range" p') [a] [] pos') X.env)::starEach [] X.env:=by rfl):
  ED X EX (.Call (.Name "list" p) [.Call (.Name "range" p') [a] [] pos'] [] pos) (Gw Co fa):=by
 intro zc s σ H Q I q;obtain⟨G,δ,g0,s0,o⟩:=q;refine Call_ (ae_2 I hgl hml PyProof.Rows.boot_list (PyProof.Rows.callWith_type1 ?_ hs2 rfl));rw [hs2];show wpAny _ _ (spliced ((false,eval (.Call (.Name "range" p') [a] [] pos') X.env)::backTo pos (starEach [] X.env))) _ _ s;refine Calls.spliced_cons ?_;refine Call_ (ae_2 I hg hm boot_range (PyProof.Rows.callWith_type1 (Bh (ha pos' zc s σ H _ I (tDa.seq g0 s0 o (P:=λvs H1=>∃j G1,Same G1 H1/\vs= [.int j]/\j.natAbs < 4611686018427387904/\j.toNat<=16777216/\Out X.K (EX σ) G1 H1 (.ok (.ow (.lst (Cc 0 j.toNat)))) Q) λds vs G' H' _ st r o'=> ?_)) λus s1 ⟨vs,H1,I1,r1,q1⟩=> ?_) hs rfl))
 ·cases r with
  |nil=>exact False.elim o'
  |cons h t=>
   cases t with
   |cons _ _=>cases h <;> exact False.elim o'
   |nil=>
    cases h with
    |int j=>
     simp only [Co] at o'
     split at o'
     ·rename_i hj;simp only [R.bind_ok,m_3] at o'
      split at o'
      ·rename_i hl;exact⟨j,G',st.gh,rfl,hj,hl,o'⟩
      ·exact o'.elim
     ·exact o'.elim
    |_=>exact False.elim o'
 ·obtain⟨j,G1,sg,rfl,hj,hl,o'⟩:=q1;obtain⟨u,rfl,t,rfl⟩:=r1.one;refine call_range_1 ?_;refine Calls.spliced_nil ?_;have hl':(j - 0).toNat<=16777216:=by simpa using hl
  refine cc_7 hc I1 (by omega) (by omega) (by omega) (by omega) hl' ?_;rw [Int.sub_zero];exact x_5 o' sg (cy_8 0 _)
def sUnp(fg:FG)(js:List Nat)(f:FE):FS:=λ Δ=>match f (Bb (gsome js Δ)) with
 | .ok w=>(match fg w.d (gsome js Δ) with
  | .ok Δ'=> .nx Δ'
  |_=> .no)
 | .ex x=> .ex x (gsome js Δ)
 | .no=> .no
def ee_5{fg:FG}(js:List Nat){e tg:Expr}(he:ED X EX e f)(hg:GD X EX tg fg)(hs:swapsWithSole [tg] e pos.line X.env=pure false:=by rfl)(hw:swappedStores [tg] e X.env=pure none:=by rfl)
  (h1:(assignEach [tg] X.env).map (·.2)= [assign tg X.env]:=by rfl):SD X EX (.Assign [tg] e pos) (sUnp fg js f):=
 PS.imp (cj_6 he hg hs hw h1) λD σ H ⟨H0,G0,G,Δ,O,E,q⟩=>by
  obtain⟨G1,O1,sg,E1⟩:=E.gsome js;unfold sUnp at q;refine⟨G1,Bb (gsome js Δ),E1.st.gh,E1.gsh, ?_⟩;cases e1:f (Bb (gsome js Δ)) with
  |ok w=>
   simp only [e1] at q;refine WP.intro λv G' H' st r=>⟨H0,G0,G',gsome js Δ,O1,w.d,E1.grow st,r, ?_⟩;cases e2:fg w.d (gsome js Δ) with
   |ok Δ'=>simp only [e2] at q;exact λ σ' G2 H2 O2 E2 s2=>q σ' G2 H2 O2 E2 (sg.trans (st.gg.trans s2))
   |ex x=>simp only [e2] at q;exact q.elim
   |no=>simp only [e2] at q;exact q.elim
  |ex x=>simp only [e1] at q;exact q σ G1 H O1 E1 sg
  |no=>simp only [e1] at q;exact q.elim
def cr_7(i:Nat)(js:List Nat)(fi fe:FE):FS:=λ Δ=>match(gsome js Δ)[i]? with
 |some (.ow (.lst ds))=>(match fe (Bb (gsome js Δ)) with
  | .ok w=>(match fi (Ar (gsome js Δ)) with
   | .ok z=>(match z.d with
    | .int k=>(match ixN ds.length k with
     |some j=> .nx ((gsome js Δ).set i (.ow (.lst (ds.set j w.d))))
     |none=> .no)
    |_=> .no)
   |_=> .no)
  |_=> .no)
 |_=> .no
def ds_9{i:Nat}(js:List Nat){x:Str}{e ie:Expr}{fe fi:FE}{p1 zg pos:Pos}(he:ED X EX e fe)(hi:ED X EX ie fi)(hN:X.N[i]? =some x:=by rfl)(hv:Hk X.env.scope x:=by first|exact Or.inl rfl|exact Or.inr (Or.inl rfl)|exact Or.inr (Or.inr rfl))(hd:(x ==("__debug__" :Str))=false:=by decide)
  (hcd:(x ==("__classdict__" :Str))=false:=by decide)
  (ha:∀v,assign (.Subscript (.Name x p1) ie zg) X.env v=(do
   let ov<-holding [v] (eval (.Name x p1) X.env)
   let iv<-holding [v,ov] (eval ie X.env)
   standAt zg
   holding [v,ov,iv] (setItem ov iv v)
   release [v,ov,iv] []):=by intro _;rfl)
  (hs:swapsWithSole [.Subscript (.Name x p1) ie zg] e pos.line X.env=pure false:=by rfl) (hw:swappedStores [.Subscript (.Name x p1) ie zg] e X.env=pure none:=by rfl)
  (h1:(assignEach [.Subscript (.Name x p1) ie zg] X.env).map (·.2)= [assign (.Subscript (.Name x p1) ie zg) X.env]:=by rfl):
  SD X EX (.Assign [.Subscript (.Name x p1) ie zg] e pos) (cr_7 i js fi fe):=
 PS.imp (cj_6 he (dc_9 (Fu hN hv hd hcd) hi ca_3 ha) hs hw h1) λD σ H ⟨H0,G0,G,Δ,O,E,q⟩=>by
  obtain⟨G1,O1,sg,E1⟩:=E.gsome js;unfold cr_7 at q;generalize gsome js Δ=Δ1 at q E1
  split at q
  ·rename_i ds e1;obtain⟨v0,s1,t⟩:=E1.ow i _ _ e1 rfl;obtain⟨a,vs,rfl,m,hH,rl⟩:=t.list_of
   ·skip
    refine⟨G1,Bb Δ1,E1.st.gh,E1.gsh, ?_⟩;cases e2:fe (Bb Δ1) with
    |ex x=>rw [e2] at q;exact q.elim
    |no=>rw [e2] at q;exact q.elim
    |ok w=>
     simp only [e2] at q;refine WP.intro λv G' H' st r=> ?_;have E2:=E1.grow st;refine⟨.ref a,s1,Fw G' H' O1,Ar Δ1,E2.aH,E2.gall, ?_⟩;cases e3:fi (Ar Δ1) with
     |ex x=>simp only [e3] at q;exact q.elim
     |no=>simp only [e3] at q;exact q.elim
     |ok z=>
      simp only [e3] at q;refine WP.intro λv2 G2 H2 st2 r2=> ?_;revert q r2;cases z.d with
      |int k=>
       intro q r2;cases r2;cases e4:ixN ds.length k with
       |none=>simp only [e4] at q;exact q.elim
       |some j=>
        simp only [e4] at q;have hH2:H2 a=some (.lst vs):=st2.hh _ _ (st.hh _ _ hH);refine⟨a,vs,k,j,rfl,rfl,hH2,by rw [rl.length];exact e4, ?_⟩;exact q σ G' _ _ ((E2.keep st2.hh).writeL s1 m (HasL.set r j (rl.mono st.gg))) (sg.trans st.gg)
      |_=>intro q _;exact False.elim q
  ·exact q.elim
end
section
variable{K:Frag}{x qual:Str}{st:Stmt}{f:Addr}{fd:FuncData}{ps:List Str}
def Fun.binds1(F:Fun K x qual st f fd)(hl:ps.length=1:=by rfl)(h:∀(kV doc pm:Value) (an:Option Addr) (zn ct a:Value),bindArgs (fnOf x qual (k_3 st) (Fs st) (Cn st) .none kV doc pm an zn ct) ⟨[a],[]⟩=pure (ps.zip [a]):=by intros;rfl):Binds K fd ps []:=
 F.binds λkV doc pm an zn ct us hu=>match us,hu.trans hl with| [a],_=>h kV doc pm an zn ct a
def Fun.binds2(F:Fun K x qual st f fd)(hl:ps.length=2:=by rfl)(h:∀(kV doc pm:Value) (an:Option Addr) (zn ct a b:Value),bindArgs (fnOf x qual (k_3 st) (Fs st) (Cn st) .none kV doc pm an zn ct) ⟨[a,b],[]⟩=pure (ps.zip [a,b]):=by intros;rfl):Binds K fd ps []:=
 F.binds λkV doc pm an zn ct us hu=>match us,hu.trans hl with| [a,b],_=>h kV doc pm an zn ct a b
def Fun.binds3(F:Fun K x qual st f fd)(hl:ps.length=3:=by rfl)(h:∀(kV doc pm:Value) (an:Option Addr) (zn ct a b c:Value),bindArgs (fnOf x qual (k_3 st) (Fs st) (Cn st) .none kV doc pm an zn ct) ⟨[a,b,c],[]⟩=pure (ps.zip [a,b,c]):=by intros;rfl):Binds K fd ps []:=
 F.binds λkV doc pm an zn ct us hu=>match us,hu.trans hl with| [a,b,c],_=>h kV doc pm an zn ct a b c
def Fun.binds4(F:Fun K x qual st f fd)(hl:ps.length=4:=by rfl)(h:∀(kV doc pm:Value) (an:Option Addr) (zn ct a b c d:Value),bindArgs (fnOf x qual (k_3 st) (Fs st) (Cn st) .none kV doc pm an zn ct) ⟨[a,b,c,d],[]⟩=pure (ps.zip [a,b,c,d]):=by intros;rfl):Binds K fd ps []:=
 F.binds λkV doc pm an zn ct us hu=>match us,hu.trans hl with| [a,b,c,d],_=>h kV doc pm an zn ct a b c d
def Fun.binds5(F:Fun K x qual st f fd)(hl:ps.length=5:=by rfl)(h:∀(kV doc pm:Value) (an:Option Addr) (zn ct a b c d e:Value),bindArgs (fnOf x qual (k_3 st) (Fs st) (Cn st) .none kV doc pm an zn ct) ⟨[a,b,c,d,e],[]⟩=pure (ps.zip [a,b,c,d,e]):=by intros;rfl):Binds K fd ps []:=
 F.binds λkV doc pm an zn ct us hu=>match us,hu.trans hl with| [a,b,c,d,e],_=>h kV doc pm an zn ct a b c d e
def Fun.binds6(F:Fun K x qual st f fd)(hl:ps.length=6:=by rfl)(h:∀(kV doc pm:Value) (an:Option Addr) (zn ct a b c d e g:Value),bindArgs (fnOf x qual (k_3 st) (Fs st) (Cn st) .none kV doc pm an zn ct) ⟨[a,b,c,d,e,g],[]⟩=pure (ps.zip [a,b,c,d,e,g]):=by intros;rfl):Binds K fd ps []:=
 F.binds λkV doc pm an zn ct us hu=>match us,hu.trans hl with| [a,b,c,d,e,g],_=>h kV doc pm an zn ct a b c d e g
def Fun.binds7(F:Fun K x qual st f fd)(hl:ps.length=7:=by rfl)(h:∀(kV doc pm:Value) (an:Option Addr) (zn ct a b c d e g k:Value),bindArgs (fnOf x qual (k_3 st) (Fs st) (Cn st) .none kV doc pm an zn ct) ⟨[a,b,c,d,e,g,k],[]⟩=pure (ps.zip [a,b,c,d,e,g,k]):=by intros;rfl):Binds K fd ps []:=
 F.binds λkV doc pm an zn ct us hu=>match us,hu.trans hl with| [a,b,c,d,e,g,k],_=>h kV doc pm an zn ct a b c d e g k
end
structure ZApart(z TI TO i1 i2:Addr):Prop where
 TIz:TI≠z
 TOz:TO≠z
 i1z:i1≠z
 i2z:i2≠z
 TITO:TI≠TO
 TIi1:TI≠i1
 TIi2:TI≠i2
 TOi1:TO≠i1
 TOi2:TO≠i2
 i12:i1≠i2
section
variable{X:Cx}{EX:Bq}{a b:Expr}{fa:FA}{elts:List Expr}{x1:Nat}{tp p pos:Pos}
end
def met(is:List Int):List Int:=PyProof.Rows.firstMet (λi=>is.getD i 0) is.length
theorem cc_8{G:Hp}:∀{vs:List V} {ds:List D} {us:List Value} {is:List Int},HasL K G vs ds->Vals vs us->Gu ds=some is->IntsAre us is
 |_,_,_,_,.nil,r,e=>by cases r;cases e;exact .nil
 |_,_,_,_,.cons h t,r,e=>by
  cases r with
  |cons r1 r2=>
   cases h with
   |int x=>
    obtain⟨tk,rfl⟩:=r1;simp only [Gu] at e;obtain⟨zs,q,rfl⟩:=Option.map_eq_some_iff.mp e;exact .cons x tk (cc_8 t r2 q)
   |_=>cases e
section
variable{X:Cx}{EX:Bq}{a:Expr}{f:FE}{p p' pos pos':Pos}
end
def Dl:D->Option Au
 | .int i=>some (.inl i)
 | .str x=>some (.inr x)
 |_=>none
def ae_8{G:Hp}{d:D}{k:Au}(r:Has K G v d)(e:Dl d=some k):v=kV k:=by
 cases r <;> first|(cases e;rfl)|cases e
section
variable{α:Type}
def Dy(kvs:List (Au×α))(k:Au):Option α:=(kvs.find? λkv=>decide (kv.1=k)).map (·.2)
def Eb(kvs:List (Au×α))(k:Au)(v:α):List (Au×α):=if(kvs.any λkv=>decide (kv.1=k))=true then kvs.map (λkv=>if kv.1=k then(kv.1,v) else kv) else kvs ++ [(k,v)]
def Fz(kvs:List (Au×α))(k:Au):List (Au×α):=kvs.filter λkv=>decide (kv.1≠k)
def Eg(kvs:List (Au×α))(k:Au):Bool:=(Dy kvs k).isSome
end
def cr_8(kvs:List (Au×V))(k:Au)(v:V):Dm kvs k v=Eb kvs k v:=rfl
theorem bc_7{G:Hp}:∀{kvs:List (Au×V)} {kds:List (Au×D)} (k:Au),kvs.map (·.1)=kds.map (·.1)->HasL K G (kvs.map (·.2)) (kds.map (·.2))->(Ft kvs k).isSome=Eg kds k/\∀d,Dy kds k=some d->∃v,Ft kvs k=some v/\Has K G v d
 | [],[],k,_,_=>⟨rfl,λd e=>by cases e⟩
 | [],_::_,k,e,_=>by simp at e
 |_::_,[],k,e,_=>by simp at e
 |(x,v)::kvs,(y,d)::kds,k,e,r=>by
  simp only [List.map_cons,List.cons.injEq] at e;obtain⟨e1,e2⟩:=e;subst e1;cases r with
  |cons h r=>
   obtain⟨i1,i2⟩:=bc_7 (kvs:=kvs) (kds:=kds) k e2 r
   by_cases q:x=k
   ·have a1:Ft ((x,v)::kvs) k=some v:=ai_2 q;have a2:Dy ((x,d)::kds) k=some d:=by unfold Dy;rw [List.find?_cons_of_pos (by simpa using q)];rfl
    refine⟨by unfold Eg;rw [a1,a2];rfl,λd' e'=> ?_⟩;rw [a2] at e';cases e';exact⟨v,a1,h⟩
   ·have a1:Ft ((x,v)::kvs) k=Ft kvs k:=ai_3 q;have a2:Dy ((x,d)::kds) k=Dy kds k:=by unfold Dy;rw [List.find?_cons_of_neg (by simpa using q)]
    refine⟨by unfold Eg at i1⊢;rw [a1,a2];exact i1,λd' e'=> ?_⟩;rw [a2] at e';rw [a1];exact i2 d' e'
theorem bf_8{α β:Type}:∀{kvs:List (Au×α)} {kds:List (Au×β)} (k:Au),kvs.map (·.1)=kds.map (·.1)->(kvs.any λkv=>decide (kv.1=k))=kds.any λkv=>decide (kv.1=k)
 | [],[],_,_=>rfl
 | [],_::_,k,e=>by simp at e
 |_::_,[],k,e=>by simp at e
 |(x,v)::kvs,(y,d)::kds,k,e=>by
  simp only [List.map_cons,List.cons.injEq] at e;obtain⟨e1,e2⟩:=e;subst e1;rw [List.any_cons,List.any_cons,bf_8 k e2]
def cr_9{G:Hp}{kvs:List (Au×V)}{kds:List (Au×D)}(k:Au){d:D}(e:kvs.map (·.1)=kds.map (·.1))(r:HasL K G (kvs.map (·.2)) (kds.map (·.2)))(h:Has K G v d):
  (Dm kvs k v).map (·.1)=(Eb kds k d).map (·.1)/\HasL K G ((Dm kvs k v).map (·.2)) ((Eb kds k d).map (·.2)):=by
 rw [cr_8];unfold Eb;rw [bf_8 k e]
 split
 ·have all:∀{kvs:List (Au×V)} {kds:List (Au×D)},kvs.map (·.1)=kds.map (·.1)->HasL K G (kvs.map (·.2)) (kds.map (·.2))->
    (kvs.map (λkv=>if kv.1=k then(kv.1,v) else kv)).map (·.1)=(kds.map (λkv=>if kv.1=k then(kv.1,d) else kv)).map (·.1)/\HasL K G ((kvs.map (λkv=>if kv.1=k then(kv.1,v) else kv)).map (·.2)) ((kds.map (λkv=>if kv.1=k then(kv.1,d) else kv)).map (·.2)):=by
   intro kvs
   induction kvs with
   |nil=>
    intro kds e r;cases kds with
    |nil=>exact⟨rfl,.nil⟩
    |cons _ _=>simp at e
   |cons p kvs ih=>
    intro kds e r;cases kds with
    |nil=>simp at e
    |cons q kds=>
     obtain⟨x,u⟩:=p;obtain⟨y,w⟩:=q;simp only [List.map_cons,List.cons.injEq] at e;obtain⟨e1,e2⟩:=e;subst e1;cases r with
     |cons h1 r=>
      obtain⟨i1,i2⟩:=ih e2 r;simp only [List.map_cons]
      by_cases z:x=k
      ·simp only [z,if_true];exact⟨by rw [i1],.cons h i2⟩
      ·simp only [z,if_false];exact⟨by rw [i1],.cons h1 i2⟩
  exact all e r
 ·refine⟨by rw [List.map_append,List.map_append,e];rfl, ?_⟩;rw [List.map_append,List.map_append];exact r.append (.cons h .nil)
section
variable{X:Cx}{EX:Bq}{pos:Pos}
def as_2:FE:=λ_=> .ok (.ow (.dic []))
def bc_8:ED X EX (.Dict [] [] pos) as_2:=PE.imp ca_8 λ σ H Q ⟨G,δ,g,s,o⟩=>λp hp=>
 o (.ref p) (λb=>b=p) G _ (Step.own g hp _) (λa e=>by subst e;exact⟨hp,g.free hp,by rw [Cw];simp⟩) (.dict Cw rfl rfl .nil)
def inK(neg:Bool):D->D->R W
 |d,.dic kvs=>match Dl d with
  |some k=> .ok (.sh (.bl (if neg then !Eg kvs k else Eg kvs k)))
  |none=> .no
 |_,_=> .no
def DGet.rd{a:Addr}{kvs:List (Au×V)}{k:Au}(e:Rd H a (.dK kvs)):DGet H a (kV k) (Ft kvs k):=.inl ⟨kvs,k,e,rfl,rfl⟩
def ee_6(hu:X.A.units + 64 < cLine):Fm X (compareOp .In) (inK false):=by
 intro zc s σ H x y v u Q I rx ry q;obtain⟨EX,G,a,b,g,ra,rb,o⟩:=q;cases rb with
 |dic h hk r=>
  simp only [inK] at o
  split at o
  ·rename_i k ek;have ex:=ae_8 ra ek;subst ex;cases ry;refine d_in (by omega) I (DGet.rd (k:=k) (Same.rdD g h)) rx λs' I'=>⟨.bl _,H,I',rfl, ?_⟩;rw [(bc_7 k hk r).1];exact Dd o g (.bl _)
  ·exact o.elim
 |_=>exact False.elim o
def bp_3(hu:X.A.units + 64 < cLine):Fm X (compareOp .NotIn) (inK true):=by
 intro zc s σ H x y v u Q I rx ry q;obtain⟨EX,G,a,b,g,ra,rb,o⟩:=q;cases rb with
 |dic h hk r=>
  simp only [inK] at o
  split at o
  ·rename_i k ek;have ex:=ae_8 ra ek;subst ex;cases ry;refine dq_8 (by omega) I (DGet.rd (k:=k) (Same.rdD g h)) rx λs' I'=>⟨.bl _,H,I',rfl, ?_⟩;rw [(bc_7 k hk r).1];exact Dd o g (.bl _)
  ·exact o.elim
 |_=>exact False.elim o
def Eu:D->D->R W
 | .dic kvs,d=>match Dl d with
  |some k=>(match Dy kvs k with
   |some x=> .ok (.sh x)
   |none=> .no)
  |none=> .no
 |_,_=> .no
def bu_4{o i:Expr}{f g:FE}(hu:X.A.units + 64 < cLine)(ho:ED X EX o f)(hi:ED X EX i g)(hs:NoSl i:=by intro _ _;rfl):ED X EX (.Subscript o i pos) (Aj Eu f g):=
 PE.imp (bt_7 (by omega) ho hi hs) λ σ H Q ⟨G,δ,g0,s0,o⟩=>tD.seq g0 s0 o λw v G1 H1 _ st1 r1 o1=>tD.seq st1.gh (s0.mono st1.gg) o1 λw2 v2 G2 H2 _ st2 r2 o2=>by
  have r1:=r1.mono st2.gg;revert r1 o2;cases w.d with
  |dic kvs=>
   intro o2 r1;simp only [Eu] at o2
   split at o2
   ·rename_i k ek
    split at o2
    ·rename_i x ex;cases r1 with
     |dic h hk r=>
      obtain⟨u,e1,e2⟩:=(bc_7 k hk r).2 x ex;have e3:=ae_8 r2 ek;subst e3;refine⟨_,u,rfl, ?_,Dd o2 st2.gh e2⟩;rw [<-e1];exact DGet.rd (Same.rdD st2.gh h)
    ·exact o2.elim
   ·exact o2.elim
  |_=>intro o2 _;exact False.elim o2
def lenK:List D->R W
 | [.dic kvs]=> .ok (.sh (.int kvs.length))
 |_=> .no
def cy_9:Ek X (.builtin "len") lenK:=by
 intro zc s σ H vs us Q I rv q;obtain⟨EX,G,ds,g,r,o⟩:=q;cases r with
 |nil=>exact False.elim o
 |cons h t=>
  cases t with
  |cons _ _=>cases h <;> exact False.elim o
  |nil=>
   cases h with
   |dic h hk r=>
    rename_i kvs kds;obtain⟨u,rfl,ru⟩:=rv.one;cases ru;refine el_5 I (Same.rdD g h) λt s' I'=>⟨.int _,H,I',⟨t,rfl⟩, ?_⟩;have hl:kds.length=kvs.length:=by
     have:=congrArg List.length hk;rw [List.length_map,List.length_map] at this;exact this.symm
    rw [<-hl];exact Dd o g (.int _)
   |_=>exact False.elim o
def as_3(i:Nat)(js:List Nat)(fk fe:FE):FS:=λ Δ=>match(gsome js Δ)[i]? with
 |some (.ow (.dic kvs))=>(match fe (Bb (gsome js Δ)) with
  | .ok w=>(match fk (Ar (gsome js Δ)) with
   | .ok z=>(match Dl z.d with
    |some k=>if kvs.length < 16777216 then .nx ((gsome js Δ).set i (.ow (.dic (Eb kvs k w.d)))) else .no
    |none=> .no)
   |_=> .no)
  |_=> .no)
 |_=> .no
def bu_5{i:Nat}(js:List Nat){x:Str}{e ie:Expr}{fe fk:FE}{p1 zg pos:Pos}(hu:X.A.units + 64 < cLine)(he:ED X EX e fe)(hi:ED X EX ie fk)(hN:X.N[i]? =some x:=by rfl)(hv:Hk X.env.scope x:=by first|exact Or.inl rfl|exact Or.inr (Or.inl rfl)|exact Or.inr (Or.inr rfl))(hd:(x ==("__debug__" :Str))=false:=by decide)
  (hcd:(x ==("__classdict__" :Str))=false:=by decide) (hs:swapsWith e (some (.Subscript (.Name x p1) ie zg)) pos.line X.env=pure false:=by rfl):
  SD X EX (.Assign [.Subscript (.Name x p1) ie zg] e pos) (as_3 i js fk fe):=
 PS.imp (bt_8 (by omega) (Fu hN hv hd hcd) hi he hs) λD σ H ⟨H0,G0,G,Δ,O,E,q⟩=>by
  obtain⟨G1,O1,sg,E1⟩:=E.gsome js;unfold as_3 at q;generalize gsome js Δ=Δ1 at q E1
  split at q
  ·rename_i kds e1;obtain⟨v0,s1,t⟩:=E1.ow i _ _ e1 rfl;obtain⟨a,kvs,rfl,m,hH,hk,rl⟩:=t.dict_of;refine⟨G1,Bb Δ1,E1.st.gh,E1.gsh, ?_⟩;cases e2:fe (Bb Δ1) with
   |ex x=>rw [e2] at q;exact q.elim
   |no=>rw [e2] at q;exact q.elim
   |ok w=>
    simp only [e2] at q;refine WP.intro λv G' H' st r=> ?_;have E2:=E1.grow st;refine⟨.ref a,s1,Fw G' H' O1,Ar Δ1,E2.aH,E2.gall, ?_⟩;cases e3:fk (Ar Δ1) with
    |ex x=>simp only [e3] at q;exact q.elim
    |no=>simp only [e3] at q;exact q.elim
    |ok z=>
     simp only [e3] at q;refine WP.intro λv2 G2 H2 st2 r2=> ?_
     split at q
     ·rename_i k ek
      split at q
      ·rename_i hl;have e4:=ae_8 r2 ek;subst e4;have hH2:H2 a=some (.dK kvs):=st2.hh _ _ (st.hh _ _ hH);have hle:kvs.length=kds.length:=by
        have:=congrArg List.length hk
        rwa [List.length_map,List.length_map] at this
       obtain⟨p1,p2⟩:=cr_9 k hk (rl.mono st.gg) r;exact⟨a,_,rfl,DPut.k hH2 (by rw [hle,sizeLine_eq];exact hl),q σ G' _ _ ((E2.keep st2.hh).writeD s1 m p1 p2) (sg.trans st.gg)⟩
      ·exact q.elim
     ·exact q.elim
  ·exact q.elim
end
section
variable{K:Frag}{H0 H1:HB}{G0 G H:Hp}{σ:Sg}{Δ:SE}{O:OS}
end
section
variable{X:Cx}{EX:Bq}{pos:Pos}
end
section
variable{X:Cx}{EX:Bq}{pos:Pos}
end
def ee_7(t:Tn):Sl.any (.tr t)=some t.d:=rfl
section
variable{X:Cx}{EX:Bq}{a b:Expr}{fa:FA}{p pos:Pos}
end
section
variable{K:Frag}{G H:Hp}
theorem OwL.append:∀{vs us:List V} {ts rs:List Tn} {S1 S2 S:AS},OwL K G H vs ts S1->OwL K G H us rs S2->(∀b,S1 b->S2 b->False)->(∀b,S1 b->S b)->(∀b,S2 b->S b)->OwL K G H (vs ++ us) (ts ++ rs) S
 |_,_,_,_,_,_,_,.nil,r,_,_,i2=>r.mono (Same.refl _) (λ_ _ _ q=>q) i2
 |_,_,_,_,S1,S2,S,.cons (S1:=Sa) (S2:=Sb) h r dj s1 s2,q,d,i1,i2=>
  .cons (S2:=λb=>Sb b\/S2 b) h (OwL.append r q (λb z1 z2=>d b (s2 b z1) z2) (λb z=> .inl z) λb z=> .inr z) (λb z1 z2=>by
   rcases z2 with z2|z2
   ·exact dj b z1 z2
   ·exact d b (s1 b z1) z2) (λb z=>i1 b (s1 b z)) λb z=>by
   rcases z with z|z
   ·exact i1 b (s2 b z)
   ·exact i2 b z
end
section
variable{α:Type}
def Et:List (Au×α)->Au->α->List (Au×α)
 | [],_,_=> []
 |(x,v)::r,k,v'=>if x=k then(x,v')::r else(x,v)::Et r k v'
theorem aw_0:∀(l:List (Au×α)) (k:Au) (v:α),(Et l k v).map (·.1)=l.map (·.1)
 | [],_,_=>rfl
 |(x,v0)::r,k,v=>by
  unfold Et
  split
  ·rfl
  ·rw [List.map_cons,List.map_cons,aw_0 r k v]
end
def unS:List (Au×Tn)->Option (List (Au×D))
 | []=>some []
 |(k,.sh d)::r=>(unS r).map ((k,d):: ·)
 |_=>none
theorem bf_9:∀{zk:List (Au×Tn)} {kds:List (Au×D)},unS zk=some kds->zk=kds.map λp=>(p.1,Tn.sh p.2)
 | [],_,e=>by cases e;rfl
 |(k,t)::r,kds,e=>by
  cases t with
  |sh d=>
   simp only [unS] at e;cases q:unS r with
   |none=>rw [q] at e;cases e
   |some l=>
    rw [q] at e;cases e;rw [bf_9 q];rfl
  |_=>cases e
theorem cm_4:∀kds:List (Au×D),unS (kds.map λp=>(p.1,Tn.sh p.2))=some kds
 | []=>rfl
 |(k,d)::r=>by
  show(unS (r.map λp=>(p.1,Tn.sh p.2))).map ((k,d):: ·)=_;rw [cm_4 r];rfl
section
variable{K:Frag}{G H:Hp}
theorem OwL.focusK(k:Au):∀{kvs:List (Au×V)} {zk:List (Au×Tn)} {S:AS} {t:Tn},kvs.map (·.1)=zk.map (·.1)->OwL K G H (kvs.map (·.2)) (zk.map (·.2)) S->Dy zk k=some t->
  ∃v S1,Ft kvs k=some v/\Ow K G H v t S1/\(∀b,S1 b->S b)/\
   ∀{H':Hp} {t':Tn},(∀b o,S b->¬S1 b->H b=some o->H' b=some o)->Ow K G H' v t' S1->OwL K G H' (kvs.map (·.2)) ((Et zk k t').map (·.2)) S
 | [],[],_,_,_,_,e=>by cases e
 | [],_::_,_,_,e,_,_=>by simp at e
 |_::_,[],_,_,e,_,_=>by simp at e
 |(x,v)::kvs,(y,t0)::zk,S,t,e,r,h=>by
  simp only [List.map_cons,List.cons.injEq] at e;obtain⟨e1,e2⟩:=e;subst e1;cases r with
  |cons hh r dj s1 s2=>
   rename_i S1 S2
   by_cases q:x=k
   ·have a2:Dy ((x,t0)::zk) k=some t0:=by unfold Dy;rw [List.find?_cons_of_pos (by simpa using q)];rfl
    rw [a2] at h;cases h;refine⟨v,S1,ai_2 q,hh,s1,λ{H' t'} f h'=> ?_⟩;unfold Et;rw [if_pos q];exact .cons h' (r.mono (Same.refl _) (λb o hb z=>f b o (s2 b hb) (λw=>dj b w hb) z) λ_ z=>z) dj s1 s2
   ·have a2:Dy ((x,t0)::zk) k=Dy zk k:=by unfold Dy;rw [List.find?_cons_of_neg (by simpa using q)]
    rw [a2] at h;obtain⟨v',S',e1,h',i',f'⟩:=OwL.focusK k e2 r h;refine⟨v',S',by rw [ai_3 q];exact e1,h',λb z=>s2 b (i' b z),λ{H' t'} f h2=> ?_⟩;unfold Et;rw [if_neg q];exact .cons (hh.mono (Same.refl _) (λb o hb z=>f b o (s1 b hb) (λw=>dj b hb (i' b w)) z) λ_ z=>z) (f' (λb o hb nb z=>f b o (s2 b hb) nb z) h2) dj s1 s2
end
def Sl.tree:Sl->Option (Tn×Bool)
 | .ow d=>some (Tn.of d,false)
 | .tr t=>some (t,false)
 | .lt t=>some (t,true)
 |_=>none
def Sl.mk(b:Bool)(t:Tn):Sl:=if b then .lt t else .tr t
def Sl.tree_own{s:Sl}{t:Tn}{b:Bool}(e:s.tree=some (t,b)):s.own=some t:=by
 cases s <;> first|(cases e;rfl)|cases e
def Sl.mk_own(b:Bool)(t:Tn):(Sl.mk b t).own=some t:=by cases b <;> rfl
def Sl.mk_lk(b:Bool)(t:Tn):∀d,Sl.mk b t≠ .lk d:=by intro d;cases b <;> (intro z;cases z)
def Ev.mk_lt{H0:HB}{G0 G H:Hp}{σ:Sg}{Δ:SE}{O:OS}(E:Ev K H0 G0 G H σ Δ O){i:Nat}{s:Sl}{t:Tn}{b:Bool}(e:Δ[i]? =some s)(q:s.tree=some (t,b))(t':Tn):∀d,Sl.mk b t'=.lt d->σ[i]? =some (some (.ref (H0.b i))):=by
 intro d z;cases b with
 |false=>cases z
 |true=>
  cases s with
  |lt t0=>exact E.lt i t0 e
  |_=>cases q
def Ev.writeIn{H0:HB}{G0 G H:Hp}{σ:Sg}{Δ:SE}{O:OS}(E:Ev K H0 G0 G H σ Δ O){i:Nat}{s:Sl}{t t':Tn}{b:Bool}{a:Addr}{o:HO}(e:Δ[i]? =some s)(q:s.tree=some (t,b))(s1:σ[i]? =some (some v))(m:O i a)(t1:Ow K G (upd H a o) v t' (O i)):
  Ev K H0 G0 G (upd H a o) σ (Δ.set i (Sl.mk b t')) (setA O i (O i)):=
 have ms:=MStep.write E.st.gh m (E.out i a m).1 o
 E.step2 (Sl.mk_own b t') (Sl.mk_lk b t') (E.mk_lt e q t') ms.weak s1 (λb hb=>⟨.inl hb,(E.out i b hb).1,ms.al b (E.out i b hb).2.2⟩) t1
def Ow.dic_of{G H:Hp}{zk:List (Au×Tn)}{S:AS}(t:Ow K G H v (.dic zk) S):∃a kvs S1,v=.ref a/\S a/\H a=some (.dK kvs)/\kvs.map (·.1)=zk.map (·.1)/\(∀b,S1 b->S b/\b≠a)/\OwL K G H (kvs.map (·.2)) (zk.map (·.2)) S1:=by
 cases t with
 |dic h hk ha sub r=>exact⟨_,_,_,rfl,ha,h,hk,sub,r⟩
section
variable{X:Cx}{EX:Bq}{pos:Pos}
def bp_4(i:Nat)(f1 f2 fe:FE):FS:=λ Δ=>match(Δ[i]?).bind Sl.tree with
 |some (.dic zk,lk)=>(match fe (Bb Δ) with
  | .ok w=>(match f1 (Ar Δ) with
   | .ok z1=>(match Dl z1.d with
    |some k1=>(match Dy zk k1 with
     |some (.dic kt2)=>(match unS kt2 with
      |some kds=>(match f2 (Ar Δ) with
       | .ok z2=>(match Dl z2.d with
        |some k2=>if kds.length < 16777216 then .nx (Δ.set i (Sl.mk lk (.dic (Et zk k1 (Tn.of (.dic (Eb kds k2 w.d))))))) else .no
        |none=> .no)
       |_=> .no)
      |none=> .no)
     |_=> .no)
    |none=> .no)
   |_=> .no)
  |_=> .no)
 |_=> .no
def dt_0{i:Nat}{x:Str}{e e1 e2:Expr}{fe f1 f2:FE}{p1 p2 zg pos:Pos}(hu:X.A.units + 64 < cLine)(he:ED X EX e fe)(h1:ED X EX e1 f1)(h2:ED X EX e2 f2)(hN:X.N[i]? =some x:=by rfl)(hv:Hk X.env.scope x:=by first|exact Or.inl rfl|exact Or.inr (Or.inl rfl)|exact Or.inr (Or.inr rfl))(hd:(x ==("__debug__" :Str))=false:=by decide)
  (hcd:(x ==("__classdict__" :Str))=false:=by decide) (hn1:NoSl e1:=by intro _ _;rfl) (hs:swapsWith e (some (.Subscript (.Subscript (.Name x p1) e1 p2) e2 zg)) pos.line X.env=pure false:=by rfl):
  SD X EX (.Assign [.Subscript (.Subscript (.Name x p1) e1 p2) e2 zg] e pos) (bp_4 i f1 f2 fe):=
 PS.imp (bt_8 (by omega) (bt_7 (by omega) (Fu hN hv hd hcd) h1 hn1) h2 he hs) λD σ H ⟨H0,G0,G,Δ,O,E,q⟩=>by
  unfold bp_4 at q
  split at q
  ·rename_i zk lk e0;obtain⟨s,e1,etr⟩:=Option.bind_eq_some_iff.mp e0;obtain⟨v0,s1,t⟩:=E.ow i _ _ e1 (Sl.tree_own etr);obtain⟨a,kvs,S1,rfl,m,hH,hk,sub,rl⟩:=t.dic_of;refine⟨G,Bb Δ,E.st.gh,E.gsh, ?_⟩;cases e2:fe (Bb Δ) with
   |ex x=>simp only [e2] at q;exact q.elim
   |no=>simp only [e2] at q;exact q.elim
   |ok w=>
    simp only [e2] at q;refine WP.intro λv G' H' st r=> ?_;have E2:=E.grow st;refine⟨.ref a,s1,Fw G' H' O,Ar Δ,E2.aH,E2.gall, ?_⟩;cases e3:f1 (Ar Δ) with
    |ex x=>simp only [e3] at q;exact q.elim
    |no=>simp only [e3] at q;exact q.elim
    |ok z1=>
     simp only [e3] at q;refine WP.intro λv1 G1 H1 st1 r1=> ?_
     split at q
     ·rename_i k1 ek1
      split at q
      ·rename_i kt2 ev
       split at q
       ·rename_i kds eu;have hv1:=ae_8 r1 ek1;subst hv1;have E3:=E2.keep st1.hh;obtain⟨vb,s1',t3⟩:=E3.ow i _ _ e1 (Sl.tree_own etr);obtain⟨a',cj,S1',ea,m',hH',hk',ax,rl'⟩:=t3.dic_of;rw [s1] at s1';cases s1';cases ea;obtain⟨vc,Sc,ec,tc,ic,fc⟩:=OwL.focusK k1 hk' rl' ev;have tc':=tc;rw [bf_9 eu] at tc';obtain⟨c,kvc,rfl,mc,hHc,hkc,rlc⟩:=Ow.dict_of (kds:=kds) tc';refine⟨a,.ref c,rfl, ?_, ?_⟩
        ·exact Or.inl ⟨cj,k1,.inl hH',rfl,ec.symm⟩
        refine⟨Fw G' H1 O,Ar Δ,E3.aH,E3.gall, ?_⟩;cases e4:f2 (Ar Δ) with
        |ex x=>simp only [e4] at q;exact q.elim
        |no=>simp only [e4] at q;exact q.elim
        |ok z2=>
         simp only [e4] at q;refine WP.intro λv2 G2 H2 st2 r2=> ?_
         split at q
         ·rename_i k2 ek2
          split at q
          ·rename_i hl;have hv2:=ae_8 r2 ek2;subst hv2;have E4:=E3.keep st2.hh;have bj:H2 c=some (.dK kvc):=st2.hh _ _ hHc;have hle:kvc.length=kds.length:=by
            have:=congrArg List.length hkc
            rwa [List.length_map,List.length_map] at this
           obtain⟨p1,p2⟩:=cr_9 k2 hkc rlc r;have hca:c≠a:=(ax c (ic c mc)).2;refine⟨c,_,rfl,DPut.k bj (by rw [hle,sizeLine_eq];exact hl),q σ G' _ _ (E4.writeIn e1 etr s1 (ax c (ic c mc)).1 ?_) st.gg⟩;refine Ow.dic (S1:=S1') (by rw [Bm (Ne.symm hca)];exact st2.hh _ _ hH') (by rw [aw_0];exact hk') m' ax ?_;refine fc (λb o hb nb z=> ?_) (Ow.dict Cw p1 mc p2);rw [Bm (show b≠c from λw=>nb (by rw [w];exact mc))];exact st2.hh _ _ z
          ·exact q.elim
         ·exact q.elim
       ·exact q.elim
      ·exact q.elim
     ·exact q.elim
  ·exact q.elim
end
theorem cc_9{G:Hp}(k:Au):∀{kvs:List (Au×V)} {kds:List (Au×D)},kvs.map (·.1)=kds.map (·.1)->HasL K G (kvs.map (·.2)) (kds.map (·.2))->(Hf kvs k).map (·.1)=(Fz kds k).map (·.1)/\HasL K G ((Hf kvs k).map (·.2)) ((Fz kds k).map (·.2))
 | [],[],_,_=>⟨rfl,.nil⟩
 | [],_::_,e,_=>by simp at e
 |_::_,[],e,_=>by simp at e
 |(x,v)::kvs,(y,d)::kds,e,r=>by
  simp only [List.map_cons,List.cons.injEq] at e;obtain⟨e1,e2⟩:=e;subst e1;cases r with
  |cons h r=>
   obtain⟨i1,i2⟩:=cc_9 k (kvs:=kvs) (kds:=kds) e2 r
   by_cases q:x=k
   ·have a1:Hf ((x,v)::kvs) k=Hf kvs k:=cx_4 q;have a2:Fz ((x,d)::kds) k=Fz kds k:=by unfold Fz;rw [List.filter_cons_of_neg (by simpa using q)]
    rw [a1,a2];exact⟨i1,i2⟩
   ·have a1:Hf ((x,v)::kvs) k=(x,v)::Hf kvs k:=bo_5 q;have a2:Fz ((x,d)::kds) k=(x,d)::Fz kds k:=by unfold Fz;rw [List.filter_cons_of_pos (by simpa using q)]
    rw [a1,a2];exact⟨by rw [List.map_cons,List.map_cons,i1],.cons h i2⟩
section
variable{X:Cx}{EX:Bq}{pos:Pos}
def cs_0(i:Nat)(f1 f2:FE):FS:=λ Δ=>match(Δ[i]?).bind Sl.tree with
 |some (.dic zk,lk)=>(match f1 (Ar Δ) with
   | .ok z1=>(match Dl z1.d with
    |some k1=>(match Dy zk k1 with
     |some (.dic kt2)=>(match unS kt2 with
      |some kds=>(match f2 (Ar Δ) with
       | .ok z2=>(match Dl z2.d with
        |some k2=> .nx (Δ.set i (Sl.mk lk (.dic (Et zk k1 (Tn.of (.dic (Fz kds k2)))))))
        |none=> .no)
       |_=> .no)
      |none=> .no)
     |_=> .no)
    |none=> .no)
   |_=> .no)
 |_=> .no
def dt_1{i:Nat}{x:Str}{e1 e2:Expr}{f1 f2:FE}{j:Nat}{p1 p2 p3 zf zd pos:Pos}(hu:X.A.units + 64 < cLine)(h1:ED X EX e1 f1)(h2:ED X EX e2 f2)(hN:X.N[i]? =some x:=by rfl)(hv:Hk X.env.scope x:=by first|exact Or.inl rfl|exact Or.inr (Or.inl rfl)|exact Or.inr (Or.inr rfl))(hd:(x ==("__debug__" :Str))=false:=by decide)
  (hcd:(x ==("__classdict__" :Str))=false:=by decide) (hn1:NoSl e1:=by intro _ _;rfl) (hm:M2 X (.Subscript (.Name x p1) e1 p2) "pop" zf e2 (.Constant .none j p3) zd:=by exact⟨rfl,rfl,rfl,rfl⟩)
  (hs:swapsWith (.Call (.Attribute (.Subscript (.Name x p1) e1 p2) "pop" zf) [e2,.Constant .none j p3] [] zd) none pos.line X.env=pure false:=by rfl):
  SD X EX (.Expr (.Call (.Attribute (.Subscript (.Name x p1) e1 p2) "pop" zf) [e2,.Constant .none j p3] [] zd) pos) (cs_0 i f1 f2):=
 PS.imp (ak_8 (df_6 (bt_7 (by omega) (Fu hN hv hd hcd) h1 hn1) h2 dc_5 hm) hs) λD σ H ⟨H0,G0,G,Δ,O,E,q⟩=>by
  unfold cs_0 at q
  split at q
  ·rename_i zk lk e0;obtain⟨s,e1,etr⟩:=Option.bind_eq_some_iff.mp e0;obtain⟨v0,s1,t⟩:=E.ow i _ _ e1 (Sl.tree_own etr);obtain⟨a,kvs,S1,rfl,m,hH,hk,sub,rl⟩:=t.dic_of;refine⟨.ref a,s1,Fw G H O,Ar Δ,E.aH,E.gall, ?_⟩;cases e3:f1 (Ar Δ) with
   |ex x=>simp only [e3] at q;exact q.elim
   |no=>simp only [e3] at q;exact q.elim
   |ok z1=>
    simp only [e3] at q;refine WP.intro λv1 G1 H1 st1 r1=> ?_
    split at q
    ·rename_i k1 ek1
     split at q
     ·rename_i kt2 ev
      split at q
      ·rename_i kds eu;have hv1:=ae_8 r1 ek1;subst hv1;have E3:=E.keep st1.hh;obtain⟨vb,s1',t3⟩:=E3.ow i _ _ e1 (Sl.tree_own etr);obtain⟨a',cj,S1',ea,m',hH',hk',ax,rl'⟩:=t3.dic_of;rw [s1] at s1';cases s1';cases ea;obtain⟨vc,Sc,ec,tc,ic,fc⟩:=OwL.focusK k1 hk' rl' ev;have tc':=tc;rw [bf_9 eu] at tc';obtain⟨c,kvc,rfl,mc,hHc,hkc,rlc⟩:=Ow.dict_of (kds:=kds) tc';refine⟨a,.ref c,rfl,Or.inl ⟨cj,k1,.inl hH',rfl,ec.symm⟩,c,rfl,.inl ⟨kvc,.inl hHc⟩, ?_⟩;refine⟨Fw G H1 O,Ar Δ,E3.aH,E3.gall, ?_⟩;cases e4:f2 (Ar Δ) with
       |ex x=>simp only [e4] at q;exact q.elim
       |no=>simp only [e4] at q;exact q.elim
       |ok z2=>
        simp only [e4] at q;refine WP.intro λv2 G2 H2 st2 r2=> ?_
        split at q
        ·rename_i k2 ek2;have hv2:=ae_8 r2 ek2;subst hv2;have E4:=E3.keep st2.hh;have bj:H2 c=some (.dK kvc):=st2.hh _ _ hHc;have hca:c≠a:=(ax c (ic c mc)).2;obtain⟨p1,p2⟩:=cc_9 k2 hkc rlc;have fin:∀o:HO,o=.dK (Hf kvc k2)->D.nx σ (upd H2 c o):=λo eo=>by
          subst eo;refine q σ G _ _ (E4.writeIn e1 etr s1 (ax c (ic c mc)).1 ?_) (Same.refl _);refine Ow.dic (S1:=S1') (by rw [Bm (Ne.symm hca)];exact st2.hh _ _ hH') (by rw [aw_0];exact hk') m' ax ?_;refine fc (λb o hb nb z=> ?_) (Ow.dict Cw p1 mc p2);rw [Bm (show b≠c from λw=>nb (by rw [w];exact mc))];exact st2.hh _ _ z
         refine⟨kvc,k2,bj,rfl,λv _=>fin _ rfl,λen=> ?_⟩;have:H2=upd H2 c (.dK (Hf kvc k2)):=by
          rw [ca_9 (df_7 en)]
          funext b
          by_cases z:b=c
          ·rw [z,Cw,bj]
          ·rw [Bm z]
         show D.nx σ H2;rw [this];exact fin _ rfl
        ·exact q.elim
      ·exact q.elim
     ·exact q.elim
    ·exact q.elim
  ·exact q.elim
def bp_5(i:Nat)(f1:FE):FS:=λ Δ=>match(Δ[i]?).bind Sl.tree with
 |some (.dic zk,lk)=>(match f1 (Ar Δ) with
   | .ok z1=>(match Dl z1.d with
    |some k1=>if(Dy zk k1).isSome then .no else if zk.length < 16777216 then .nx (Δ.set i (Sl.mk lk (.dic (zk ++ [(k1,.dic [])])))) else .no
    |none=> .no)
   |_=> .no)
 |_=> .no
def dt_2{i:Nat}{x:Str}{e1:Expr}{f1:FE}{p1 p2 zg pos:Pos}(hu:X.A.units + 64 < cLine)(h1:ED X EX e1 f1)(hN:X.N[i]? =some x:=by rfl)(hv:Hk X.env.scope x:=by first|exact Or.inl rfl|exact Or.inr (Or.inl rfl)|exact Or.inr (Or.inr rfl))(hd:(x ==("__debug__" :Str))=false:=by decide)
  (hcd:(x ==("__classdict__" :Str))=false:=by decide) (hs:swapsWith (.Dict [] [] p2) (some (.Subscript (.Name x p1) e1 zg)) pos.line X.env=pure false:=by rfl):
  SD X EX (.Assign [.Subscript (.Name x p1) e1 zg] (.Dict [] [] p2) pos) (bp_5 i f1):=
 PS.imp (bt_8 (by omega) (Fu hN hv hd hcd) h1 ca_8 hs) λD σ H ⟨H0,G0,G,Δ,O,E,q⟩=>by
  unfold bp_5 at q
  split at q
  ·rename_i zk lk e0;obtain⟨s,e1,etr⟩:=Option.bind_eq_some_iff.mp e0;intro p hp;have E1:=E.keep (n_5 hp (.dK []));obtain⟨v0,s1,t⟩:=E1.ow i _ _ e1 (Sl.tree_own etr);obtain⟨a,kvs,S1,rfl,m,hH,hk,sub,rl⟩:=t.dic_of;refine⟨.ref a,s1,Fw G (upd H p (.dK [])) O,Ar Δ,E1.aH,E1.gall, ?_⟩;cases e3:f1 (Ar Δ) with
   |ex x=>simp only [e3] at q;exact q.elim
   |no=>simp only [e3] at q;exact q.elim
   |ok z1=>
    simp only [e3] at q;refine WP.intro λv1 G1 H1 st1 r1=> ?_
    split at q
    ·rename_i k1 ek1
     split at q
     ·exact q.elim
     ·rename_i hno
      split at q
      ·rename_i hl;have hv1:=ae_8 r1 ek1;subst hv1;have E3:=E1.keep st1.hh;have hH1:H1 a=some (.dK kvs):=st1.hh _ _ hH;have hp1:H1 p=some (.dK []):=st1.hh _ _ Cw;have hle:kvs.length=zk.length:=by
        have:=congrArg List.length hk
        rwa [List.length_map,List.length_map] at this
       have npO:∀j b,O j b->b≠p:=λj b hb z=>(E.out j b hb).2.2 (by rw [z];exact hp);have hap:a≠p:=npO i a m;refine⟨a,_,rfl,DPut.k hH1 (by rw [hle,sizeLine_eq];exact hl), ?_⟩;have dv:(kvs.any λkv=>decide (kv.1=k1))=false:=by
        rw [bf_8 k1 hk];cases h:zk.any λkv=>decide (kv.1=k1) with
        |false=>rfl
        |true=>
         exfalso;apply hno;unfold Dy;rw [Option.isSome_map,List.find?_isSome];exact List.any_eq_true.mp h
       have fz:Dm kvs k1 (.ref p)=kvs ++ [(k1,.ref p)]:=by
        rw [cr_8];unfold Eb;rw [dv];rfl
       rw [fz];have Gp:G p=none:=E.st.gh.free hp;have old:∀b o,H b=some o->H1 b=some o:=λb o z=>st1.hh _ _ (n_5 hp _ b o z);have ms:MStep2 (O i) G H G (upd H1 a (.dK (kvs ++ [(k1,.ref p)]))):=⟨λb o nb z=>by rw [Bm (λw=>nb (by rw [w];exact m))];exact old b o z,λb o z=>by
        have:b≠a:=λw=>by rw [w,(E.out i a m).1] at z;cases z
        rw [Bm this];exact old b o (E.st.gh b o z),Same.refl _,λb _ z _=>z⟩
       refine q σ G _ _ (E.step2 (S:=λb=>O i b\/b=p) (Sl.mk_own lk _) (Sl.mk_lk lk _) (E.mk_lt e1 etr _) ms s1 (λb hb=> ?_) ?_) (Same.refl _)
       ·rcases hb with hb|hb
        ·refine⟨.inl hb,(E.out i b hb).1, ?_⟩
         by_cases w:b=a
         ·rw [w,Cw];simp
         ·rw [Bm w];cases e:H b with
          |none=>exact absurd e (E.out i b hb).2.2
          |some o=>rw [old b o e];simp
        ·subst hb;exact⟨.inr hp,Gp,by rw [Bm (Ne.symm hap),hp1];simp⟩
       ·refine Ow.dic (S1:=λb=>S1 b\/b=p) Cw (by rw [List.map_append,List.map_append,hk];rfl) (.inl m) (λb hb=> ?_) ?_
        ·rcases hb with hb|hb
         ·exact⟨.inl (sub b hb).1,(sub b hb).2⟩
         ·subst hb;exact⟨.inr rfl,Ne.symm hap⟩
        ·rw [List.map_append,List.map_append];refine OwL.append (S2:=λb=>b=p) (rl.mono (Same.refl _) (λb o hb z=> ?_) λ_ z=>z) (.cons (S1:=λb=>b=p) (S2:=λ_=>False) (.dic (S1:=λ_=>False) (by rw [Bm (Ne.symm hap)];exact hp1) rfl rfl (λ_ z=>z.elim) .nil) .nil (λ_ _ z=>z) (λ_ z=>z) λ_ z=>z.elim) (λb z1 z2=>npO i b (sub b z1).1 z2) (λb z=> .inl z) λb z=> .inr z;rw [Bm (sub b hb).2];exact st1.hh _ _ z
      ·exact q.elim
    ·exact q.elim
  ·exact q.elim
end
def kD:Au->D
 | .inl i=> .int i
 | .inr x=> .str x
def ee_8{G:Hp}(k:Au):Has K G (kV k) (kD k):=by cases k <;> constructor
theorem cs_1{G:Hp}:∀ks:List Au,HasL K G (ks.map kV) (ks.map kD)
 | []=> .nil
 |k::ks=> .cons (ee_8 k) (cs_1 ks)
def dh_9{w:World}{k:Au}{u:Value}(h:(j_0 P w).is k u=true):RelV (kV k) u:=by
 rcases j_5 h with⟨i,t,rfl,rfl⟩|⟨x,t,rfl,rfl⟩
 ·exact⟨t,rfl⟩
 ·exact⟨t,rfl⟩
theorem bp_6{w:World}:∀{kvs:List (Au×V)} {vs:List (Au×Value)} {us:List Value},KV kvs vs->us.length=vs.length->(∀(j:Nat) v,us[j]? =some v->∃k x,vs[j]? =some (k,x)/\(j_0 P w).is k v=true)->Vals ((kvs.map (·.1)).map kV) us
 | [],vs,us,r,hl,_=>by
  have:=r.length;simp at this;have:us= []:=List.eq_nil_of_length_eq_zero (by omega);subst this;exact .nil
 |(k,v)::kvs,vs,us,r,hl,h=>by
  cases r with
  |cons h1 r=>
   rename_i q vs;obtain⟨k',x⟩:=q;cases us with
   |nil=>simp at hl
   |cons u us=>
    obtain⟨k2,x2,e,i⟩:=h 0 u rfl;have e:(k',x)=(k2,x2):=by simpa using e
    cases e;have e1:k=k':=h1.1;subst e1;exact .cons (dh_9 i) (bp_6 r (by simpa using hl) λj v e=>by
     obtain⟨a,b,c,d⟩:=h (j + 1) v (by simpa using e);exact⟨a,b,by simpa using c,d⟩)
section
variable{X:Cx}{EX:Bq}{pos:Pos}
def cs_2:List D->R W
 | [.dic kvs]=> .ok (.ow (.lst (kvs.map λp=>kD p.1)))
 |_=> .no
def cm_5(hc:X.calm=true):Ek X (.type "list") cs_2:=by
 intro zc s σ H vs us Q I rv q;obtain⟨EX,G,ds,g,r,o⟩:=q;cases r with
 |nil=>exact False.elim o
 |cons h t=>
  cases t with
  |cons _ _=>cases h <;> exact False.elim o
  |nil=>
   cases h with
   |dic h hk r=>
    rename_i kvs kds;obtain⟨u,rfl,ru⟩:=rv.one;cases ru;obtain⟨z,lo,ws,kv,dd⟩:=ar_3 I.hok (Same.rdD g h);obtain⟨ep,da⟩:=dd.dictAt;refine kdl_call (kdl_dict lo) (I.ok.hd hc) da (by rw [<-kv.length];exact z) λh' tk zm c kk hat it=> ?_;have rv':Vals ((kvs.map (·.1)).map kV) zm.toList:=bp_6 kv (by rw [Array.length_toList];exact it.1) λj v e=>it.2 j v (by rw [<-Array.getElem?_toList];exact e);have fr:=I.hok.fresh (Nat.le_refl _);refine⟨.ref _,upd H _ (.lst _),I.laid (t':=tk) kk (Nat.le_refl _) ⟨?_,zm.toList,c,rv',by simpa using hat⟩,rfl, ?_⟩
    ·rw [List.length_map,List.length_map];exact z
    ·have e:(kds.map λp=>kD p.1)=(kvs.map (·.1)).map kD:=by rw [hk,List.map_map];rfl
     have o':Out X.K EX G H (.ok (.ow (.lst ((kvs.map (·.1)).map kD)))) Q:=by rw [<-e];exact o
     exact x_5 o' g (cs_1 _) _ fr
   |_=>exact False.elim o
def minK:List D->R W
 | [.dic kvs]=>(match kvs with
  | [(.inl i,_)]=> .ok (.sh (.int i))
  |_=> .no)
 |_=> .no
def cz_1(hc:X.calm=true):Ek X (.builtin "min") minK:=by
 intro zc s σ H vs us Q I rv q;obtain⟨EX,G,ds,g,r,o⟩:=q;cases r with
 |nil=>exact False.elim o
 |cons h t=>
  cases t with
  |cons _ _=>cases h <;> exact False.elim o
  |nil=>
   cases h with
   |dic h hk r=>
    rename_i kvs kds;cases kds with
    |nil=>exact False.elim o
    |cons p kds=>
     obtain⟨k,d⟩:=p;cases k with
     |inr x=>exact False.elim o
     |inl i=>
      cases kds with
      |cons _ _=>exact False.elim o
      |nil=>
       obtain⟨u,rfl,ru⟩:=rv.one;cases ru;obtain⟨z,lo,ws,kv,dd⟩:=ar_3 I.hok (Same.rdD g h);obtain⟨ep,da⟩:=dd.dictAt;have hws:∃x,ws= [(.inl i,x)]:=by
        have e1:=kv.keys;rw [hk] at e1;cases ws with
        |nil=>simp at e1
        |cons q ws=>
         cases ws with
         |cons _ _=>simp at e1
         |nil=>
          obtain⟨k',x⟩:=q;have:(.inl i:Au)=k':=by simpa using e1
          subst this;exact⟨x,rfl⟩
       obtain⟨x,rfl⟩:=hws;obtain⟨oI,St,hit,W,st⟩:=(kdl_dict (knd:=j_0 X.prog X.w) lo).iter X.A.in1 s (I.ok.hd hc) da;refine call_min_walk (hit _ _ ⟨_,_,_,_,_,_,λa b=>decide ((λ_=>i) a < (λ_=>i) b),rfl,W,st,λb hb=> ?_,Nat.zero_lt_one,CmpOf.ints_lt (λ_=>i) (λj v hj=> ?_),λv h' tk hP hk'=> ?_⟩)
       ·show b < (s.heap.push oI).objs.size;rw [Heap.size_push];rcases List.mem_cons.mp hb with e|hb
        ·rw [e];exact Nat.lt_succ_self _
        ·rw [List.mem_singleton.mp hb];exact Nat.lt_succ_of_lt da.lt_size
       ·obtain⟨k,y,e1,e2⟩:=hj;cases j with
        |zero=>
         cases e1;exact dh_9 e2
        |succ j=>simp at e1
       ·obtain⟨k,y,e1,e2⟩:=hP;have e1:((.inl i,x):Au×Value)=(k,y):=by simpa [argBest] using e1
        cases e1;obtain⟨t,rfl⟩:=dh_9 e2;have old:∀b o,s.heap.get? b=some o->h'.get? b=some o:=λb o e=>
         hk' b o (λhm=>absurd (Heap.lt_size e) (by rw [List.mem_singleton.mp hm];exact Nat.lt_irrefl _)) (Heap.get?_push_of_some _ e)
        exact⟨.int i,H,I.kept (t':=tk) old,⟨t,rfl⟩,Dd o g (.int _)⟩
   |_=>exact False.elim o
end
def cm_6(l b:Addr)(xs ys:Array Value)(n m:Nat)(dd:Option Addr)(sl:Array (Option Value))(h0:¬(!xs.isEmpty && Builtin.List.listTooLong (xs.size + ys.size))=true)(h1:xs.size<=sizeLine)(h2:xs.size + ys.size<=sizeLine + 1):
  Meets (Builtin.«list.extend» ⟨[.ref l,.ref b],[]⟩) (λ_ R s=>s.heap.get? l=some {cls:=.type "list",data:=.seq xs n}/\s.heap.get? b=some ⟨.type "tuple",dd,.seq ys m,sl⟩/\
   R (.ok (.ret Value.none)) {s with heap:=s.heap.update l (Obj.mapSeq λz=>z ++ ys),toks:=s.toks}):=
 .of_wp λprog w A R s h=>by
  obtain⟨hp,g,d,tk,os⟩:=s;obtain⟨ha,hc,h⟩:=h;have g1:=AutoSeq1.idx_int;have g2:=AutoSeq1.sub_tuple_tuple;have g3:=AutoSeq1.sub_list_list;have g4:=AutoSeq1.sub_tuple_list;have g5:=AutoSeq1.sub_list_tuple;have hz:(xs ++ ys).size<=sizeLine + 1:=by rw [Array.size_append];exact h2
  wp_walk using(wpAny_updateSeq ha rfl (hz:=h1) (_hz':=hz)),wpAny_loadPart' ha,wpAny_loadPart' hc
  exact⟨_,rfl,h⟩
section
variable{X:Cx}{EX:Bq}{pos:Pos}
def em_5(K:Frag):V->List V->Hp->VK->Prop:=λx vs H Q=>∃l b xs zs,x=.ref l/\vs= [.ref b]/\H l=some (.lst xs)/\SqT K H b zs/\xs.length + zs.length<=sizeLine/\Q .non (upd H l (.lst (xs ++ zs)))
def dt_3:MtM X "list.extend" (em_5 X.K):=by
 intro zc s σ H x vs v us Q I rx rv h;obtain⟨l,b,xs,zs,rfl,rfl,hH,hB,hz,q⟩:=h;cases rx;obtain⟨u,rfl,ru⟩:=rv.one;cases ru;obtain⟨z,its,n,r,hl,e⟩:=I.lstM hH;obtain⟨its2,r2,⟨o,e2,c2,n2,dat⟩,z2⟩:=I.tuple hB;have hl2:=r2.length;obtain⟨cls,dd,data,sl⟩:=o;simp only at c2 dat;subst c2 dat;have hsz:its.toArray.size + its2.toArray.size<=sizeLine:=by rw [List.size_toArray,List.size_toArray];omega
 have aw:¬(!its.toArray.isEmpty && Builtin.List.listTooLong (its.toArray.size + its2.toArray.size))=true:=by
  rw [ca_4 hsz,Bool.and_false];simp
 refine call_meets PySem.F.slot_list_extend ⟨_,e,rfl⟩ PySem.F.entry_list_extend (PySem.F.args_list_extend_2 _ _) (cm_6 l b its.toArray its2.toArray n n2 dd sl aw (by rw [List.size_toArray];omega) (by omega)) ⟨e,e2, ?_⟩;refine⟨.non,_,I.lset (its':=its ++ its2) hH e (by simp) (r.append r2) ?_,rfl,q⟩;rw [List.length_append];omega
def sExt(i:Nat)(f:FE):FS:=λ Δ=>match Δ[i]? with
 |some (.ow (.lst ds))=>(match f (Bb Δ) with
  | .ok w=>(match w.d with
   | .tup es=>if ds.length + es.length<=16777216 then .nx (Δ.set i (.ow (.lst (ds ++ es)))) else .no
   |_=> .no)
  |_=> .no)
 |_=> .no
def ee_9{i:Nat}{x:Str}{e:Expr}{f:FE}{p1 zf zd:Pos}(he:ED X EX e f)(hN:X.N[i]? =some x:=by rfl)(hv:Hk X.env.scope x:=by first|exact Or.inl rfl|exact Or.inr (Or.inl rfl)|exact Or.inr (Or.inr rfl))(hd:(x ==("__debug__" :Str))=false:=by decide)
  (hcd:(x ==("__classdict__" :Str))=false:=by decide) (hsw:swapsWith (.Call (.Attribute (.Name x p1) "extend" zf) [e] [] zd) none pos.line X.env=pure false:=by rfl)
  (aa:attributeBase (.Name x p1) "extend" X.env (eval (.Name x p1) X.env)=eval (.Name x p1) X.env:=by rfl)
  (ay:((backTo zd (starEach [e] X.env)).all (λx=> !x.1) && (backToKw zd (keywordEach [] X.env)).all (λx=>x.1.isSome)
   && decide ([e].length + ([]:List Keyword).length + (if([]:List Keyword).isEmpty then 0 else 1) < 30))=true:=by rfl)
  (ae:(zf.endLine ==zd.line)=true:=by rfl) (hs:starEach [e] X.env=(false,eval e X.env)::starEach [] X.env:=by rfl) (af:(backTo zd (starEach [] X.env)).any (·.1)=false:=by rfl):
  SD X EX (.Expr (.Call (.Attribute (.Name x p1) "extend" zf) [e] [] zd) pos) (sExt i f):=
 PS.imp (ak_8 (de_4 PySem.F.plainAttrs_list PySem.F.slot_list_extend PySem.F.type_list_extend dt_3 (Fu hN hv hd hcd) (k_9 he y_5 hs) aa ay ae hs af) hsw) λD σ H ⟨H0,G0,G,Δ,O,E,q⟩=>by
  unfold sExt at q
  split at q
  ·rename_i ds e1;obtain⟨v0,s1,t⟩:=E.ow i _ _ e1 rfl;obtain⟨a,vs,rfl,m,hH,rl⟩:=t.list_of;refine⟨.ref a,s1,.inl ⟨rfl,_,SqL.of hH⟩,G,Bb Δ,E.st.gh,E.gsh, ?_⟩;cases e2:f (Bb Δ) with
   |ex x=>simp only [e2] at q;exact q.elim
   |no=>simp only [e2] at q;exact q.elim
   |ok w=>
    simp only [e2] at q;refine WP.intro λv G' H' st r=> ?_;revert q r;cases w.d with
    |tup es=>
     intro q r;simp only at q
     split at q
     ·rename_i hz;cases r with
      |tup h r=>exact⟨a,_,vs,_,rfl,rfl,st.hh _ _ hH,Same.tupS st.gh h,by rw [rl.length,r.length,sizeLine_eq];exact hz,q σ G' _ _ ((E.grow st).writeL s1 m ((rl.mono st.gg).append r)) st.gg⟩
     ·exact q.elim
    |_=>intro q _;exact False.elim q
  ·exact q.elim
def cd_0(i j:Nat):FS:=λ Δ=>match Δ[j]? with
 |some (.ow (.lst ds))=>(match ds[ds.length - 1]? with
  |some d=> .nx ((Δ.set j (.ow (.lst ds.dropLast))).set i (.sh d))
  |none=> .no)
 |_=> .no
theorem HasL.dropLast{G:Hp}{ds:List D}(h:HasL K G vs ds):HasL K G vs.dropLast ds.dropLast:=by
 rw [List.dropLast_eq_take,List.dropLast_eq_take,h.length];exact h.take _
def dt_5{i j:Nat}{x y:Str}{p1 p2 zf zd:Pos}(hN:X.N.Nodup)(hi:X.N[i]? =some x:=by rfl)(hx:Loc X.env.scope x:=by first|exact Or.inl rfl|exact Or.inr rfl)(hj:X.N[j]? =some y:=by rfl)(hv:Hk X.env.scope y:=by first|exact Or.inl rfl|exact Or.inr (Or.inl rfl)|exact Or.inr (Or.inr rfl))(hd:(y ==("__debug__" :Str))=false:=by decide)
  (hcd:(y ==("__classdict__" :Str))=false:=by decide) (hs:swapsWith (.Call (.Attribute (.Name y p1) "pop" zf) [] [] zd) (some (.Name x p2)) pos.line X.env=pure false:=by rfl)
  (hf:X.fn x=true\/X.env.scope.names.lookup x=some .local:=by first|exact .inl rfl|exact .inr rfl|assumption)
  (aa:attributeBase (.Name y p1) "pop" X.env (eval (.Name y p1) X.env)=eval (.Name y p1) X.env:=by rfl) (ae:(zf.endLine ==zd.line)=true:=by rfl):
  SD X EX (.Assign [.Name x p2] (.Call (.Attribute (.Name y p1) "pop" zf) [] [] zd) pos) (cd_0 i j):=
 PS.imp (cj_7 hN hi hx (de_3 PySem.F.plainAttrs_list PySem.F.slot_list_pop PySem.F.type_list_pop ec_7 (Fu hj hv hd hcd) aa ae) hs hf) λD σ H ⟨H0,G0,G,Δ,O,E,q⟩=>by
  unfold cd_0 at q
  split at q
  ·rename_i ds e1;obtain⟨v0,s1,t⟩:=E.ow j _ _ e1 rfl;obtain⟨a,vs,rfl,m,hH,rl⟩:=t.list_of
   split at q
   ·rename_i d e2;rw [<-rl.length] at e2;obtain⟨v,e3,hv⟩:=rl.get e2;exact⟨.ref a,s1,.inl ⟨rfl,_,SqL.of hH⟩,a,vs,v,rfl,rfl,hH,e3,q _ G _ _ ((E.writeL s1 m rl.dropLast).put hv) (Same.refl _)⟩
   ·exact q.elim
  ·exact q.elim
theorem HasL.eraseIdx{G:Hp}:∀{vs:List V} {ds:List D} (n:Nat),HasL K G vs ds->HasL K G (vs.eraseIdx n) (ds.eraseIdx n)
 |_,_,_,.nil=> .nil
 |_,_,0,.cons _ r=>r
 |_,_,n + 1,.cons h r=> .cons h (HasL.eraseIdx n r)
def ay_6(i:Nat)(f:FE):FS:=λ Δ=>match f (Ar Δ) with
 | .ok (.ow (.lst ds))=>if ds.all Ba=true then .nx (Δ.set i (.ow (.lst ds))) else .no
 |_=> .no
theorem HasL.ofFl{G G':Hp}:∀{vs:List V} {ds:List D},HasL K G vs ds->ds.all Ba=true->HasL K G' vs ds
 |_,_,.nil,_=> .nil
 |_,_,.cons h r,f=>by
  rw [List.all_cons,Bool.and_eq_true] at f;exact .cons (h.ofFl f.1) (HasL.ofFl r f.2)
def cs_3{i:Nat}{x:Str}{e:Expr}{f:FE}{pos':Pos}(he:ED X EX e f)(hN:X.N.Nodup)(hi:X.N[i]? =some x:=by rfl)(hx:Loc X.env.scope x:=by first|exact Or.inl rfl|exact Or.inr rfl)(hs:swapsWith e (some (.Name x pos')) pos.line X.env=pure false:=by rfl)
  (hf:X.fn x=true\/X.env.scope.names.lookup x=some .local:=by first|exact .inl rfl|exact .inr rfl|assumption):SD X EX (.Assign [.Name x pos'] e pos) (ay_6 i f):=
 PS.imp (cj_7 hN hi hx he hs hf) λD σ H ⟨H0,G0,G,Δ,O,E,q⟩=>by
  unfold ay_6 at q;refine⟨Fw G H O,Ar Δ,E.aH,E.gall, ?_⟩
  split at q
  ·rename_i ds e1
   split at q
   ·rename_i fl;rw [e1];intro v S G' H' st fr t;obtain⟨a,vs,rfl,m,hH,rl⟩:=t.list_of;have nG:G a=none:=E.st.gh.free (fr a m).1;refine q _ G H' _ ((E.keep st.hh).putO (S:=λb=>b=a) (λb hb=> ?_) rfl (λ_ z=>by cases z) (Ow.list hH rfl (rl.ofFl fl)) λj b hj hb=> ?_) (Same.refl _)
    ·subst hb;exact⟨E.st.hh.free (fr b m).1,nG,by rw [hH];simp⟩
    ·subst hb;exact(E.out j b hj).2.2 (fr b m).1
   ·exact q.elim
  ·exact q.elim
end
def bu_6(n:Nat)(ds:List D)(t:Tn):SE:=(Ay n ds).set ds.length (.lt t)
def cd_1(n:Nat)(g:FS)(ds:List D)(t:Tn):Option Tn:=match g (bu_6 n ds t) with
 | .nx Δ=>(match Δ[ds.length]? with
  |some (.lt t')=>some t'
  |_=>none)
 |_=>none
def spM(K:Frag)(n:Nat)(F:List D->Tn->Option Tn):Sp:=λvs H Q _=>∃vs0 a0,vs=vs0 ++ [.ref a0]/\vs0.length=n/\∃G ds t S t',Same G H/\HasL K G vs0 ds/\Ow K G H (.ref a0) t S/\(∀a,S a->G a=none/\H a≠none)/\F ds t=some t'/\
 ∀G' H' S',MStep2 S G H G' H'->(∀a,S' a->(S a\/H a=none)/\G' a=none/\H' a≠none)->Ow K G' H' (.ref a0) t' S'->Q .non H'
def cz_2{G H h0:Hp}{vs us:List V}{ds:List D}{N:List Str}{b:Nat->Addr}(g:Same G H)(i0:Same h0 H)(r:HasL K G vs ds)(hl:(vs ++ us).length<=N.length):Ev K ⟨h0,b⟩ G G H (Hb N (vs ++ us)) (Ay N.length ds) (λ_ _=>False):=by
 have key:∀(i:Nat) (s:Sl),(Ay N.length ds)[i]? =some s->(∃d,s=.sh d/\ds[i]? =some d)\/s=.no:=λi s e=>by
  unfold Ay at e
  by_cases hi:i < ds.length
  ·rw [List.getElem?_append_left (by rw [List.length_map];exact hi),List.getElem?_map] at e;obtain⟨d,e1,e2⟩:=Option.map_eq_some_iff.mp e;exact .inl ⟨d,e2.symm,e1⟩
  ·rw [List.getElem?_append_right (by rw [List.length_map];omega),List.getElem?_replicate] at e
   split at e
   ·cases e;exact .inr rfl
   ·cases e
 refine⟨⟨i0,g,Same.refl _,λ_ n _=>n⟩, ?_,λi d e=> ?_,λi z d e zo=> ?_,λ_ _ ha=>ha.elim,λ_ _ _ ha=>ha.elim,λi d e=> ?_,λi d e=> ?_⟩
 ·unfold Hb Ay;have:=r.length;simp only [List.length_append,List.length_map,List.length_replicate] at hl⊢;omega
 ·rcases key i _ e with⟨d',q,q2⟩|q
  ·cases q;obtain⟨v,e1,h⟩:=r.get q2;refine⟨v, ?_,h⟩;unfold Hb;have hi:i < vs.length:=(List.getElem?_eq_some_iff.mp e1).1;rw [List.getElem?_append_left (by rw [List.length_map,List.length_append];omega),List.getElem?_map,List.getElem?_append_left hi,e1];rfl
  ·cases q
 ·rcases key i _ e with⟨d',q,_⟩|q <;> (subst q;cases zo)
 ·rcases key i _ e with⟨d',q,_⟩|q <;> cases q
 ·rcases key i _ e with⟨d',q,_⟩|q <;> cases q
open Classical in
def fn_M{c:Bool}{w:World}{x qual:Str}{st:Stmt}{f:Addr}{N ps:List Str}{k n:Nat}{g:FS}(F:Fun K x qual st f fd)(S:FnScope N ps (Cn st))(hn:ps.length=n + 1)(hle:ps.length<=N.length)
  (zh:∀(zn:Value) (A:Around) (outer:List Env) (s:Shared) (H:Hp) (E:XK),RoomC c k (A.deeper (envOfC qual (Cn st) s.heap.objs.size f zn))->
   BD (cxN c P w K mg base N qual (Cn st) f zn A outer s H E) (λ_=>EXof K E) (Fs st) g):FnX P w K mg base c (k + 1) f fd ps (spM K n (cd_1 N.length g)):=by
 refine Fun.okX F S (λvs H Q E h=> ?_) λzn A outer s H vs Q E hr h=>⟨_,zh zn A outer s H E hr, ?_⟩
 ·obtain⟨vs0,a0,rfl,hl,_⟩:=h;rw [List.length_append,hl,hn];rfl
 obtain⟨vs0,a0,rfl,hl,G,ds,t,S0,t',g0,r,tw,out,ef,q⟩:=h;have i0:Same (λb=>if S0 b then none else H b) H:=λb o e=>by
  simp only at e
  split at e
  ·cases e
  ·exact e
 have E0:=cz_2 (N:=N) (b:=λ_=>a0) (us:=[.ref a0]) g0 i0 r (by rw [List.length_append,hl];show n + 1<=_;omega);have zj:ds.length=n:=by rw [<-r.length];exact hl
 have hs:(Hb N (vs0 ++ [.ref a0]))[ds.length]? =some (some (.ref a0)):=by
  unfold Hb;rw [List.getElem?_append_left (by rw [List.length_map,List.length_append,hl,zj];exact Nat.lt_succ_self _),List.getElem?_map,List.getElem?_append_right (by rw [hl,zj];exact Nat.le_refl _),hl,zj,Nat.sub_self];rfl
 have E1:=E0.putO (i:=ds.length) (z:=.lt t) (S:=S0) (λa ha=>⟨by simp only;rw [if_pos ha],(out a ha).1,(out a ha).2⟩) rfl (λ_ z=>by cases z) tw (λj a ha=>ha.elim) (λ_ _=>rfl);rw [ac_3 hs] at E1;refine⟨⟨λb=>if S0 b then none else H b,λ_=>a0⟩,G,G,_,_,E1, ?_⟩;unfold cd_1 at ef;have e2:(Ay N.length ds).set ds.length (.lt t)=bu_6 N.length ds t:=rfl;rw [e2];cases e:g (bu_6 N.length ds t) with
 |nx Δ=>
  rw [e] at ef;simp only at ef
  split at ef
  ·rename_i t2 e3;cases ef;intro σ G' H' O E' _;obtain⟨v,s1,t3⟩:=E'.ow _ _ _ e3 rfl;have s2:=E'.lt _ _ e3;rw [s1] at s2;cases s2;refine q G' H' (O ds.length) ⟨λb o nb z=>E'.st.hh b o (by simp only;rw [if_neg nb];exact z),E'.st.gh,E'.st.gg,λb nb z1 z2=>E'.st.nw b z1 (by simp only;rw [if_neg nb];exact z2)⟩ (λa ha=> ?_) t3;obtain⟨k1,k2,k3⟩:=E'.out _ a ha;refine⟨?_,k1,k3⟩;simp only at k2
   split at k2
   ·rename_i z;exact .inl z
   ·exact .inr k2
  ·cases ef
 |rt w=>rw [e] at ef;cases ef
 |ex x Δ=>rw [e] at ef;cases ef
 |bk Δ=>rw [e] at ef;cases ef
 |ct Δ=>rw [e] at ef;cases ef
 |no=>rw [e] at ef;cases ef
def FnMd(P:Program)(w:World)(K:Frag)(mg:Str->Option Value)(base:Heap)(c:Bool)(x:Str)(k n:Nat)(ps:List Str)(F:List D->Tn->Option Tn):Prop:=
 ∃f fd,FnX P w K mg base c k f fd ps (spM K n F)/\mg x=some (.ref f)/\keepIn K (.ref f)=true/\Binds K fd ps []
def ef_0{c:Bool}{w:World}{x:Str}{st:Stmt}{f:Addr}{ps:List Str}{k n:Nat}{Fn:List D->Tn->Option Tn}(F:Fun K x x st f fd)(hm:mg x=some (.ref f))(hb:Binds K fd ps [])
  (ok:FnX P w K mg base c k f fd ps (spM K n Fn)):FnMd P w K mg base c x k n ps Fn:=⟨f,fd,ok,hm,F.kp,hb⟩
section
variable{X:Cx}{EX:Bq}{e:Expr}{es:List Expr}{x:Str}{pp pos:Pos}{c:Bool}{k k':Nat}{ps:List Str}
def di_0{sp:Sp}{ta:TA}{f:Addr}(hr:RoomC c k' X.A)(lk:Lk X EX)(ok:FnX X.prog X.w X.K X.mg X.base c k f fd ps sp)(hm:X.mg x=some (.ref f))(kp:keepIn X.K (.ref f)=true)(hb:Binds X.K fd ps [])(ha:PA X (e::es) ta)(hk:k<=k')(hg:Gl X x)(hdb:(x ==("__debug__" :Str))=false)
  (he:starEach (e::es) X.env=(false,eval e X.env)::starEach es X.env) (hpl:(backTo pos (starEach es X.env)).any (·.1)=false):
  PE X (.Call (.Name x pp) (e::es) [] pos) (λ σ H Q=>ta σ H λvs H1=>sp vs H1 Q (EXE X.K (EX σ))):=by
 intro zc s σ H Q I q;refine wpAny_Call_Name_kw (x_4 I hg hm ?_ hdb);refine callWith_K (h₀:=X.base) I.ok.mod.kin kp (Bh (ha pos zc s σ H _ I q) λus s1 ⟨vs,H1,I1,r,q⟩=>⟨I1.kIn, ?_⟩) he hpl;exact ar_6 ok (hr.mono hk) hb lk I1 r q
def bg_0(i:Nat)(F:List D->Tn->Option Tn)(f1 f2:FE):FS:=λ Δ=>match(Δ[i]?).bind Sl.tree with
 |some (.dic zk,lk)=>(match f1 (Bb Δ) with
  | .ok w1=>(match f2 (Bb Δ) with
   | .ok w2=>(match F [w1.d,w2.d] (.dic zk) with
    |some t'=> .nx (Δ.set i (Sl.mk lk t'))
    |none=> .no)
   |_=> .no)
  |_=> .no)
 |_=> .no
def di_1{i:Nat}{y:Str}{e1 e2:Expr}{f1 f2:FE}{F:List D->Tn->Option Tn}{p3:Pos}(hr:RoomC c k' X.A)(lk:Lk X EX)(h:FnMd X.prog X.w X.K X.mg X.base c x k 2 ps F)(h1:ED X EX e1 f1)(h2:ED X EX e2 f2)(hk:k<=k':=by decide)
  (hN:X.N[i]? =some y:=by rfl) (hv:Hk X.env.scope y:=by first|exact Or.inl rfl|exact Or.inr (Or.inl rfl)|exact Or.inr (Or.inr rfl)) (hd:(y ==("__debug__" :Str))=false:=by decide) (hcd:(y ==("__classdict__" :Str))=false:=by decide)
  (hg:Gl X x:=by rfl) (hdb:(x ==("__debug__" :Str))=false:=by decide) (hs1:starEach [e1,e2,.Name y p3] X.env=(false,eval e1 X.env)::starEach [e2,.Name y p3] X.env:=by rfl) (hs2:starEach [e2,.Name y p3] X.env=(false,eval e2 X.env)::starEach [.Name y p3] X.env:=by rfl) (hs3:starEach [.Name y p3] X.env=(false,eval (.Name y p3) X.env)::starEach [] X.env:=by rfl)
  (hpl:(backTo pos (starEach [e2,.Name y p3] X.env)).any (·.1)=false:=by rfl) (hsw:swapsWith (.Call (.Name x pp) [e1,e2,.Name y p3] [] pos) none pos.line X.env=pure false:=by rfl) {bb:Pos} (ck:swapsWith (.Call (.Name x pp) [e1,e2,.Name y p3] [] pos) none bb.line X.env=pure false:=by rfl):
  SD X EX (.Expr (.Call (.Name x pp) [e1,e2,.Name y p3] [] pos) bb) (bg_0 i F f1 f2):=by
 obtain⟨f,fd,ok,hm,kp,hb⟩:=h;refine PS.imp (ak_8 (di_0 hr lk ok hm kp hb (k_9 h1 (k_9 h2 (k_9 (Fu hN hv hd hcd) y_5 hs3) hs2) hs1) hk hg hdb hs1 hpl) ck) λD σ H ⟨H0,G0,G,Δ,O,E,q⟩=> ?_;unfold bg_0 at q
 split at q
 ·rename_i zk lk e0;obtain⟨s,e1,etr⟩:=Option.bind_eq_some_iff.mp e0;refine⟨G,Bb Δ,E.st.gh,E.gsh, ?_⟩;cases q1:f1 (Bb Δ) with
  |ex x=>simp only [q1] at q;exact q.elim
  |no=>simp only [q1] at q;exact q.elim
  |ok w1=>
   simp only [q1] at q;refine WP.intro λv1 G1 H1 st1 r1=> ?_;have E1:=E.grow st1;refine⟨G1,Bb Δ,E1.st.gh,E1.gsh, ?_⟩;cases q2:f2 (Bb Δ) with
   |ex x=>simp only [q2] at q;exact q.elim
   |no=>simp only [q2] at q;exact q.elim
   |ok w2=>
    simp only [q2] at q;refine WP.intro λv2 G2 H2 st2 r2=> ?_;have E2:=E1.grow st2;obtain⟨v0,s1,t0⟩:=E2.ow i _ _ e1 (Sl.tree_own etr);refine⟨v0,s1, ?_⟩
    split at q
    ·rename_i t' ef;obtain⟨a0,_,_,rfl,_⟩:=t0.dic_of;refine⟨[v1,v2],a0,rfl,rfl,G2,[w1.d,w2.d],.dic zk,O i,t',E2.st.gh,.cons (r1.mono st2.gg) (.cons r2 .nil),t0,λa ha=>⟨(E2.out i a ha).1,(E2.out i a ha).2.2⟩,ef,λG' H' S' ms fr t1=> ?_⟩;exact q σ G' H' _ (E2.step2 (Sl.mk_own lk t') (Sl.mk_lk lk t') (E2.mk_lt e1 etr t') ms s1 fr t1) ((st1.gg.trans st2.gg).trans ms.gg)
    ·exact q.elim
 ·exact q.elim
def di_2(i j:Nat):FS:=λ Δ=>if i=j then .no else match(Δ[i]?).bind Sl.tree,(Δ[j]?).bind Sl.tree with
 |some (t1,false),some (t2,false)=> .rt (.tr (.tup [t1,t2]))
 |_,_=> .no
def dt_7{i j x1:Nat}{x y:Str}{p1 p2 p3:Pos}(hN:X.N[i]? =some x:=by rfl)(hv:Hk X.env.scope x:=by first|exact Or.inl rfl|exact Or.inr (Or.inl rfl)|exact Or.inr (Or.inr rfl))(hd:(x ==("__debug__" :Str))=false:=by decide)
  (hcd:(x ==("__classdict__" :Str))=false:=by decide) (hN2:X.N[j]? =some y:=by rfl) (hv2:Hk X.env.scope y:=by first|exact Or.inl rfl|exact Or.inr (Or.inl rfl)|exact Or.inr (Or.inr rfl)) (hd2:(y ==("__debug__" :Str))=false:=by decide)
  (fw:(y ==("__classdict__" :Str))=false:=by decide) (hs1:starEach [.Name x p1,.Name y p2] X.env=(false,eval (.Name x p1) X.env)::starEach [.Name y p2] X.env:=by rfl) (hs2:starEach [.Name y p2] X.env=(false,eval (.Name y p2) X.env)::starEach [] X.env:=by rfl):
  SD X EX (.Return (some (.Tuple [.Name x p1,.Name y p2] x1 p3)) pos) (di_2 i j):=
 PS.imp (cj_5 (dd_8 (k_9 (Fu hN hv hd hcd) (k_9 (Fu hN2 hv2 hd2 fw) y_5 hs2) hs1))) λD σ H ⟨H0,G0,G,Δ,O,E,q⟩=>by
  unfold di_2 at q
  split at q
  ·exact q.elim
  ·rename_i hij
   split at q
   ·rename_i t1 t2 e1 e2;obtain⟨z1,a1,b1⟩:=Option.bind_eq_some_iff.mp e1;obtain⟨z2,a2,b2⟩:=Option.bind_eq_some_iff.mp e2;obtain⟨v1,s1,w1⟩:=E.ow i _ _ a1 (Sl.tree_own b1);obtain⟨v2,s2,w2⟩:=E.ow j _ _ a2 (Sl.tree_own b2);refine⟨v1,s1,v2,s2,by rw [sizeLine_eq];show 2<=_;decide,λp hp=> ?_⟩;have np:∀k b,O k b->b≠p:=λk b hb z=>(E.out k b hb).2.2 (by rw [z];exact hp);have grow:∀k b o,O k b->H b=some o->upd H p (.tup [v1,v2]) b=some o:=λk b o hb z=>by rw [Bm (np k b hb)];exact z
    refine q (.ref p) (λb=>b=p\/O i b\/O j b) G _ (E.st.trans (Step.own E.st.gh hp _)) (λa ha=> ?_) ?_
    ·rcases ha with ha|ha|ha
     ·subst ha;exact⟨E.st.hh.free hp,E.st.gh.free hp,by rw [Cw];simp⟩
     ·obtain⟨k1,k2,k3⟩:=E.out i a ha;exact⟨k2,k1,by rw [Bm (np i a ha)];exact k3⟩
     ·obtain⟨k1,k2,k3⟩:=E.out j a ha;exact⟨k2,k1,by rw [Bm (np j a ha)];exact k3⟩
    ·refine Ow.tup (S1:=λb=>O i b\/O j b) Cw (.inl rfl) (λb hb=>⟨.inr hb, ?_⟩) (.cons (S1:=O i) (S2:=O j) (w1.mono (Same.refl _) (grow i) λ_ z=>z) (.cons (S1:=O j) (S2:=λ_=>False) (w2.mono (Same.refl _) (grow j) λ_ z=>z) .nil (λ_ _ z=>z) (λ_ z=>z) λ_ z=>z.elim) (λb z1 z2=>hij (E.dj i j b z1 z2)) (λ_ z=> .inl z) λ_ z=> .inr z);rcases hb with hb|hb
     ·exact np i b hb
     ·exact np j b hb
   ·exact q.elim
end
def OFld(K:Frag)(cs:List Str)(f:Str):Prop:=∀c,cs.contains c=true->∀C,ClsAt K c C->Cls K C/\NoAttr K C f
def OFld.nil{f:Str}:OFld K [] f:=λc h=>by cases h
def ClsAt.same{c:Str}{C C':Addr}(a:ClsAt K c C)(b:ClsAt K c C'):C'=C:=by
 unfold ClsAt at a b;rw [a] at b;injection b with b
 injection b with b
 injection b with b
 exact b.symm
def OFld.one{c:Str}{C:Addr}{cs:List Str}{f:Str}(a:ClsAt K c C)(k:Cls K C)(n:NoAttr K C f)(r:OFld K cs f):OFld K (c::cs) f:=λc' h C' a'=>by
 rw [List.contains_cons,Bool.or_eq_true] at h;rcases h with h|h
 ·have e:=beq_iff_eq.mp h;subst e;rw [a.same a'];exact⟨k,n⟩
 ·exact r c' h C' a'
def Bt(cs:List Str)(f:Str)(fo:FE):FE:=λ δ=>(fo δ).bind λw=>match w.d with
 | .obj c ns vs=>if cs.contains c then(match(ns.zip vs).lookup f with
  |some d=> .ok (.sh d)
  |none=> .no) else .no
 |_=> .no
theorem bc_9{G:Hp}{f:Str}:∀{ns:List Str} {us:List V} {vs:List D},HasL K G us vs->ns.length=us.length->(∀d,(ns.zip vs).lookup f=some d->∃v,(ns.zip us).lookup f=some v/\Has K G v d)/\(ns.contains f=false->(ns.zip us).lookup f=none)
 | [],_,_,_,_=>⟨λd e=>(by cases e),λ_=>rfl⟩
 |n::ns,[],_,_,e=>by simp at e
 |n::ns,u::us,_,.cons h r,e=>by
  obtain⟨i1,i2⟩:=bc_9 (f:=f) (ns:=ns) r (by simpa using e);refine⟨λd q=> ?_,λq=> ?_⟩
  ·rw [List.zip_cons_cons,List.lookup_cons] at q⊢;cases hb:f ==n with
   |true=>simp only [hb] at q⊢;cases q;exact⟨u,rfl,h⟩
   |false=>simp only [hb] at q⊢;exact i1 d q
  ·rw [List.contains_cons,Bool.or_eq_false_iff] at q;rw [List.zip_cons_cons,List.lookup_cons];simp only [q.1];exact i2 q.2
section
variable{X:Cx}{EX:Bq}{e:Expr}{pos:Pos}
def Dp{cs:List Str}{f:Str}{fo:FE}(k:OFld X.K cs f)(he:ED X EX e fo)(hb:attributeBase e f X.env (eval e X.env)=eval e X.env:=by rfl):ED X EX (.Attribute e f pos) (Bt cs f fo):=
 PE.imp (ec_2 he hb) λ σ H Q ⟨G,δ,g0,s0,o⟩=>tD.seq g0 s0 o λw v G1 H1 _ st r o'=>by
  revert o' r;cases w.d with
  |obj c ns vs=>
   intro r o';simp only at o'
   split at o'
   ·rename_i hc
    split at o'
    ·rename_i d ed;cases r with
     |obj hC hh hl rl=>
      obtain⟨v1,e1,h1⟩:=(bc_9 (f:=f) rl hl).1 d ed;obtain⟨kc,kn⟩:=k c hc _ hC;exact⟨_,_,_,_,v1,rfl,st.gh _ _ hh,kc,kn,e1,Dd o' st.gh h1⟩
    ·exact o'.elim
   ·exact o'.elim
  |_=>intro _ o';exact False.elim o'
end
structure MethD(P:Program)(w:World)(K:Frag)(mg:Str->Option Value)(base:Heap)(cc:Bool)(k n:Nat)(m c:Str)(F:List D->R W):Prop where
 ex:∃C f fd ps,ClsAt K c C/\Cls K C/\Meth K C m f/\FnX P w K mg base cc k f fd ps (Bi K (n + 1) F)/\Binds K fd ps []
def MethT(P:Program)(w:World)(K:Frag)(mg:Str->Option Value)(base:Heap)(cc:Bool)(k n:Nat)(m:Str)(tb:List (Str×(List D->R W))):Prop:=∀c F,tb.lookup c=some F->MethD P w K mg base cc k n m c F
def MethT.nil{w:World}{cc:Bool}{k n:Nat}{m:Str}:MethT P w K mg base cc k n m []:=λc F e=>by cases e
def FnX.up{w:World}{c:Bool}{j k:Nat}{f:Addr}{ps:List Str}{sp:Sp}(F:FnX P w K mg base c j f fd ps sp)(h:j<=k):FnX P w K mg base c k f fd ps sp:=
 ⟨F.len,λA outer s H args us vs Q E hr=>F.run A outer s H args us vs Q E (hr.mono h)⟩
def MethT.one{w:World}{cc:Bool}{j k n:Nat}{m c:Str}{F:List D->R W}{tb:List (Str×(List D->R W))}(d:MethD P w K mg base cc j n m c F)(hj:j<=k)(r:MethT P w K mg base cc k n m tb):MethT P w K mg base cc k n m ((c,F)::tb):=λc' F' e=>by
 rw [List.lookup_cons] at e;cases hb:c' ==c with
 |true=>
  simp only [hb] at e;cases e;have:=beq_iff_eq.mp hb;subst this;obtain⟨C,f,fd,ps,a1,a2,a3,a4,a5⟩:=d.ex;exact⟨C,f,fd,ps,a1,a2,a3,a4.up hj,a5⟩
 |false=>simp only [hb] at e;exact r c' F' e
def Bp(m:Str)(n:Nat)(tb:List (Str×(List D->R W)))(fo:FE)(fa:FA):FE:=λ δ=>(fo δ).bind λw=>match w.d with
 | .obj c ns vs=>if ns.contains m then .no else match tb.lookup c with
  |some F=>(fa δ).bind λds=>if ds.length=n then F (.obj c ns vs::ds) else .no
  |none=> .no
 |_=> .no
section
variable{X:Cx}{EX:Bq}{e o:Expr}{es:List Expr}{pos zf:Pos}{cc:Bool}{k k' n:Nat}{m:Str}{tb:List (Str×(List D->R W))}{fo:FE}{fa:FA}
def di_3(X:Cx)(EX:Bq)(cc:Bool)(k:Nat)(m:Str)(ta:TE)(t:TA):TE:=λ σ H Q=>ta σ H λx H1=>∃a C dx fs f fd ps sp,x=.ref a/\H1 a=some (.ins C dx fs)/\fs.lookup m=none/\Cls X.K C/\Meth X.K C m f/\
 FnX X.prog X.w X.K X.mg X.base cc k f fd ps sp/\Binds X.K fd ps []/\t σ H1 λvs H2=>sp (.ref a::vs) H2 Q (EXE X.K (EX σ))
def dt_8{pl:Sem Bool}{ta:TE}{t:TA}(he:PE X o ta)(hr:RoomC cc k X.A)(lk:Lk X EX)(ha:PA X (e::es) t)
  (hst:starEach (e::es) X.env=(false,eval e X.env)::starEach es X.env) (hpl:(backTo pos (starEach es X.env)).any (·.1)=false)
  (ht:eval (.Call (.Attribute o m zf) (e::es) [] pos) X.env=(do
   let ov<-eval o X.env
   standAt zf.atName
   let(f,first)<-holding [ov] (getMethod ov m pl)
   callWith pos f first (backTo pos (starEach (e::es) X.env)) (backToKw pos (keywordEach [] X.env)))):
  PE X (.Call (.Attribute o m zf) (e::es) [] pos) (di_3 X EX cc k m ta t):=by
 intro zc s σ H Q I h;refine methodCall_KW (pl:=pl) (Bh (he zc s σ H _ I h) λu s1 ⟨x,H1,I1,rx,a,C,dx,fs,f,fd,ps,sp,ex,ea,l,c,hm,F,hb,q⟩=> ?_) ht;subst ex;obtain rfl:u=Value.ref a:=rx;refine be_4 I1 ea c hm l ?_;refine callWith_K (first:=[.ref a]) (h₀:=X.base) I.ok.mod.kin hm.kp (Bh (ha pos zc s1 σ H1 _ I1 q) λus s2 ⟨vs,H2,I2,r,q2⟩=>⟨I2.kIn, ?_⟩) hst hpl;exact ar_6 (us:=.ref a::us) (vs:=.ref a::vs) F hr hb lk I2 (.cons rfl r) q2
def di_4{pl:Sem Bool}{ta:TE}(he:PE X o ta)(hr:RoomC cc k X.A)(lk:Lk X EX)
  (ht:eval (.Call (.Attribute o m zf) [] [] pos) X.env=(do
   let ov<-eval o X.env
   standAt zf.atName
   let(f,first)<-holding [ov] (getMethod ov m pl)
   callWith pos f first (backTo pos (starEach [] X.env)) (backToKw pos (keywordEach [] X.env)))):
  PE X (.Call (.Attribute o m zf) [] [] pos) (di_3 X EX cc k m ta tNil):=by
 intro zc s σ H Q I h;refine methodCall_KW (pl:=pl) (Bh (he zc s σ H _ I h) λu s1 ⟨x,H1,I1,rx,a,C,dx,fs,f,fd,ps,sp,ex,ea,l,c,hm,F,hb,q⟩=> ?_) ht;subst ex;obtain rfl:u=Value.ref a:=rx;refine be_4 I1 ea c hm l ?_;exact callWith_K0 (first:=[.ref a]) I1.kIn hm.kp (ar_6 (us:=[.ref a]) (vs:=[.ref a]) F hr hb lk I1 (.cons rfl .nil) q)
def ef_1{σ:Sg}{Q:VK}(hK:X.K=K)(T:MethT X.prog X.w X.K X.mg X.base cc k n m tb)(q:tD K EX (Bp m n tb fo fa) σ H Q):di_3 X EX cc k m (tD K EX fo) (tDa K EX fa) σ H Q:=by
 subst hK;obtain⟨G,δ,g0,s0,o⟩:=q;refine tD.seq g0 s0 o λw v G1 H1 _ st r o'=> ?_;revert o' r;cases w.d with
 |obj c ns vs=>
  intro r o';simp only at o'
  split at o'
  ·exact o'.elim
  ·rename_i hn
   split at o'
   ·rename_i F ef;cases r with
    |obj hC hh hl rl=>
     rename_i a0 C0 dx0 us0;obtain⟨C,f,fd,ps,a1,a2,a3,a4,a5⟩:=(T c F ef).ex;have:=a1.same hC;subst this;refine⟨_,_,_,_,f,fd,ps,_,rfl,st.gh _ _ hh,(bc_9 (f:=m) rl hl).2 (by simpa using hn),a2,a3,a4,a5, ?_⟩;refine tDa.seq st.gh (s0.mono st.gg) o' λds us G' H' _ st' r' o2=> ?_
     split at o2
     ·rename_i zj;refine⟨by rw [List.length_cons,r'.length,zj],G',.obj c ns vs::ds,st'.gh,.cons (Has.mono st'.gg (.obj hC hh hl rl)) r', ?_⟩;cases q:F (.obj c ns vs::ds) with
      |ok w=>rw [q] at o2;exact o2
      |ex x=>rw [q] at o2;exact EXof.in o2
      |no=>rw [q] at o2;exact o2.elim
     ·exact o2.elim
   ·exact o'.elim
 |_=>intro _ o';exact False.elim o'
def r_2{pl:Sem Bool}(T:MethT X.prog X.w X.K X.mg X.base cc k n m tb)(hr:RoomC cc k' X.A)(lk:Lk X EX)(he:ED X EX o fo)(ha:AD X EX (e::es) fa)(hk:k<=k':=by decide)
  (hst:starEach (e::es) X.env=(false,eval e X.env)::starEach es X.env:=by rfl) (hpl:(backTo pos (starEach es X.env)).any (·.1)=false:=by rfl)
  (ht:eval (.Call (.Attribute o m zf) (e::es) [] pos) X.env=(do
   let ov<-eval o X.env
   standAt zf.atName
   let(f,first)<-holding [ov] (getMethod ov m pl)
   callWith pos f first (backTo pos (starEach (e::es) X.env)) (backToKw pos (keywordEach [] X.env))):=by rfl):ED X EX (.Call (.Attribute o m zf) (e::es) [] pos) (Bp m n tb fo fa):=
 PE.imp (dt_8 he (hr.mono hk) lk ha hst hpl ht) λ_ _ _ q=>ef_1 rfl T q
def l_1{pl:Sem Bool}(T:MethT X.prog X.w X.K X.mg X.base cc k 0 m tb)(hr:RoomC cc k' X.A)(lk:Lk X EX)(he:ED X EX o fo)(hk:k<=k':=by decide)
  (ht:eval (.Call (.Attribute o m zf) [] [] pos) X.env=(do
   let ov<-eval o X.env
   standAt zf.atName
   let(f,first)<-holding [ov] (getMethod ov m pl)
   callWith pos f first (backTo pos (starEach [] X.env)) (backToKw pos (keywordEach [] X.env))):=by rfl):ED X EX (.Call (.Attribute o m zf) [] [] pos) (Bp m 0 tb fo Ac):=
 PE.imp (di_4 he (hr.mono hk) lk ht) λ σ H Q ⟨G,δ,g0,s0,q⟩=>tD.seq g0 s0 q λw v G1 H1 _ st r o'=>by
  revert o' r;cases w.d with
  |obj c ns vs=>
   intro r o';simp only at o'
   split at o'
   ·exact o'.elim
   ·rename_i hn
    split at o'
    ·rename_i F ef;cases r with
     |obj hC hh hl rl=>
      obtain⟨C,f,fd,ps,a1,a2,a3,a4,a5⟩:=(T c F ef).ex;have:=a1.same hC;subst this;refine⟨_,_,_,_,f,fd,ps,_,rfl,st.gh _ _ hh,(bc_9 (f:=m) rl hl).2 (by simpa using hn),a2,a3,a4,a5, ?_⟩;have o2:Out X.K (EX σ) G1 H1 (F [.obj c ns vs]) Q:=o';refine⟨rfl,G1,[.obj c ns vs],st.gh,.cons (.obj hC hh hl rl) .nil, ?_⟩;cases q:F [.obj c ns vs] with
      |ok w=>rw [q] at o2;exact o2
      |ex x=>rw [q] at o2;exact EXof.in o2
      |no=>rw [q] at o2;exact o2.elim
    ·exact o'.elim
  |_=>intro _ o';exact False.elim o'
end
def unT:List Tn->Option (List D)
 | []=>some []
 | .sh d::r=>(unT r).map (d:: ·)
 |_=>none
theorem cd_2:∀{ts:List Tn} {ds:List D},unT ts=some ds->ts=ds.map .sh
 | [],_,e=>by cases e;rfl
 |t::r,ds,e=>by
  cases t with
  |sh d=>
   simp only [unT] at e;cases q:unT r with
   |none=>rw [q] at e;cases e
   |some l=>
    rw [q] at e;cases e;rw [cd_2 q];rfl
  |_=>cases e
def n_2(n:Nat)(c:Str)(ds:List D):SE:=.lt (.obj c [] [])::(ds.map Sl.sh ++ List.replicate (n - (ds.length + 1)) .no)
def Go(n:Nat)(c:Str)(g:FS)(ds:List D):R (List Str×List D):=match g (n_2 n c ds) with
 | .nx Δ=>(match Δ[(0:Nat)]? with
  |some (.lt (.obj c' ns ts))=>if c'=c then(match unT ts with
   |some rs=> .ok (ns,rs)
   |none=> .no) else .no
  |_=> .no)
 | .ex x _=> .ex x
 |_=> .no
def spI(K:Frag)(C:Addr)(n:Nat)(F:List D->R (List Str×List D)):Sp:=λvs H Q E=>∃x dx vs0 Hq G ds,vs=.ref x::vs0/\vs0.length=n/\Hq x=none/\Same Hq H/\H x=some (.ins C dx [])/\Same G Hq/\HasL K G vs0 ds/\
 (match F ds with
 | .ok p=>∀G' H' us dx',Step G Hq G' H'->G' x=none->H' x=some (.ins C dx' (p.1.zip us))->p.1.length=us.length->HasL K G' us p.2->Q .non H'
 | .ex e=>(EXof K E).p e G Hq
 | .no=>False)
def cz_3{G H h0:Hp}{v0:V}{ds:List D}{N:List Str}{b:Nat->Addr}(g:Same G H)(i0:Same h0 H)(r:HasL K G vs ds)(hl:vs.length + 1<=N.length):Ev K ⟨h0,b⟩ G G H (Hb N (v0::vs)) (.no::(ds.map Sl.sh ++ List.replicate (N.length - (ds.length + 1)) .no)) (λ_ _=>False):=by
 have key:∀(i:Nat) (s:Sl),(Sl.no::(ds.map Sl.sh ++ List.replicate (N.length - (ds.length + 1)) .no))[i]? =some s->(∃j d,i=j + 1/\s=.sh d/\ds[j]? =some d)\/s=.no:=λi s e=>by
  cases i with
  |zero=>exact .inr (by simpa using e.symm)
  |succ i=>
   rw [List.getElem?_cons_succ] at e
   by_cases hi:i < ds.length
   ·rw [List.getElem?_append_left (by rw [List.length_map];exact hi),List.getElem?_map] at e;obtain⟨d,e1,e2⟩:=Option.map_eq_some_iff.mp e;exact .inl ⟨i,d,rfl,e2.symm,e1⟩
   ·rw [List.getElem?_append_right (by rw [List.length_map];omega),List.getElem?_replicate] at e
    split at e
    ·cases e;exact .inr rfl
    ·cases e
 refine⟨⟨i0,g,Same.refl _,λ_ n _=>n⟩, ?_,λi d e=> ?_,λi z d e zo=> ?_,λ_ _ ha=>ha.elim,λ_ _ _ ha=>ha.elim,λi d e=> ?_,λi d e=> ?_⟩
 ·unfold Hb;have:=r.length;simp only [List.length_append,List.length_map,List.length_replicate,List.length_cons] at hl⊢;omega
 ·rcases key i _ e with⟨j,d',rfl,q,q2⟩|q
  ·cases q;obtain⟨v,e1,h⟩:=r.get q2;refine⟨v, ?_,h⟩;unfold Hb;have hi:j < vs.length:=(List.getElem?_eq_some_iff.mp e1).1;rw [List.getElem?_append_left (by rw [List.length_map,List.length_cons];omega),List.getElem?_map,List.getElem?_cons_succ,e1];rfl
  ·cases q
 ·rcases key i _ e with⟨j,d',_,q,_⟩|q <;> (subst q;cases zo)
 ·rcases key i _ e with⟨j,d',_,q,_⟩|q <;> cases q
 ·rcases key i _ e with⟨j,d',_,q,_⟩|q <;> cases q
def fn_I{c:Bool}{w:World}{x qual cn:Str}{st:Stmt}{f C:Addr}{N ps:List Str}{k n:Nat}{g:FS}(F:Fun K x qual st f fd)(S:FnScope N ps (Cn st))(hC:ClsAt K cn C)(hn:ps.length=n + 1)(hle:ps.length<=N.length)
  (zh:∀(zn:Value) (A:Around) (outer:List Env) (s:Shared) (H:Hp) (E:XK),RoomC c k (A.deeper (envOfC qual (Cn st) s.heap.objs.size f zn))->
   BD (cxN c P w K mg base N qual (Cn st) f zn A outer s H E) (λ_=>EXof K E) (Fs st) g):FnX P w K mg base c (k + 1) f fd ps (spI K C n (Go N.length cn g)):=by
 refine Fun.okX F S (λvs H Q E h=> ?_) λzn A outer s H vs Q E hr h=>⟨_,zh zn A outer s H E hr, ?_⟩
 ·obtain⟨x,dx,vs0,Hq,G,ds,rfl,hl,_⟩:=h;rw [List.length_cons,hl,hn]
 obtain⟨x,dx,vs0,Hq,G,ds,rfl,hl,n1,i0,hx,g0,r,q⟩:=h;have E0:=cz_3 (N:=N) (b:=λ_=>x) (v0:=.ref x) (g0.trans i0) i0 r (by rw [hl];omega);have hs:(Hb N (.ref x::vs0))[0]? =some (some (.ref x)):=rfl;have E1:=E0.putO (i:=0) (z:=.lt (.obj cn [] [])) (v:=.ref x) (S:=λb=>b=x) (λa ha=>by subst ha;exact⟨n1,g0.free n1,by rw [hx];simp⟩) rfl (λ_ z=>by cases z) (.obj (S1:=λ_=>False) hC (us:=[]) hx rfl rfl (λ_ z=>z.elim) .nil) (λj a ha=>ha.elim) (λ_ _=>rfl);rw [ac_3 hs] at E1;refine⟨⟨Hq,λ_=>x⟩,G,G,_,_,E1, ?_⟩;unfold Go at q;have e2:(Sl.no::(ds.map Sl.sh ++ List.replicate (N.length - (ds.length + 1)) .no)).set 0 (.lt (.obj cn [] []))=n_2 N.length cn ds:=rfl;rw [e2];cases e:g (n_2 N.length cn ds) with
 |nx Δ=>
  rw [e] at q;intro σ G' H' O E' _;simp only at q
  split at q
  ·rename_i p ep
   split at ep
   ·rename_i c2 ns ts e3
    split at ep
    ·rename_i hcc;subst hcc
     split at ep
     ·rename_i rs eu;cases ep;obtain⟨v,s1,t3⟩:=E'.ow _ _ _ e3 rfl;have s2:=E'.lt _ _ e3;rw [s1] at s2;cases s2;cases t3 with
      |obj hc h hl' ha sub rl=>
       rw [cd_2 eu] at rl;have:=hC.same hc;subst this;exact q G' H' _ _ E'.st (E'.out _ _ ha).1 h hl' rl.off
     ·cases ep
    ·cases ep
   ·cases ep
  ·rename_i x2 ep
   split at ep
   ·split at ep
    ·split at ep <;> cases ep
    ·cases ep
   ·cases ep
  ·rename_i ep;exact q.elim
 |ex x Δ=>rw [e] at q;exact λ σ G' H' O E' _=>(EXof K E).mono _ _ _ _ _ E'.st q
 |rt w=>rw [e] at q;exact q.elim
 |bk Δ=>rw [e] at q;exact q.elim
 |ct Δ=>rw [e] at q;exact q.elim
 |no=>rw [e] at q;exact q.elim
theorem cd_3{f:Str}{y:V}:∀{ns:List Str} {us:List V},ns.length=us.length->ns.contains f=false->Cz f y (ns.zip us)=(ns ++ [f]).zip (us ++ [y])
 | [],[],_,_=>rfl
 | [],_::_,e,_=>by simp at e
 |_::_,[],e,_=>by simp at e
 |n::ns,u::us,e,h=>by
  rw [List.contains_cons,Bool.or_eq_false_iff] at h;have hn:¬n=f:=λz=>by rw [z] at h;simp at h
  show Cz f y ((n,u)::ns.zip us)=(n,u)::(ns ++ [f]).zip (us ++ [y]);unfold Cz;rw [if_neg hn,cd_3 (by simpa using e) h.2]
def Cp(i:Nat)(cs:List Str)(f:Str)(js:List Nat)(fe:FE):FS:=λ Δ=>match(gsome js Δ)[i]? with
 |some (.lt (.obj c ns ts))=>if cs.contains c=true/\ns.contains f=false/\ns.length < 1000 then(match fe (Bb (gsome js Δ)) with
  | .ok w=> .nx ((gsome js Δ).set i (.lt (.obj c (ns ++ [f]) (ts ++ [.sh w.d]))))
  | .ex x=> .ex x (gsome js Δ)
  | .no=> .no) else .no
 |_=> .no
section
variable{X:Cx}{EX:Bq}{pos:Pos}
def Eo{i:Nat}{cs:List Str}{f x:Str}(js:List Nat){e:Expr}{fe:FE}{p1 p2:Pos}(k:OFld X.K cs f)(he:ED X EX e fe)(hN:X.N[i]? =some x:=by rfl)(hv:Hk X.env.scope x:=by first|exact Or.inl rfl|exact Or.inr (Or.inl rfl)|exact Or.inr (Or.inr rfl))(hd:(x ==("__debug__" :Str))=false:=by decide)
  (hcd:(x ==("__classdict__" :Str))=false:=by decide) (hs:swapsWith e (some (.Attribute (.Name x p1) f p2)) pos.line X.env=pure false:=by rfl):SD X EX (.Assign [.Attribute (.Name x p1) f p2] e pos) (Cp i cs f js fe):=
 PS.imp (ec_3 (Fu hN hv hd hcd) he hs) λD σ H ⟨H0,G0,G,Δ,O,E,q⟩=>by
  obtain⟨G1,O1,sg,E1⟩:=E.gsome js;unfold Cp at q;generalize gsome js Δ=Δ1 at q E1
  split at q
  ·rename_i c ns ts e1
   split at q
   ·rename_i hc;obtain⟨hc1,hc2,hc3⟩:=hc;refine⟨G1,Bb Δ1,E1.st.gh,E1.gsh, ?_⟩;cases e2:fe (Bb Δ1) with
    |ex y=>simp only [e2] at q;exact q σ G1 H O1 E1 sg
    |no=>simp only [e2] at q;exact q.elim
    |ok w=>
     simp only [e2] at q;refine WP.intro λv G2 H2 st r=> ?_;have E2:=E1.grow st;obtain⟨v0,s1,t⟩:=E2.ow i _ _ e1 rfl;have s2:=E2.lt i _ e1;generalize et:(Tn.obj c ns ts)=t0 at t;cases t with
     | @obj a C dx c2 ns2 us ts2 S S1 hC h hl ha sub rl=>
      injection et with et1 et2 et3
      subst et1 et2 et3;obtain⟨kc,kn⟩:=k _ hc1 _ hC;refine⟨_,s1,_,_,_,_,rfl,h,kc,kn,by rw [List.length_zip,<-hl,Nat.min_self];exact hc3, ?_⟩;rw [cd_3 hl hc2];have ms:=MStep.write (S:=O1 i) E2.st.gh ha (E2.out i _ ha).1 (.ins C dx ((ns ++ [f]).zip (us ++ [v])));refine q σ G2 _ _ (E2.step2 (S:=O1 i) (z:=.lt _) rfl (λ_ z=>by cases z) (λ_ _=>by rw [s1] at s2⊢;exact s2) ms.weak s1 (λb hb=>⟨.inl hb,(E2.out i b hb).1,ms.al b (E2.out i b hb).2.2⟩) ?_) (sg.trans st.gg);refine .obj hC Cw (by rw [List.length_append,List.length_append,hl];rfl) ha sub ?_;refine OwL.append (S2:=λ_=>False) (rl.mono (Same.refl _) (λb o hb z=> ?_) λ_ z=>z) (.cons (S1:=λ_=>False) (S2:=λ_=>False) (.sh r) .nil (λ_ z _=>z) (λ_ z=>z.elim) λ_ z=>z.elim) (λ_ _ z=>z) (λ_ z=>z) λ_ z=>z.elim;rw [Bm (sub b hb).2];exact z
     |_=>cases et
   ·exact q.elim
  ·exact q.elim
end
section
variable{X:Cx}{EX:Bq}{e:Expr}{es:List Expr}{x:Str}{pp pos:Pos}{cc:Bool}{k k' n:Nat}{ps:List Str}{C f:Addr}{fd:FuncData}
def cz_4{zc:List (Addr×Obj)}{σ:Sg}{s:Shared}{Q:VK}{sp:Sp}(M:Mk X.K C f)(F:FnX X.prog X.w X.K X.mg X.base cc k f fd ps sp)(hr:RoomC cc (k + 1) X.A)(hb:Binds X.K fd ps [])(lk:Lk X EX)(I:Inv X zc σ H s)(r:Vals vs us)
  (h:∀x dx,H x=none->H dx=none->dx≠x->sp (.ref x::vs) (upd (upd H dx (.own x)) x (.ins C dx [])) (λv H2=>v=.non/\Q (.ref x) H2) (EXE X.K (EX σ))):wpAny (model X.prog X.w) X.A (call (.ref C) us) (EP X zc σ Q) X.xe s:=by
 have hq:=h (s.heap.objs.size + 1) s.heap.objs.size (I.hok.fresh (Nat.le_succ _)) (I.hok.fresh (Nat.le_refl _)) (Nat.ne_of_lt (Nat.lt_succ_self _));have I2:=Inv.made (C:=C) I;have r2:Vals (V.ref (s.heap.objs.size + 1)::vs) (Value.ref (s.heap.objs.size + 1)::us):=.cons rfl r;have hl:(Value.ref (s.heap.objs.size + 1)::us).length=ps.length:=by
  rw [<-r2.length];exact F.len _ _ _ _ hq
 have hb':=hb _ (Value.ref (s.heap.objs.size + 1)::us) I2.kIn (by rw [List.append_nil];exact hl);rw [List.append_nil] at hb';refine wpAny_call (dd_7 (f:=f) I.kIn M.makes M.init (beq_iff_eq.mp M.fn) (codeAny_mono (F.run _ X.stack _ _ ⟨Value.ref (s.heap.objs.size + 1)::us,[]⟩ (Value.ref (s.heap.objs.size + 1)::us) _ _ _ (hr.make C us []) (I2.env0.make C us []) hb' r2 hq) λr s' hq'=> ?_));cases r with
 |error e=>exact lk zc σ _ _ e s' I2 hq'
 |ok fl=>
  cases fl with
  |ret u=>
   obtain⟨v,H',I3,rv,ev,q3⟩:=I2.after hq';subst ev;exact⟨rv,⟨V.ref (s.heap.objs.size + 1),H',I3,rfl,q3⟩⟩
  |next=>exact False.elim hq'
  |brk=>exact False.elim hq'
  |cont=>exact False.elim hq'
def Fj(P:Program)(w:World)(K:Frag)(mg:Str->Option Value)(base:Heap)(cc:Bool)(c:Str)(k n:Nat)(F:List D->R (List Str×List D)):Prop:=
 ∃C f fd ps,ClsAt K c C/\mg c=some (.ref C)/\Mk K C f/\FnX P w K mg base cc k f fd ps (spI K C n F)/\Binds K fd ps []
def Fb(c:Str)(n:Nat)(F:List D->R (List Str×List D))(fa:FA):FE:=λ δ=>(fa δ).bind λds=>if ds.length=n then(F ds).bind λp=> .ok (.sh (.obj c p.1 p.2)) else .no
def r_3{F:List D->R (List Str×List D)}{fa:FA}(hr:RoomC cc k' X.A)(lk:Lk X EX)(h:Fj X.prog X.w X.K X.mg X.base cc x k n F)(ha:AD X EX (e::es) fa)(hk:k + 1<=k':=by decide)(hg:Gl X x:=by rfl)(hdb:(x ==("__debug__" :Str))=false:=by decide)
  (he:starEach (e::es) X.env=(false,eval e X.env)::starEach es X.env:=by rfl) (hpl:(backTo pos (starEach es X.env)).any (·.1)=false:=by rfl):ED X EX (.Call (.Name x pp) (e::es) [] pos) (Fb x n F fa):=by
 obtain⟨C,f,fd,ps,hC,hm,M,ok,hb⟩:=h;intro zc s σ H Q I q;obtain⟨G,δ,g0,s0,o⟩:=q;refine wpAny_Call_Name_kw (x_4 I hg hm ?_ hdb);have ta:tDa X.K EX fa σ H λvs H1=>∃G1 ds,Same G1 H1/\HasL X.K G1 vs ds/\ds.length=n/\Out X.K (EX σ) G1 H1 ((F ds).bind λp=> .ok (.sh (.obj x p.1 p.2))) Q:=by
  refine tDa.seq g0 s0 o λds vs G' H' _ st r o'=> ?_
  split at o'
  ·rename_i hl;exact⟨G',ds,st.gh,r,hl,o'⟩
  ·exact o'.elim
 refine callWith_K (h₀:=X.base) I.ok.mod.kin M.kp (Bh (ha pos zc s σ H _ I ta) λus s1 ⟨vs,H1,I1,r,G1,ds,sg,rl,hl,o'⟩=>⟨I1.kIn, ?_⟩) he hpl;refine cz_4 M ok (hr.mono hk) hb lk I1 r λy dy ny ndy ne=> ?_;refine⟨y,dy,vs,H1,G1,ds,rfl,by rw [rl.length];exact hl,ny,(λb o e=>by rw [Bm (Hg e ny),Bm (Hg e ndy)];exact e),Cw,sg,rl, ?_⟩;cases ef:F ds with
 |ok p=>
  rw [ef] at o';intro G' H' us' dx' st gy hy zj rr;refine⟨rfl, ?_⟩;have st2:Step G1 H1 (upd G' y (.ins C dx' (p.1.zip us'))) H':=⟨st.hh,λb u z=>by
   by_cases w:b=y
   ·subst w;rw [Cw] at z;rw [hy];exact z
   ·rw [Bm w] at z;exact st.gh b u z,st.gg.trans (n_5 gy _),λb z1 z2=>by
   have w:b≠y:=λw=>z2 (by rw [w];exact ny);rw [Bm w];exact st.nw b z1 z2⟩
  exact o' _ _ _ st2 (.obj hC Cw zj (rr.mono (n_5 gy _)))
 |ex z=>rw [ef] at o';exact EXof.in o'
 |no=>rw [ef] at o';exact o'
end
section
variable{K:Frag}{G:Hp}{a:Addr}{vs:List V}{ds:List D}
end
section
variable{X:Cx}{EX:Bq}{pos:Pos}
end
end L3
namespace L3
open PySem L2 Builtin Builtin.Str
variable{K:Frag}{fd:FuncData}{mg:Str->Option Value}{P:Program}{vs:List V}{us:List Value}{base:Heap}{H:Hp}{X:Cx}{pos:Pos}{v:V}
def bu_7{x y:Str}(h:x.cps.toList=y.cps.toList):x=y:=by
 obtain⟨a⟩:=x;obtain⟨b⟩:=y;simp only at h;have:a=b:=by
  have:=congrArg List.toArray h;simpa using this
 rw [this]
def x_9(x:Str):x.length=x.cps.toList.length:=by simp [Str.length]
def dt_9(x y:Str):(x ++ y).cps.toList=x.cps.toList ++ y.cps.toList:=by
 show(Str.append x y).cps.toList=_;simp [Str.append]
def di_5(n:Nat)(d:Int):Option Int->Int
 |none=>d
 |some i=>max 0 (min (if i < 0 then i + (n:Int) else i) (n:Int))
def cd_4(n d:Nat)(o:Option Int):di_5 n (d:Int) o=((HT.sIx n d o:Nat):Int):=by
 cases o with
 |none=>rfl
 |some v=>
  show max 0 (min (if v < 0 then v + (n:Int) else v) (n:Int))=(((if v < 0 then(v + (n:Int)).toNat else min v.toNat n):Nat):Int)
  by_cases hv:v < 0
  ·simp only [if_pos hv];omega
  ·simp only [if_neg hv];omega
def cm_7(lo hi:Option Int)(n:Nat):strSliceIndices lo hi 1 n=(List.range (HT.sIx n n hi - HT.sIx n 0 lo)).map (HT.sIx n 0 lo + ·):=by
 have e:strSliceIndices lo hi 1 n=sliceRange (di_5 n ((0:Nat):Int) lo) (di_5 n (n:Int) hi) 1:=by
  unfold strSliceIndices;simp only [show((1:Int) > 0)=True from by simp,if_true];cases lo <;> cases hi <;> rfl
 rw [e,cd_4,cd_4,sliceRange_one]
def bg_1(x:Str)(lo hi:Option Int):(Txt.slice x lo hi).cps.toList=cutL x.cps.toList lo hi:=by
 unfold Txt.slice cutL;rw [cm_7];have hl:x.cps.toList.length=x.length:=(x_9 x).symm;rw [hl];have p:=pick_run x.cps (HT.sIx x.length 0 lo) (HT.sIx x.length x.length hi - HT.sIx x.length 0 lo)
 split
 ·rename_i h;have h':((List.range (HT.sIx x.length x.length hi - HT.sIx x.length 0 lo)).map (HT.sIx x.length 0 lo + ·)).length=x.length:=by
   simpa using h
  rw [List.length_map,List.length_range] at h';have h3:=HT.sIx_le x.length x.length (Nat.le_refl _) hi;have h4:=HT.sIx_le x.length 0 (Nat.zero_le _) lo;have e0:HT.sIx x.length 0 lo=0:=by omega
  rw [h',e0,List.drop_zero,List.take_of_length_le (by omega)]
 ·rw [p]
def cz_5(x:Str)(c:Nat):Txt.count x ⟨#[c]⟩=((x.cps.toList.count c:Nat):Int):=by
 unfold Txt.count;rw [StrLaws.occ_eq];have one:∀i,i < x.length->(subAt x ⟨#[c]⟩ i=true↔x.cps.toList[i]? =some c):=by
  intro i hi;unfold subAt;have hi':i < x.cps.size:=hi;have e:x.cps.extract i (i + Str.length ⟨#[c]⟩)= #[x.cps[i]]:=by
   apply Array.ext
   ·simp [Str.length];omega
   ·intro j h1 h2;simp [Str.length] at h1 h2⊢;have:j=0:=by omega
    subst this;rfl
  rw [e];simp [hi']
 have all:∀(m k:Nat) (st:Array Nat×Nat),k + m=x.length + 1->st.2<=k->st.1.size<=k->
   (forIn (List.range' k m) st (StrLaws.occBody x ⟨#[c]⟩ x.length (x.length + 1))).run.fst.size=st.1.size + (x.cps.toList.drop k).count c:=by
  intro m
  induction m with
  |zero=>
   intro k st e h1 h2;have:x.cps.toList.drop k= []:=List.drop_eq_nil_of_le (by rw [<-x_9];omega);rw [this];simp
  |succ m ih=>
   intro k st e h1 h2;rw [List.range'_succ,List.forIn_cons];unfold StrLaws.occBody
   by_cases hk:k < x.length
   ·obtain⟨d,d1,d2⟩:=ac_4 (l:=x.cps.toList) (i:=k) (by rw [<-x_9];exact hk);rw [d2,List.count_cons]
    by_cases hc:d=c
    ·subst hc;have hs:subAt x ⟨#[d]⟩ k=true:=(one k hk).mpr d1;rw [if_pos ⟨⟨⟨by omega,h1⟩,by show k + 1<=x.length;omega⟩,hs⟩];refine(ih (k + 1) (st.1.push k,k + 1) (by omega) (Nat.le_refl _) (by simp;omega)).trans ?_;simp;omega
    ·have hs:¬subAt x ⟨#[c]⟩ k=true:=λz=>by
      have:=(one k hk).mp z;rw [d1] at this;exact hc (Option.some.inj this)
     rw [if_neg λz=>hs z.2];refine(ih (k + 1) (st.1,st.2) (by omega) (by show st.2<=k + 1;omega) (by show st.1.size<=k + 1;omega)).trans ?_;simp [hc]
   ·rw [if_neg λz=>by have:=z.1.2;have e2:(Str.length ⟨#[c]⟩:Nat)=1:=rfl;omega];refine(ih (k + 1) (st.1,st.2) (by omega) (by show st.2<=k + 1;omega) (by show st.1.size<=k + 1;omega)).trans ?_;rw [List.drop_eq_nil_of_le (by rw [<-x_9];omega),List.drop_eq_nil_of_le (by rw [<-x_9];omega)]
 have:=all (x.length + 1) 0 (#[],0) (by omega) (Nat.le_refl _) (Nat.le_refl _);rw [Array.length_toList];refine congrArg (λn:Nat=>(n:Int)) ?_;simpa using this
end L3
namespace L3
open PySem L2
variable{K:Frag}{fd:FuncData}{mg:Str->Option Value}{P:Program}{vs:List V}{us:List Value}{base:Heap}{H:Hp}{X:Cx}{pos:Pos}{v:V}
def Fq(i j:Int):Ck (.int i) (.int j)=.ok (.sh (.bl (decide (i=j)))):=by
 have h:Hc (.int i) (.int j)=decide (i=j):=by
  show(i ==j)=decide (i=j);rw [Bool.beq_eq_decide_eq]
 show(if eqC (.int i) (.int j)=true then R.ok (W.sh (D.bl (Hc (.int i) (.int j)))) else .no)=_;rw [if_pos (by rfl),h]
def du_0(i j:Int):Dg (.int i) (.int j)=.ok (.sh (.bl (!decide (i=j)))):=by
 have h:Hc (.int i) (.int j)=decide (i=j):=by
  show(i ==j)=decide (i=j);rw [Bool.beq_eq_decide_eq]
 show(if eqC (.int i) (.int j)=true then R.ok (W.sh (D.bl (!Hc (.int i) (.int j)))) else .no)=_;rw [if_pos (by rfl),h]
def du_1(x y:Str):Ck (.str x) (.str y)=.ok (.sh (.bl (decide (x=y)))):=rfl
def du_2(x y:Str):Dg (.str x) (.str y)=.ok (.sh (.bl (!decide (x=y)))):=rfl
def Es{i j:Int}(h1: -18446744073709551616 < i)(h2:i < 18446744073709551616):Fo i j=true:=decide_eq_true (.inl (by omega))
def aw_1{i j:Int}(h1: -18446744073709551616 < j)(h2:j < 18446744073709551616):Fo i j=true:=decide_eq_true (.inr (by omega))
def Do{i j:Int}(h:Fo i j=true):Ca (.int i) (.int j)=.ok (.sh (.int (i * j))):=by unfold Ca intD;simp only [h,if_true]
def Fv(i j:Int):By (.int i) (.int j)=.ok (.sh (.int (i + j))):=rfl
def bg_2(i j:Int):subD (.int i) (.int j)=.ok (.sh (.int (i - j))):=rfl
def s_2{i j:Int}(h1:0 < j)(h2:j < 1361129467683753853853498429727072845824):Gm (.int i) (.int j)=.ok (.sh (.int (i / j))):=by
 exact if_pos (show divC i j=true from decide_eq_true ⟨h1,by omega⟩)
def Fp{i j:Int}(h1:0 < j):Ed (.int i) (.int j)=.ok (.sh (.int (i % j))):=by
 exact if_pos (show modC i j=true from decide_eq_true h1)
def Ge(i j:Int):ltD (.int i) (.int j)=.ok (.sh (.bl (decide (i < j)))):=rfl
def cs_4(i j:Int):leD (.int i) (.int j)=.ok (.sh (.bl (decide (i<=j)))):=rfl
def di_6(i j:Int):gtD (.int i) (.int j)=.ok (.sh (.bl (decide (j < i)))):=rfl
def em_6(i j:Int):geD (.int i) (.int j)=.ok (.sh (.bl (decide (j<=i)))):=rfl
def di_7{x y:Str}(h:x.length + y.length<=16777216):By (.str x) (.str y)=.ok (.sh (.str (x ++ y))):=if_pos h
def ef_2{i j:Int}(h:powC i j=true):powD (.int i) (.int j)=.ok (.sh (.int (i ^ j.toNat))):=by unfold powD intD;simp only [h,if_true]
def di_8{i j:Int}(h1:0<=j)(h2:j<=1000000)(h3: -18446744073709551616 < i)(h4:i < 18446744073709551616):powC i j=true:=decide_eq_true ⟨h1,by omega,by omega⟩
def Hl(ds:List D):Bs [.lst ds]=.ok (.sh (.int ds.length)):=rfl
def ac_5{x:Str}(h:x.length<=16777216):Bs [.str x]=.ok (.sh (.int x.length)):=if_pos h
def ef_3(i j:Int):maxD [.int i,.int j]=.ok (.sh (.int (max i j))):=by
 show R.ok (W.sh (D.int (if j > i then j else i)))=_;rw [show(if j > i then j else i)=max i j by rw [Int.max_def];split <;> split <;> omega]
def ef_4(i j:Int):minD [.int i,.int j]=.ok (.sh (.int (min i j))):=by
 show R.ok (W.sh (D.int (if j < i then j else i)))=_;rw [show(if j < i then j else i)=min i j by rw [Int.min_def];split <;> split <;> omega]
def aw_2{ds:List D}{i:Int}{d:D}(h:atI ds i=some d):Bn (.lst ds) (.int i)=.ok (.sh d):=by unfold Bn;simp only [h]
def bd_0{ds:List D}{i:Int}{d:D}(h:atI ds i=some d):Bn (.tup ds) (.int i)=.ok (.sh d):=by unfold Bn;simp only [h]
def du_3{x:Str}{i:Int}{c:Nat}(hz:x.length<=16777216)(h:atI x.cps.toList i=some c):Bn (.str x) (.int i)=.ok (.sh (.str ⟨#[c]⟩)):=by
 unfold Bn;simp only [h,if_pos hz]
def ef_5{α:Type}{xs:List α}{i:Int}{x:α}(h0:0<=i)(h:xs[i.toNat]? =some x):atI xs i=some x:=by
 have hl:i.toNat < xs.length:=(List.getElem?_eq_some_iff.mp h).1;unfold atI ixN;rw [if_pos h0,if_pos (by omega)];exact h
def y_2(fg:FG)(g:FS)(I:Nat->SE->Prop){n:Nat}{lo:Int}{Δ:SE}(h0:I 0 Δ)
  (step:∀k Δ,k < n->I k Δ->∃Δ1,fg (.int (lo + (k:Int))) Δ=.ok Δ1/\∃Δ2,(g Δ1=.nx Δ2\/g Δ1=.ct Δ2)/\I (k + 1) Δ2):∃Δ',Fc fg g (Cc lo n) Δ=.nx Δ'/\I n Δ':=by
 have all:∀(m k:Nat) (Δ:SE),k + m=n->I k Δ->∃Δ',Fc fg g ((List.range' k m).map λ(j:Nat)=>D.int (lo + (j:Int))) Δ=.nx Δ'/\I n Δ':=by
  intro m
  induction m with
  |zero=>intro k Δ e h;exact⟨Δ,rfl,by rw [<-e];exact h⟩
  |succ m ih=>
   intro k Δ e h;obtain⟨Δ1,e1,Δ2,e2,h2⟩:=step k Δ (by omega) h;obtain⟨Δ',e3,h3⟩:=ih (k + 1) Δ2 (by omega) h2;refine⟨Δ', ?_,h3⟩;rw [List.range'_succ,List.map_cons];show(match fg (.int (lo + (k:Int))) Δ with
    | .ok Δ1=>(match g Δ1 with
     | .nx Δ2=>Fc fg g _ Δ2
     | .ct Δ2=>Fc fg g _ Δ2
     | .bk Δ2=> .nx Δ2
     |r=>r)
    | .ex _=> .no
    | .no=> .no)=_
   rw [e1];rcases e2 with e2|e2
   ·simp only [e2];exact e3
   ·simp only [e2];exact e3
 obtain⟨Δ',e,h⟩:=all n 0 Δ (by omega) h0;refine⟨Δ', ?_,h⟩;unfold Cc;rw [List.range_eq_range'];exact e
def h_3(fg:FG)(g:FS)(I:Nat->SE->Prop){ds:List D}{Δ:SE}(h0:I 0 Δ)
  (step:∀k d Δ,ds[k]? =some d->I k Δ->∃Δ1,fg d Δ=.ok Δ1/\∃Δ2,(g Δ1=.nx Δ2\/g Δ1=.ct Δ2)/\I (k + 1) Δ2):∃Δ',Fc fg g ds Δ=.nx Δ'/\I ds.length Δ':=by
 have all:∀(m k:Nat) (Δ:SE),k + m=ds.length->I k Δ->∃Δ',Fc fg g (ds.drop k) Δ=.nx Δ'/\I ds.length Δ':=by
  intro m
  induction m with
  |zero=>
   intro k Δ e h;rw [List.drop_eq_nil_of_le (by omega)];exact⟨Δ,rfl,by rw [<-e];exact h⟩
  |succ m ih=>
   intro k Δ e h;obtain⟨d,d1,d2⟩:=ac_4 (l:=ds) (i:=k) (by omega);obtain⟨Δ1,e1,Δ2,e2,h2⟩:=step k d Δ d1 h;obtain⟨Δ',e3,h3⟩:=ih (k + 1) Δ2 (by omega) h2;refine⟨Δ', ?_,h3⟩;rw [d2];show(match fg d Δ with
    | .ok Δ1=>(match g Δ1 with
     | .nx Δ2=>Fc fg g (ds.drop (k + 1)) Δ2
     | .ct Δ2=>Fc fg g (ds.drop (k + 1)) Δ2
     | .bk Δ2=> .nx Δ2
     |r=>r)
    | .ex _=> .no
    | .no=> .no)=_
   rw [e1];rcases e2 with e2|e2
   ·simp only [e2];exact e3
   ·simp only [e2];exact e3
 have:=all ds.length 0 Δ (by omega) h0
 rwa [List.drop_zero] at this
def cz_6{fg:FGc}{p:FT}{f:FE}{δ:DE}{F:Int->D}:∀(n:Nat) (lo:Int),(∀k:Nat,k < n->∃δ1 w,fg (.int (lo + (k:Int))) δ=.ok δ1/\p δ1=.ok true/\f δ1=.ok w/\w.d=F (lo + (k:Int)))->
  Fh fg p f δ (Cc lo n)=.ok ((List.range n).map λ(k:Nat)=>F (lo + (k:Int))):=by
 have all:∀(es:List Nat) (lo:Int),(∀k∈es,∃δ1 w,fg (.int (lo + ((k:Nat):Int))) δ=.ok δ1/\p δ1=.ok true/\f δ1=.ok w/\w.d=F (lo + (k:Int)))->
   Fh fg p f δ (es.map λ(k:Nat)=>D.int (lo + (k:Int)))=.ok (es.map λ(k:Nat)=>F (lo + (k:Int))):=by
  intro es lo
  induction es with
  |nil=>intro _;rfl
  |cons k es ih=>
   intro h;obtain⟨δ1,w,e1,e2,e3,e4⟩:=h k List.mem_cons_self;have e5:=ih λj hj=>h j (List.mem_cons_of_mem _ hj);rw [List.map_cons,List.map_cons];show((fg (.int (lo + (k:Int))) δ).bind λ δ1=>(p δ1).bind λb=>if b=true then(f δ1).bind λw=>(Fh fg p f δ _).bind λrs=> .ok (w.d::rs) else Fh fg p f δ _)=_;rw [e1];simp only [R.bind_ok,e2,if_true,e3];rw [e5];simp only [R.bind_ok,e4]
 intro n lo h;exact all (List.range n) lo λk hk=>h k (List.mem_range.mp hk)
def m_0{j:Int}(h1: -4611686018427387903<=j)(h2:j < 4611686018427387904):Co [.int j]=.ok (Cc 0 j.toNat):=by
 have h:j.natAbs < 4611686018427387904:=by omega
 exact if_pos h
def k_2{m:Nat}{fi:FI}{fg:FGc}{p:FT}{f:FE}{δ:DE}{ds rs:List D}(h:fi δ=.ok ds)(hl:ds.length<=16777216)(hc:Fh fg p f (δ ++ List.replicate m none) ds=.ok rs):Bx m fi fg p f δ=.ok (.ow (.lst rs)):=by
 unfold Bx;rw [h];simp only [R.bind_ok];rw [if_pos hl,hc];rfl
def cd_5{js:List Nat}{p:FT}{g:FS}{n:Nat}{Δ Δ':SE}(h1:p (Ar Δ)=.ok true)(h2:g Δ=.nx Δ'):Gy js p g (n + 1) Δ=Gy js p g n Δ':=by
 show(match p (Ar Δ) with
  | .ok b=>if b=true then(match g Δ with
    | .nx Δ'=>Gy js p g n Δ'
    | .ct Δ'=>Gy js p g n Δ'
    | .bk Δ'=> .nx Δ'
    |r=>r) else .nx Δ
  | .ex _=>exT js p Δ
  | .no=> .no)=_
 rw [h1];simp only [if_true,h2]
def aw_3{js:List Nat}{p:FT}{g:FS}{n:Nat}{Δ:SE}(h1:p (Ar Δ)=.ok false):Gy js p g (n + 1) Δ=.nx Δ:=by
 show(match p (Ar Δ) with
  | .ok b=>if b=true then(match g Δ with
    | .nx Δ'=>Gy js p g n Δ'
    | .ct Δ'=>Gy js p g n Δ'
    | .bk Δ'=> .nx Δ'
    |r=>r) else .nx Δ
  | .ex _=>exT js p Δ
  | .no=> .no)=_
 rw [h1];simp only [Bool.false_eq_true,if_false]
def di_9(d:D):Sl.pub (.sh d)=some d:=rfl
def dj_0(d:D):Sl.pub (.ow d)=none:=rfl
def dj_1:Sl.pub .no=none:=rfl
def cm_8(d:D):Sl.any (.sh d)=some d:=rfl
def ef_6(d:D):Sl.any (.ow d)=some d:=rfl
def ef_7:Sl.any .no=none:=rfl
def du_4(d:D):Sl.give (.sh d)=.sh d:=rfl
def du_5(d:D):Sl.give (.ow d)=.sh d:=rfl
def du_6:Sl.give .no=.no:=rfl
def Bl{g h:FS}{Δ Δ':SE}(e:g Δ=.nx Δ'):Af g h Δ=h Δ':=by unfold Af;rw [e]
def r_4{n:Nat}{g:FS}{ds:List D}{w:W}(e:g (Ay n ds)=.rt w):Ak n g ds=.ok w:=by unfold Ak;rw [e]
theorem ac_6{fg:FGc}{p:FT}{f:FE}{δ:DE}(P:D->Bool)(F:D->D):∀(ds:List D),(∀d∈ds,∃δ1,fg d δ=.ok δ1/\p δ1=.ok (P d)/\(P d=true->∃w,f δ1=.ok w/\w.d=F d))->
  Fh fg p f δ ds=.ok ((ds.filter P).map F)
 | [],_=>rfl
 |d::ds,h=>by
  obtain⟨δ1,e1,e2,e3⟩:=h d List.mem_cons_self;have ih:=ac_6 P F ds λx hx=>h x (List.mem_cons_of_mem _ hx);show((fg d δ).bind λ δ1=>(p δ1).bind λb=>if b=true then(f δ1).bind λw=>(Fh fg p f δ ds).bind λrs=> .ok (w.d::rs) else Fh fg p f δ ds)=_;rw [e1];simp only [R.bind_ok,e2];cases hP:P d with
  |true=>
   obtain⟨w,e4,e5⟩:=e3 hP;rw [if_pos rfl,e4,ih];simp only [R.bind_ok,e5,List.filter_cons_of_pos hP,List.map_cons]
  |false=>
   rw [if_neg Bool.false_ne_true,ih,List.filter_cons_of_neg (by rw [hP];exact Bool.false_ne_true)]
def p_9{fg:FGc}{f:FE}{δ:DE}(F:D->D)(ds:List D)(h:∀d∈ds,∃δ1 w,fg d δ=.ok δ1/\f δ1=.ok w/\w.d=F d):
  Fh fg (λ_=> .ok true) f δ ds=.ok (ds.map F):=by
 have:=ac_6 (fg:=fg) (p:=λ_=> .ok true) (f:=f) (δ:=δ) (λ_=>true) F ds λd hd=>by
  obtain⟨δ1,w,e1,e2,e3⟩:=h d hd;exact⟨δ1,e1,rfl,λ_=>⟨w,e2,e3⟩⟩
 rw [this,List.filter_eq_self.mpr λ_ _=>rfl]
theorem bu_8:∀(ns:List Int),PyData.canLayAll0 (Em (ns.map .int))=true
 | []=>rfl
 |n::ns=>by
  show(PyData.canLay0 (.int n) && PyData.canLayAll0 (Em (ns.map .int)))=true;rw [bu_8 ns];rfl
theorem bp_7:∀(ns:List Int),PyData.depthAll (Em (ns.map .int))<=0
 | []=>Nat.le_refl _
 |n::ns=>by
  show max (PyData.depth (.int n)) (PyData.depthAll (Em (ns.map .int)))<=0;exact Nat.max_le.mpr ⟨Nat.le_refl _,bp_7 ns⟩
def dj_2(ns ms:List Int):eqC (.lst (ns.map .int)) (.lst (ms.map .int))=true:=by
 unfold eqC;rw [Bool.and_eq_true,Bool.and_eq_true];refine⟨⟨bu_8 ns,bu_8 ms⟩,decide_eq_true ?_⟩;show PyData.depthAll (Em (ns.map .int)) + 1<=60;have:=bp_7 ns;omega
def bp_8(x:Str)(a b:Nat)(h1:a<=b)(h2:b<=x.length):(Txt.slice x (some (a:Int)) (some (b:Int))).cps.toList=(x.cps.toList.drop a).take (b - a):=by
 rw [bg_1];unfold cutL;rw [<-x_9];have e1:HT.sIx x.length 0 (some (a:Int))=a:=by
  show(if(a:Int) < 0 then((a:Int) + (x.length:Int)).toNat else min (a:Int).toNat x.length)=a;rw [if_neg (by omega)];omega
 have e2:HT.sIx x.length x.length (some (b:Int))=b:=by
  show(if(b:Int) < 0 then((b:Int) + (x.length:Int)).toNat else min (b:Int).toNat x.length)=b;rw [if_neg (by omega)];omega
 rw [e1,e2]
def cm_9{js:List Nat}{p:FT}{g:FS}(st:Nat->SE){m fuel:Nat}(hf:m < fuel)(go:∀i,i < m->p (Ar (st i))=.ok true/\g (st i)=.nx (st (i + 1)))(stop:p (Ar (st m))=.ok false):Gy js p g fuel (st 0)=.nx (st m):=by
 have all:∀(k i fuel:Nat),i + k=m->k < fuel->Gy js p g fuel (st i)=.nx (st m):=by
  intro k
  induction k with
  |zero=>
   intro i fuel e hf;obtain⟨f,rfl⟩:∃f,fuel=f + 1:=⟨fuel - 1,by omega⟩;have:i=m:=by omega
   subst this;exact aw_3 stop
  |succ k ih=>
   intro i fuel e hf;obtain⟨f,rfl⟩:∃f,fuel=f + 1:=⟨fuel - 1,by omega⟩;obtain⟨h1,h2⟩:=go i (by omega);rw [cd_5 h1 h2];exact ih (i + 1) f (by omega) (by omega)
 exact all m 0 fuel (by omega) hf
theorem bp_9{α:Type}(f:α->Str):∀l:List α,bp_1 (l.map λa=> .str (f a))=some (l.map f)
 | []=>rfl
 |a::l=>by
  show(bp_1 (l.map λa=> .str (f a))).map (f a:: ·)=_;rw [bp_9 f l];rfl
theorem bq_0:∀(l:List Str) (zm:Array Nat),(l.foldl (λzm p=>zm ++ (Str.ofString "").cps ++ p.cps) zm).toList=zm.toList ++ (l.map λx=>x.cps.toList).flatten
 | [],zm=>by simp
 |x::l,zm=>by
  rw [List.foldl_cons,bq_0 l];have e:(Str.ofString "").cps= #[]:=rfl;simp [e]
def cd_6(l:List Str):(Txt.join (Str.ofString "") l).cps.toList=(l.map λx=>x.cps.toList).flatten:=by
 unfold Txt.join Builtin.Str.glued;cases l with
 |nil=>rfl
 |cons x l=>
  show(l.foldl (λzm p=>zm ++ (Str.ofString "").cps ++ p.cps) x.cps).toList=_;rw [bq_0];simp
def cd_7{α:Type}(f:α->Str)(l:List α)(h:((l.map f).map (·.length)).sum<=16777216):ar_9 (.str "") [.lst (l.map λa=> .str (f a))]=.ok (.sh (.str (Txt.join (Str.ofString "") (l.map f)))):=by
 unfold ar_9;simp only [bp_9];have e:Str.length (Str.ofString "")=0:=rfl;exact if_pos (by rw [e];omega)
def cd_8:Dj "int" .non=some false:=rfl
def cn_0(b:Bool):Dj "int" (.bl b)=some true:=rfl
def cd_9(i:Int):Dj "int" (.int i)=some true:=rfl
def ce_0(x:Str):Dj "int" (.str x)=some false:=rfl
def ce_1(l:List D):Dj "int" (.lst l)=some false:=rfl
def ce_2(l:List D):Dj "int" (.tup l)=some false:=rfl
def bu_9:Dj "bool" .non=some false:=rfl
def ce_3(b:Bool):Dj "bool" (.bl b)=some true:=rfl
def bv_0(i:Int):Dj "bool" (.int i)=some false:=rfl
def bv_1(x:Str):Dj "bool" (.str x)=some false:=rfl
def bv_2(l:List D):Dj "bool" (.lst l)=some false:=rfl
def bv_3(l:List D):Dj "bool" (.tup l)=some false:=rfl
def ce_4:Dj "str" .non=some false:=rfl
def cn_1(b:Bool):Dj "str" (.bl b)=some false:=rfl
def ce_5(i:Int):Dj "str" (.int i)=some false:=rfl
def ce_6(x:Str):Dj "str" (.str x)=some true:=rfl
def ce_7(l:List D):Dj "str" (.lst l)=some false:=rfl
def ce_8(l:List D):Dj "str" (.tup l)=some false:=rfl
def bv_4:Dj "list" .non=some false:=rfl
def ce_9(b:Bool):Dj "list" (.bl b)=some false:=rfl
def bv_5(i:Int):Dj "list" (.int i)=some false:=rfl
def bv_6(x:Str):Dj "list" (.str x)=some false:=rfl
def bv_7(l:List D):Dj "list" (.lst l)=some true:=rfl
def bv_8(l:List D):Dj "list" (.tup l)=some false:=rfl
def bl_0:Dj "tuple" .non=some false:=rfl
def bv_9(b:Bool):Dj "tuple" (.bl b)=some false:=rfl
def bl_1(i:Int):Dj "tuple" (.int i)=some false:=rfl
def bl_2(x:Str):Dj "tuple" (.str x)=some false:=rfl
def bl_3(l:List D):Dj "tuple" (.lst l)=some false:=rfl
def bl_4(l:List D):Dj "tuple" (.tup l)=some true:=rfl
end L3
namespace L3
open PySem PySem.Spec PyProof.Rows L2
variable{K:Frag}{fd:FuncData}{mg:Str->Option Value}{P:Program}{vs:List V}{us:List Value}{base:Heap}{H:Hp}{X:Cx}{pos:Pos}{v:V}
def bw_0:List Value->Bool
 | .ref _::r=>bw_0 r
 |l=>l == [.type "ValueError",.type "Exception",.type "BaseException",.type "object"]
theorem am_4(self:Value):∀{l:List Value},bw_0 l=true->refuseLoop self "__setattr__" l=pure ()
 | [],e=>by cases e
 | .ref c::r,e=>by rw [refuseLoop_ref];exact am_4 self e
 | .type n::r,e=>by
  have e':(Value.type n::r)= [.type "ValueError",.type "Exception",.type "BaseException",.type "object"]:=eq_of_beq e;rw [e'];exact PySem.F.store_ValueError.passes self
 | .none::r,e=>by cases(eq_of_beq (show((Value.none::r) == [.type "ValueError",.type "Exception",.type "BaseException",.type "object"])=true from e))
 | .bool b::r,e=>by cases(eq_of_beq (show((Value.bool b::r) == [.type "ValueError",.type "Exception",.type "BaseException",.type "object"])=true from e))
 | .int b t::r,e=>by cases(eq_of_beq (show((Value.int b t::r) == [.type "ValueError",.type "Exception",.type "BaseException",.type "object"])=true from e))
 | .str b t::r,e=>by cases(eq_of_beq (show((Value.str b t::r) == [.type "ValueError",.type "Exception",.type "BaseException",.type "object"])=true from e))
 | .builtin b::r,e=>by cases(eq_of_beq (show((Value.builtin b::r) == [.type "ValueError",.type "Exception",.type "BaseException",.type "object"])=true from e))
theorem bg_3:∀{l:List Value},bw_0 l=true->l.contains (.type "object")=true/\l.isEmpty=false
 | [],e=>by cases e
 | .ref c::r,e=>⟨by rw [List.contains_cons,(bg_3 (l:=r) e).1,Bool.or_true],rfl⟩
 | .type n::r,e=>by
  have e':(Value.type n::r)= [.type "ValueError",.type "Exception",.type "BaseException",.type "object"]:=eq_of_beq e;rw [e'];exact⟨by decide,rfl⟩
 | .none::r,e=>by cases(eq_of_beq (show((Value.none::r) == [.type "ValueError",.type "Exception",.type "BaseException",.type "object"])=true from e))
 | .bool b::r,e=>by cases(eq_of_beq (show((Value.bool b::r) == [.type "ValueError",.type "Exception",.type "BaseException",.type "object"])=true from e))
 | .int b t::r,e=>by cases(eq_of_beq (show((Value.int b t::r) == [.type "ValueError",.type "Exception",.type "BaseException",.type "object"])=true from e))
 | .str b t::r,e=>by cases(eq_of_beq (show((Value.str b t::r) == [.type "ValueError",.type "Exception",.type "BaseException",.type "object"])=true from e))
 | .builtin b::r,e=>by cases(eq_of_beq (show((Value.builtin b::r) == [.type "ValueError",.type "Exception",.type "BaseException",.type "object"])=true from e))
structure XCls(K:Frag)(C:Addr):Prop where
 sa:findIn K (.ref C) "__setattr__" =some (some (.builtin "object.__setattr__"))
 over:(clsIn K C).any (λcd=>bw_0 cd.mro && cd.hasDict)=true
section
variable{prog:Program}{w:World}{A:Around}{E:Value->Shared->Prop}{s:Shared}{K:Frag}{x C:Addr}{R:Result->Shared->Prop}
def du_7{ox:Obj}{od:Option Obj}{name:Str}{tk:Tok}{v:Value}(X:K.In s.heap)(I:InstAt s.heap x ox C od)(xc:XCls K C)(ha:findIn K (.ref C) name=some none)
  (h:wpAny (model prog w) A.in1 (Builtin.ObjectAttr.storeInOwnDict (.ref x) (.ref C) (.str name tk) name v false)
   (λfin s'=>match fin with| .done f=>R (.ok f) s'| .again c'=>c'.quiet=true/\codeAny (model prog w) A c' R s') (λe s'=>R (.error e) s') s):
  codeAny (model prog w) A (.call (.builtin "object.__setattr__") ⟨[.ref x,.str name tk,v],[]⟩) R s:=by
 have SF:=PySem.F.store_object;obtain⟨cd,hc,ho⟩:=any_some xc.over;rw [Bool.and_eq_true] at ho;obtain⟨hs1,hs2⟩:=bg_3 ho.1;have sub:Looks (model prog w) s.heap (isInstance (.ref x) (.type "object")) true:=I.type.andThen (looks_mroIn X (by unfold mroIn;rw [hc,Option.bind_some,if_neg (by rw [hs2];decide),hs1]));refine codeAny_call_builtin SF.slot.plain SF.entry (@check_slot (model prog w) _ _ s "object.__setattr__" "object" "__setattr__" (.ref x) [.str name tk,v] [] _ SF.kind SF.split sub (SF.args (.ref x) (.str name tk) v) ?_);have hm:Looks (model prog w) s.heap (mroOf (.ref C)) cd.mro:=(looks_clsIn X hc).andThen .now;rw [osa_eq,refuse_eq];refine wpAny_bind (wpAny_bind (I.type.here (wpAny_bind (hm.here ?_))));rw [am_4 _ ho.1];refine wpAny_pure (wpAny_bind (I.type.here (wpAny_bind ((looks_findIn X ha).here (wpAny_bind (wpAny_pure (a:=(none:Option Value)) ?_))))));exact h
def cz_7{D:Addr}{name:Str}{tk:Tok}{v:Value}{Q:PySem.Fin->Shared->Prop}(hD:s.heap.get? D=some {cls:=.type "dict",data:=.dict #[]})
  (h:∀h' tk,h'.Ns1 D (λy=>if y=name then some v else none)->Heap.SameBut D s.heap h'->Q (.done (.ret .none)) {s with heap:=h',toks:=tk}):wpAny (model prog w) A (Builtin.ObjectAttr.storeInDict D (.str name tk) name v) Q E s:=by
 have cu:s.heap.Ns D λ_=>none:=⟨_, #[],_,hD,rfl,λ_ he=>(Array.not_mem_empty _ he).elim,λ_=>rfl⟩;unfold Builtin.ObjectAttr.storeInDict Builtin.ObjectAttr.newKeyGuard
 wp_walk using wpAny_nsSet1 (Heap.Ns1.of_empty cu)
 intro h' n sb;obtain⟨o,es,ep,at1,is1,few⟩:=n.count (.cons name v .nil);have le:es.size<=sizeLine + 1:=Nat.le_trans few (by simp [sizeLine_eq]);exact wpAny_bind (wpAny_lookBehind at1 (is1▸pastItsLine_dict le) (wpAny_pure (h h' _ n sb)))
def cf_0{name:Str}{v:Value}{us:Array Value}{Q:Unit->Shared->Prop}(X:K.In s.heap)(hx:s.heap.get? x=some ⟨.ref C,none,.fields us, #[]⟩)(xc:XCls K C)(ha:findIn K (.ref C) name=some none)
  (h:∀h' tk,h'.get? x=some ⟨.ref C,some s.heap.objs.size,.fields us, #[]⟩->h'.Ns1 s.heap.objs.size (λy=>if y=name then some v else none)->(∀b o,b≠x->s.heap.get? b=some o->h'.get? b=some o)->Q () {s with heap:=h',toks:=tk}):
  wpAny (model prog w) A (setAttr (.ref x) name v) Q E s:=by
 have I:InstAt s.heap x ⟨.ref C,none,.fields us, #[]⟩ C none:=⟨hx,rfl,rfl,True.intro⟩;refine set_plain X I xc.sa (du_7 (s:={s with toks:=s.toks + 1}) X I xc ha ?_);obtain⟨cd,hc,hd'⟩:=any_some xc.over;rw [Bool.and_eq_true] at hd';refine wpAny_bind (wpAny_pure (wpAny_bind (wpAny_bind (wpAny_loadPart (s:={s with toks:=s.toks + 1}) hx (wpAny_bind (Looks.here (s:={s with toks:=s.toks + 1}) (looks_clsIn X hc) ?_))))));rw [hd'.2]
 
 have Dg:x≠s.heap.objs.size:=Nat.ne_of_lt (Heap.lt_size hx);have old:∀b o,b≠x->s.heap.get? b=some o->((s.heap.push {cls:=.type "dict",data:=.dict #[]}).update x λo=>{o with dict:=some s.heap.objs.size}).get? b=some o:=λb o hb e=>by
  rw [Heap.get?_update_ne _ _ _ _ hb];exact Heap.get?_push_of_some _ e
 have itself:=Heap.get?_update_self (λo:Obj=>{o with dict:=some s.heap.objs.size}) (Heap.get?_push_of_some {cls:=.type "dict",data:=.dict #[]} hx) rfl;have isD:((s.heap.push {cls:=.type "dict",data:=.dict #[]}).update x λo=>{o with dict:=some s.heap.objs.size}).get? s.heap.objs.size=some {cls:=.type "dict",data:=.dict #[]}:=by
  rw [Heap.get?_update_ne _ _ _ _ (Ne.symm Dg)];exact Heap.get?_push_size _ rfl
 refine wpAny_bind (wpAny_alloc' (wpAny_bind (wpAny_update' (Heap.get?_push_of_some _ hx) (wpAny_pure (cz_7 isD λh' tk n sb=>h h' tk ?_ n λb o hb e=> ?_)))))
 ·rw [sb.2 x Dg];exact itself
 ·rw [sb.2 b (Nat.ne_of_lt (Heap.lt_size e))];exact old b o hb e
end
def XE(a:Addr)(o:Obj):HO:=.ext λh=>h.get? a=some o
def XE.ok{w:World}{h:Heap}{a:Addr}{o:Obj}(e:h.get? a=some o):ObjOk P w H h a (XE a o):=⟨e,⟨o,e⟩,λ_ _ p k=>k _ p⟩
theorem XE.get{w:World}{h:Heap}{a:Addr}{o:Obj}(x:HOk P w H h)(e:H a=some (XE a o)):h.get? a=some o:=(x a _ e).1
def XO.ok{w:World}{h:Heap}{a C:Addr}{dx:Option Addr}{us:Array Value}{sl:Array (Option Value)}(e:h.get? a=some ⟨.ref C,dx,.fields us,sl⟩):ObjOk P w H h a (XO a C dx):=
 ⟨⟨us,sl,e⟩,⟨_,e⟩,λ_ _ ⟨us,sl,p⟩ k=>⟨us,sl,k _ p⟩⟩
section
variable{X:Cx}{zc:List (Addr×Obj)}{σ:Sg}{H:Hp}{s:Shared}
def Inv.excSet{a:Addr}{o0 o1:Obj}{h':Heap}{t':Nat}{fs:List (Str×V)}{mA:Str->Option Value}(I:Inv X zc σ H s)(e:H a=some (XE a o0))(hx:h'.get? a=some o1)(hn:h'.Ns1 s.heap.objs.size mA)(hr:∀f,RelO (fs.lookup f) (mA f))
  (k:∀b o,b≠a->s.heap.get? b=some o->h'.get? b=some o):Inv X zc σ (upd (upd H s.heap.objs.size (.xd fs)) a (XE a o1)) {s with heap:=h',toks:=t'}:=by
 have hf:H s.heap.objs.size=none:=I.hok.fresh (Nat.le_refl _);have other:∀b u,H b=some u->b≠a->(upd (upd H s.heap.objs.size (.xd fs)) a (XE a o1)) b=some u:=λb u q n=>by
  rw [Bm n,Bm (Hg q hf)];exact q
 refine I.un (h':=h') ⟨λb o q n _ _=>k b o (λz=>by subst z;rw [e] at n;cases n) q,λb o q n _ _=>⟨o.slots,k b o (λz=>by subst z;rw [e] at n;cases n) q⟩,λb o q n _=> ?_,λb o q _=> ?_,λb xs q=> ?_,λb o u q=> ?_,λb ps q=> ?_⟩ λb u q=> ?_
 ·rw [Bm (λz=>by subst z;rw [e] at n;cases n),Bm (Nat.ne_of_lt (Heap.lt_size q))];exact n
 ·by_cases z:b=a
  ·subst z;exact⟨_,hx⟩
  ·exact⟨_,k b o z q⟩
 ·exact other b _ q λz=>by subst z;rw [e] at q;cases q
 ·exact other b _ q λz=>by subst z;rw [e] at q;cases q
 ·exact⟨#[],by rw [other b _ q λz=>by subst z;rw [e] at q;cases q];simp⟩
 ·by_cases z:b=a
  ·subst z;rw [Cw] at q;cases q;exact XE.ok hx
  ·rw [Bm z] at q
   by_cases z2:b=s.heap.objs.size
   ·subst z2;rw [Cw] at q;cases q;exact⟨mA,hn,hr⟩
   ·rw [Bm z2] at q;refine(I.hok b u q).stay (λc v hc z3=>k c v ?_ z3) (λc z3=>other c _ z3 λz4=> ?_) λc xs z3=>other c _ z3 λz4=> ?_
    ·rcases hc with rfl|hc
     ·exact z
     ·exact λz4=>by subst z4;rw [e] at hc;cases hc
    ·subst z4;rw [e] at z3;cases z3
    ·subst z4;rw [e] at z3;cases z3
def Inv.forget{a:Addr}{φ:Heap->Prop}(I:Inv X zc σ (upd H a (.ext φ)) s)(hn:H a=none):Inv X zc σ H s:=by
 have sub:∀b u,H b=some u->upd H a (.ext φ) b=some u:=λb u e=>by rw [Bm (Hg e hn)];exact e
 have nf:∀b,upd H a (.ext φ) b=none->H b=none:=λb e=>by
  by_cases z:b=a
  ·subst z;exact hn
  ·rw [Bm z] at e;exact e
 have bk:∀b u,upd H a (.ext φ) b=some u->(∀ψ,u≠ .ext ψ)->H b=some u:=λb u e n=>by
  by_cases z:b=a
  ·subst z;rw [Cw] at e;cases e;exact absurd rfl (n φ)
  ·rw [Bm z] at e;exact e
 have B:=I.base;refine⟨I.ok,I.os,I.bare,⟨B.keep,B.slot,λb u q n x=>nf b (B.free b u q n x),B.there,λb xs q=>bk _ _ (B.tups b xs q) (λ_ z=>nomatch z),λb u v q=>bk _ _ (B.frzs b u v q) (λ_ z=>nomatch z),λb ps q=> ?_⟩,I.loc,I.cell,nf _ I.free,λx c e=>nf _ (I.freeC x c e),λp hp=> ?_,λb u e=> ?_,I.len⟩
 ·obtain⟨more,z⟩:=B.tbls b ps q;exact⟨more,bk _ _ z (λ_ z=>nomatch z)⟩
 ·obtain⟨p1,p2,p3⟩:=I.pin p hp;exact⟨p1,nf _ p2,p3⟩
 ·exact(I.hok b u (sub b u e)).stay (λ_ _ _ q=>q) (λc q=>bk _ _ q (λ_ z=>nomatch z)) (λc xs q=>bk _ _ q (λ_ z=>nomatch z))
end
def ai_7(C:Addr)(f:Str):Sp:=λvs H Q _=>∃a v us,vs= [.ref a,v]/\H a=some (XE a ⟨.ref C,none,.fields us, #[]⟩)/\∀d,H d=none->d≠a->Q .non (upd (upd H d (.xd [(f,v)])) a (XE a ⟨.ref C,some d,.fields us, #[]⟩))
section
variable{X:Cx}{C:Addr}{f:Str}{pos pos' p1 p2:Pos}{x y:Str}
def dz_0(C:Addr)(f:Str):TS:=λD σ H=>∃a v us,σ[0]? =some (some (.ref a))/\σ[1]? =some (some v)/\H a=some (XE a ⟨.ref C,none,.fields us, #[]⟩)/\∀d,H d=none->d≠a->D.nx σ (upd (upd H d (.xd [(f,v)])) a (XE a ⟨.ref C,some d,.fields us, #[]⟩))
def bd_1(xc:XCls X.K C)(hn:findIn X.K (.ref C) f=some none)(ho:PE X (.Name x p1) (tVar 0))(hv:PE X (.Name y p2) (tVar 1))(hs:swapsWith (.Name y p2) (some (.Attribute (.Name x p1) f pos')) pos.line X.env=pure false:=by rfl):
  PS X (.Assign [.Attribute (.Name x p1) f pos'] (.Name y p2) pos) (dz_0 C f):=by
 intro zc s σ H D I h;obtain⟨a,v,us,e0,e1,ha,q⟩:=h;refine plainObj_wpAny_Assign_Attribute (Bh (hv zc s σ H (λy H1=>y=v/\H1=H) I ⟨v,e1,rfl,rfl⟩) λu s1 ⟨y,H1,I1,ry,ey,eH⟩=>Bh (ho zc s1 σ H1 (λy H2=>y=.ref a/\H2=H) I1 ⟨.ref a,e0,rfl,eH⟩) λov s2 ⟨x,H2,I2,rx,ex,eH2⟩=> ?_) hs;subst ey ex eH eH2;obtain rfl:ov=Value.ref a:=rx;refine cf_0 I2.kIn (XE.get I2.hok ha) xc hn λh' tk g1 g2 g3=> ?_;refine⟨σ,_,Inv.excSet I2 (t':=tk) (fs:=[(f,y)]) ha g1 g2 (λg=> ?_) g3,q _ (I2.hok.fresh (Nat.le_refl _)) ?_⟩
 ·show RelO ([(f,y)].lookup g) (if g=f then some u else none)
  by_cases z:g=f
  ·subst z;rw [if_pos rfl];simp only [List.lookup_cons,beq_self_eq_true];exact ry
  ·rw [if_neg z];have zb:(g ==f)=false:=by simpa using z
   simp only [List.lookup_cons,zb,List.lookup_nil]
   trivial
 ·exact Nat.ne_of_gt (Heap.lt_size (XE.get I2.hok ha))
end
abbrev bmVE:List Value:=[.type "ValueError",.type "Exception",.type "BaseException",.type "object"]
def q_0(es:Array DictEntry):Bool:=es.toList.all λe=>match e.key with| .str _ _=>true|_=>false
def cn_2{es:Array DictEntry}(h:q_0 es=true):StrKeys es:=λe he=>by
 have q:=List.all_eq_true.mp h e (Array.mem_toList_iff.mpr he);revert q;cases hk:e.key with
 |str n t=>intro _;exact⟨n,t,rfl⟩
 |_=>intro q;cases q
def cs_5{N:Addr}{oc:Value}{od:Option Addr}{es:Array DictEntry}{ep:Nat}{sl:Array (Option Value)}(l:K.lookup N=some ⟨oc,od,.dict es ep,sl⟩)(k:q_0 es=true){h:Heap}(X:K.In h):h.Ns N (nsFind es):=
 ⟨_,es,ep,X _ _ l,rfl,cn_2 k,λ_=>rfl⟩
def XMk(K:Frag)(C fI:Addr):Prop:=∃(nm q:Str) (N:Addr) (bs bm:List Value) (sn:List Str) (sub:List Value) (ab:Bool) (col:Option Bool) (dd:Option Addr) (k0 k1 k2 k3 k5:Option Value) (mN:Str->Option Value),
 K.lookup C=some (excClassObj nm q C N bs bm true sn sub ab col dd k0 k1 k2 k3 k5 "ValueError.__new__")/\(∀h:Heap,K.In h->OwnTail h bmVE bm)/\(∀h:Heap,K.In h->h.Ns N mN)/\mN "__init__" =some (.ref fI)
def ef_8{C fI N L:Addr}{nm q:Str}{bs:List Value}{sn:List Str}{sub:List Value}{ab:Bool}{col:Option Bool}{dd:Option Addr}{k0 k1 k2 k3 k5:Option Value}{oc c0 oL:Value}{od ddL odL:Option Addr}{es esL:Array DictEntry}{ep epL:Nat}{sl sl0 slL:Array (Option Value)}{cd:ClassData}
  (lc:K.lookup C=some (excClassObj nm q C N bs (.ref L::bmVE) true sn sub ab col dd k0 k1 k2 k3 k5 "ValueError.__new__")) (ln:K.lookup N=some ⟨oc,od,.dict es ep,sl⟩) (kn:q_0 es=true) (hi:nsFind es "__init__" =some (.ref fI))
  (ll:K.lookup L=some ⟨c0,ddL,.cls cd,sl0⟩) (lm:K.lookup cd.ns=some ⟨oL,odL,.dict esL epL,slL⟩) (km:q_0 esL=true) (hL:nsFind esL "__init__" =none):XMk K C fI:=
 ⟨nm,q,N,bs,_,sn,sub,ab,col,dd,k0,k1,k2,k3,k5,nsFind es,lc,λh X=> .own (X _ _ ll) (cs_5 lm km X) hL .base,λh X=>cs_5 ln kn X,hi⟩
def du_8{C N L:Addr}{nm q:Str}{bs:List Value}{sn:List Str}{sub:List Value}{ab:Bool}{col:Option Bool}{dd:Option Addr}{k0 k1 k2 k3 k5:Option Value}
  (lc:K.lookup C=some (excClassObj nm q C N bs (.ref L::bmVE) true sn sub ab col dd k0 k1 k2 k3 k5 "ValueError.__new__")) (sa:findIn K (.ref C) "__setattr__" =some (some (.builtin "object.__setattr__"))):XCls K C:=
 ⟨sa,by unfold clsIn;rw [lc];rfl⟩
def bd_2{c:Bool}{w:World}{x qual sf at_ fl:Str}{st:Stmt}{f C:Addr}{k:Nat}(F:Fun K x qual st f fd)(S:FnScope [sf,at_] [sf,at_] (Cn st))
  (zh:∀(zn:Value) (A:Around) (outer:List Env) (s:Shared) (H:Hp) (E:XK),PSs (cxN c P w K mg base [sf,at_] qual (Cn st) f zn A outer s H E) (Fs st) (dz_0 C fl)):FnX P w K mg base c (k + 1) f fd [sf,at_] (ai_7 C fl):=by
 refine Fun.okX F S (λvs H Q E h=> ?_) λzn A outer s H vs Q E hr h=>⟨_,zh zn A outer s H E, ?_⟩
 ·obtain⟨a,v,us,rfl,_⟩:=h;rfl
 ·obtain⟨a,v,us,rfl,ha,q⟩:=h;exact⟨a,v,us,rfl,rfl,ha,q⟩
theorem aw_4{h:Heap}:∀{bm:List Value},OwnTail h bmVE bm->bm.contains (.type "BaseException")=true
 |_,.base=>by decide
 |_,.own _ _ _ t=>by rw [List.contains_cons,aw_4 t,Bool.or_true]
structure XC(P:Program)(w:World)(K:Frag)(mg:Str->Option Value)(base:Heap)(c:Str)(f:Str)(C:Addr):Prop where
 at_:ClsAt K c C
 glob:mg c=some (.ref C)
 kp:keepIn K (.ref C)=true
 xc:XCls K C
 made:∃(fI:Addr) (fd:FuncData) (ps:List Str) (oI:Obj),XMk K C fI/\K.lookup fI=some oI/\oI.cls=.type "function" /\FnX P w K mg base false 1 fI fd ps (ai_7 C f)/\Binds K fd ps []
section
variable{X:Cx}{zc:List (Addr×Obj)}{σ:Sg}{H:Hp}{s:Shared}{C:Addr}{c f:Str}
def dj_3{e d:Addr}{o0 o1 x:HO}:upd (upd (upd H e o0) d x) e o1=upd (upd H d x) e o1:=by
 funext b
 unfold upd
 by_cases z:b=e
 ·rw [if_pos z,if_pos z]
 ·rw [if_neg z,if_neg z,if_neg z]
def cz_8{u:Value}{Q:Value->Shared->Prop}{E:Value->Shared->Prop}(M:XC X.prog X.w X.K X.mg X.base c f C)(hr:RoomC false 2 X.A)(I:Inv X zc σ H s)(r:RelV v u)
  (h:∀a d t s',H a=none->H d=none->d≠a->s.heap.objs.size<=a->Inv X zc σ (upd (upd H d (.xd [(f,v)])) a (XE a ⟨.ref C,some d,.fields #[.ref t,.none,.none,.none,.bool false,.none], #[]⟩)) s'->Q (.ref a) s'):
  wpAny (model X.prog X.w) X.A (call (.ref C) [u]) Q E s:=by
 obtain⟨fI,fd,ps,oI,⟨nm,q,N,bs,bm,sn,sub,ab,col,dd,k0,k1,k2,k3,k5,mN,lc,tl,hn,hi⟩,lI,hI,F,hb⟩:=M.made;have KX:=I.kIn;obtain⟨hh,g,dr,tk,os⟩:=s;refine de_9 PySem.F.excBase_ValueError (tl hh KX) (KX _ _ lc) (hn hh KX) hi (KX _ _ lI) hI (λh' e me ze=> ?_) (by show 1<=sizeLine;rw [sizeLine_eq];omega);obtain⟨kk,new,t,et,_,_⟩:=me;have I2:Inv X zc σ (upd H e (XE e ⟨.ref C,none,.fields #[.ref t,.none,.none,.none,.bool false,.none], #[]⟩)) ⟨h',g,dr,tk,os⟩:=I.laid (h':=h') (t':=tk) kk ze (XE.ok et);have he:H e=none:=I.hok.fresh ze;have r2:Vals [.ref e,v] [.ref e,u]:=.cons rfl (.cons r .nil);have sp:ai_7 C f [.ref e,v] (upd H e (XE e ⟨.ref C,none,.fields #[.ref t,.none,.none,.none,.bool false,.none], #[]⟩)) (λy H2=>y=.non/\∃d,H d=none/\d≠e/\H2=upd (upd H d (.xd [(f,v)])) e (XE e ⟨.ref C,some d,.fields #[.ref t,.none,.none,.none,.bool false,.none], #[]⟩)) (λ_ _ _=>False):=
  ⟨e,v,_,rfl,Cw,λd hd ne=>⟨rfl,d,by rw [Bm ne] at hd;exact hd,ne,dj_3⟩⟩
 have hl: [Value.ref e,u].length=ps.length:=F.len _ _ _ _ sp;have hb':=hb ⟨h',g,dr,tk,os⟩ [.ref e,u] I2.kIn (by rw [List.append_nil];exact hl);rw [List.append_nil] at hb';refine wpAny_call (codeAny_mono (F.run _ X.stack _ _ ⟨[.ref e,u],[]⟩ [.ref e,u] [.ref e,v] _ _ (hr.make C [u] []) (I2.env0.make C [u] []) hb' r2 sp) λr s' hq=> ?_);cases r with
 |error x=>
  obtain⟨a,C',dx,T,H',_,_,_,_,_,_,_,_,_,_,z⟩:=hq;exact z.elim
 |ok fl=>
  cases fl with
  |ret y=>
   obtain⟨v',H',I3,rv,ev,d,hd,ne,eH⟩:=I2.after hq;subst ev eH;exact⟨rv,h e d t s' he hd ne ze I3⟩
  |next=>exact False.elim hq
  |brk=>exact False.elim hq
  |cont=>exact False.elim hq
def Lk1(X:Cx)(EX:Bq):Prop:=∀(zc:List (Addr×Obj)) (σ:Sg) (H H':Hp) (s s':Shared) (a C:Addr) (dx:Option Addr) (o:Obj) (us:Array Value),Inv X zc σ H s->Inv X zc σ H' s'->s'.heap.get? a=some o->o.cls=.ref C->o.dict=dx->o.data=.fields us->us[1]? =some .none->
 H' a=none->s.heap.objs.size<=a->EXE X.K (EX σ) (.ref C) dx H'->X.xe (.ref a) s'
def v_4{cm:Bool}{w:World}{N:List Str}{qual:Str}{scope:Scope}{f:Addr}{cd:Value}{A:Around}{outer:List Env}{s:Shared}{E:XK}:
  Lk1 (cxN cm P w K mg base N qual scope f cd A outer s H E) (λ_=>EXof K E):=λzc σ H H' s s' a C dx o us I I' he hc hx hd h1 n1 z1 q=>bt_4 I I' he hc hx hd h1 n1 z1 q.of
def y_7(c f:Str)(js:List Nat)(fe:FE):FS:=λ Δ=>match fe (Bb (gsome js Δ)) with
 | .ok w=> .ex ⟨c,[f],[w.d]⟩ (gsome js Δ)
 | .ex x=> .ex x (gsome js Δ)
 | .no=> .no
def v_9{EX:Bq}(js:List Nat){e:Expr}{fe:FE}{np zd pos:Pos}(M:XC X.prog X.w X.K X.mg X.base c f C)(hr:RoomC true 2 X.A)(l1:Lk1 X EX)(he:ED X EX e fe)(hg:Gl X c:=by rfl)(hdb:(c ==("__debug__" :Str))=false:=by decide)
  (hs:starEach [e] X.env=(false,eval e X.env)::starEach [] X.env:=by rfl) (hpl:(backTo zd (starEach [] X.env)).any (·.1)=false:=by rfl):
  SD X EX (.Raise (some (.Call (.Name c np) [e] [] zd)) none pos) (y_7 c f js fe):=by
 intro zc s σ H D I q;obtain⟨H0,G0,G,Δ,O,E,q⟩:=q;obtain⟨G',O',sg,E'⟩:=E.gsome js;obtain⟨fI,fd,ps,oI,⟨nm,qn,N,bs,bm,sn,sub,ab,col,dd,k0,k1,k2,k3,k5,mN,lc,tl,hn,hi⟩,lI,hI,F,hb⟩:=M.made;have hB:bm.contains (.type "BaseException")=true:=aw_4 (tl s.heap I.kIn);rw [arm_exec_Raise];have tD0:tD X.K EX fe σ H λv H1=>∃v' w G1,[v]= [v']/\fe (Bb (gsome js Δ))=.ok w/\Step G' H G1 H1/\Has X.K G1 v' w.d:=by
  refine⟨G',Bb (gsome js Δ),E'.st.gh,E'.gsh, ?_⟩;unfold y_7 at q;cases e1:fe (Bb (gsome js Δ)) with
  |ok w=>exact WP.intro λv G1 H1 st r=>⟨v,w,G1,rfl,rfl,st,r⟩
  |ex x=>rw [e1] at q;exact q σ G' H O' E' sg
  |no=>rw [e1] at q;exact q
 have mk:wpAny (model X.prog X.w) X.A (eval (.Call (.Name c np) [e] [] zd) X.env) (λv s1=>∃a t dx,v=.ref a/\s1.heap.get? C=some (excClassObj nm qn C N bs bm true sn sub ab col dd k0 k1 k2 k3 k5 "ValueError.__new__")/\
   s1.heap.get? a=some {cls:=.ref C,dict:=dx,data:=.fields #[.ref t,.none,.none,.none,.bool false,.none]}/\X.xe (.ref a) s1) X.xe s:=by
  refine wpAny_Call_Name_kw (x_4 I hg M.glob ?_ hdb);refine callWith_K (h₀:=X.base) I.ok.mod.kin M.kp (Bh (k_9 he y_5 hs zd zc s σ H (λvs H1=>∃v' w G1,vs= [v']/\fe (Bb (gsome js Δ))=.ok w/\Step G' H G1 H1/\Has X.K G1 v' w.d) I tD0) λus s1 ⟨vs,H1,I1,r,v,w,G1,ev,ew,st,hv⟩=>⟨I1.kIn, ?_⟩) hs hpl;subst ev;obtain⟨u,rfl,ru⟩:=r.one;refine cz_8 M hr.loose I1 ru λa d t s2 ha hd ne za I2=> ?_;have ga:=XE.get I2.hok Cw;refine⟨a,t,some d,rfl,I2.kIn _ _ lc,ga, ?_⟩;have I3:Inv X zc σ (upd H1 d (.xd [(f,v)])) s2:=Inv.forget I2 (by rw [Bm ne.symm];exact ha);refine l1 zc σ H1 _ s1 s2 a C (some d) _ _ I1 I3 ga rfl rfl rfl rfl (by rw [Bm ne.symm];exact ha) za ?_;have st2:Step G1 H1 (upd G1 d (.xd [(f,v)])) (upd H1 d (.xd [(f,v)])):=Step.new st.gh hd _;refine⟨⟨c,[f],[w.d]⟩,upd G1 d (.xd [(f,v)]),st2.gh,.with_ M.at_ Cw rfl (.cons (hv.mono st2.gg) .nil), ?_⟩;unfold y_7 at q;rw [ew] at q;exact q σ _ _ O' ((E'.grow st).grow st2) (sg.trans (st.gg.trans st2.gg))
 refine wpAny_bind (wpAny_standAt (bo_1 hB (hr.hd rfl) (wpAny_bind (wpAny_mono mk (λv s3 h3=>wpAny_bind (wpAny_standAt (wpAny_pure h3))) λ_ _ x=>x))))
end
section
variable{X:Cx}{zc:List (Addr×Obj)}{σ:Sg}{H:Hp}{s:Shared}
def al_1{M:Model}{A:Around}{E:Value->Shared->Prop}{i:Nat}{n:Str}{Q:Unit->Shared->Prop}(I:Inv X zc σ H s)(hN:X.N.Nodup)(hi:X.N[i]? =some n)(hk:X.env.scope.names.lookup n=some .local)
  (h:∀s',Inv X zc (σ.set i none) H s'->Q () s'):wpAny M A (do bindName X.env n .none;unbindBehindTheSuite X.env n pos) Q E s:=by
 obtain⟨m,hn,hl⟩:=id I.loc;have cf:(X.env.scope.kind == .class || (X.env.scope.kind == .module && X.env.locals != X.env.globals))=false:=by rw [I.ok.kind];rfl
 have hiσ:i < σ.length:=by rw [I.len];exact(List.getElem?_eq_some_iff.mp hi).1
 have cne:=I.cne;have tracked:∀{a:Addr} {h':Heap},(∃o,s.heap.get? a=some o/\H a=none)->Heap.SameBut a s.heap h'->HOk X.prog X.w H h':=λ{a h'} ha hs b ob e=>by
  obtain⟨_,_,ao⟩:=ha;refine(I.hok b ob e).stay (λc w' hc q=>(hs.2 c ?_).trans q) (λ_ q=>q) λ_ _ q=>q
  rintro rfl
  rcases hc with rfl|hc
  ·rw [ao] at e;cases e
  ·rw [ao] at hc;cases hc
 refine wpAny_nameGoes_keeps hk hn cf λh' v hn' hs=> ?_;obtain⟨oL,_,_,hoL,_⟩:=id hn;refine h _ ⟨I.ok,I.os,I.bare,⟨λb o e n hb hx=> ?_,λb o e n hb hx=> ?_,I.base.free,λb o e hx=> ?_,I.base.tups,I.base.frzs,I.base.tbls⟩,⟨_,hn',λj y v' e1 e2 e3=> ?_⟩,λy c e=> ?_,I.free,I.freeC,λp hp=> ?_,tracked ⟨oL,hoL,I.free⟩ hs,by simpa using I.len⟩
 ·exact(hs.2 b (Nat.ne_of_lt (Nat.lt_of_lt_of_le (Heap.lt_size e) I.ok.above))).trans (I.base.keep b o e n hb hx)
 ·obtain⟨sl,e1⟩:=I.base.slot b o e n hb hx;exact⟨sl,(hs.2 b (Nat.ne_of_lt (Nat.lt_of_lt_of_le (Heap.lt_size e) I.ok.above))).trans e1⟩
 ·obtain⟨o',e1⟩:=I.base.there b o e hx;exact⟨o',(hs.2 b (Nat.ne_of_lt (Nat.lt_of_lt_of_le (Heap.lt_size e) I.ok.above))).trans e1⟩
 ·by_cases hj:j=i
  ·subst hj;rw [List.getElem?_set_self hiσ] at e2;cases e2
  ·rw [List.getElem?_set_ne (Ne.symm hj)] at e2;obtain⟨u',r',q⟩:=hl j y v' e1 e2 e3;refine⟨u',r', ?_⟩;rcases q with⟨k,e⟩|⟨k,c,e,z⟩
   ·refine .inl ⟨k, ?_⟩;have:y≠n:=λe=>hj (bd_9 hN e1 (e▸hi));simp [this,e]
   ·exact .inr ⟨k,c,e,z.sameBut hs (cne y c e)⟩
 ·obtain⟨w',z⟩:=I.cell y c e;exact⟨w',z.sameBut hs (cne y c e)⟩
 ·obtain⟨e,n,ne,nf,d⟩:=I.pin p hp;exact⟨(hs.2 p.1 ne).trans e,n,ne,nf,d⟩
def Inv.speak{H':Hp}{s':Shared}{a C:Addr}{dx:Option Addr}{us:Array Value}{sl:Array (Option Value)}(I:Inv X zc σ H s)(I':Inv X zc σ H' s')(za:s.heap.objs.size<=a)(e:s'.heap.get? a=some ⟨.ref C,dx,.fields us,sl⟩)(hn:H' a=none):Inv X zc σ (upd H' a (XO a C dx)) s':=by
 have B:=I'.base;have ns:∀b o,X.s₀.heap.get? b=some o->b≠a:=λb o q z=>absurd (Nat.lt_of_lt_of_le (Heap.lt_size q) (Nat.le_trans I.sz za)) (by rw [z];exact Nat.lt_irrefl _);have lt:∀b:Addr,b < s.heap.objs.size->b≠a:=λb h z=>absurd (Nat.lt_of_lt_of_le h za) (by rw [z];exact Nat.lt_irrefl _);have up:∀b u,H' b=some u->upd H' a (XO a C dx) b=some u:=λb u q=>by rw [Bm (Hg q hn)];exact q
 refine⟨I'.ok,I'.os,I'.bare,⟨B.keep,B.slot,λb o q n x=>by rw [Bm (ns b o q)];exact B.free b o q n x,B.there,λb xs q=>up _ _ (B.tups b xs q),λb o u q=>up _ _ (B.frzs b o u q),λb ps q=>let⟨m,z⟩:=B.tbls b ps q;⟨m,up _ _ z⟩⟩,I'.loc,I'.cell, ?_,λx c q=> ?_,λp hp=> ?_,λb u q=> ?_,I'.len⟩
 ·rw [Bm (lt _ I.lt)];exact I'.free
 ·obtain⟨v,hv⟩:=I.cell x c q;rw [Bm (lt _ hv.lt)];exact I'.freeC x c q
 ·obtain⟨p1,p2,p3⟩:=I'.pin p hp;exact⟨p1,by rw [Bm (lt _ (Heap.lt_size (I.pin p hp).1))];exact p2,p3⟩
 ·by_cases z:b=a
  ·subst z;rw [Cw] at q;cases q;exact XO.ok e
  ·rw [Bm z] at q;exact(I'.hok b u q).stay (λ_ _ _ q=>q) (λc q=>up _ _ q) λc xs q=>up _ _ q
end
def tryB(X:Cx)(zc:List (Addr×Obj))(W:Value->Shared->Prop):Cx:={X with pn:=X.pn ++ zc,xe:=W}
def hand(X:Cx)(e:Value):Cx:={X with A:=X.A.mark (some e),calm:=false,xe:=λ_ _=>False}
section
variable{X:Cx}{zc aj:List (Addr×Obj)}{σ:Sg}{H:Hp}{s:Shared}{W:Value->Shared->Prop}{e:Value}
def ok_tryB:(tryB X zc W).Ok↔X.Ok:=⟨λok=>⟨ok.mod,ok.kind,ok.glob,ok.blt,ok.above,ok.inj,ok.has,ok.cab,ok.hd,ok.frames,ok.stk,ok.exf,ok.bs,ok.bsz,ok.noex,ok.exfs,ok.funs,ok.frf⟩,
 λok=>⟨ok.mod,ok.kind,ok.glob,ok.blt,ok.above,ok.inj,ok.has,ok.cab,ok.hd,ok.frames,ok.stk,ok.exf,ok.bs,ok.bsz,ok.noex,ok.exfs,ok.funs,ok.frf⟩⟩
def Inv.toB(I:Inv X zc σ H s):Inv (tryB X zc W) [] σ H s:=⟨ok_tryB.mpr I.ok,I.os,I.bare,I.base,I.loc,I.cell,I.free,I.freeC,λp hp=>I.pin p (by have hp:p∈(X.pn ++ zc) ++ []:=hp;rwa [List.append_nil] at hp),I.hok,I.len⟩
def Inv.ofB(I:Inv (tryB X zc W) aj σ H s):Inv X zc σ H s:=⟨ok_tryB.mp I.ok,I.os,I.bare,I.base,I.loc,I.cell,I.free,I.freeC,λp hp=>I.pin p (List.mem_append_left _ hp),I.hok,I.len⟩
theorem SP.ofB{D:Ends}{f:Flow}(h:SP (tryB X zc W) aj D f s):SP X zc D f s:=by
 cases f with
 |next=>obtain⟨σ',H',I,q⟩:=h;exact⟨σ',H',Inv.ofB I,q⟩
 |brk=>obtain⟨σ',H',I,q⟩:=h;exact⟨σ',H',Inv.ofB I,q⟩
 |cont=>obtain⟨σ',H',I,q⟩:=h;exact⟨σ',H',Inv.ofB I,q⟩
 |ret u=>obtain⟨v,σ',H',I,r,q⟩:=h;exact⟨v,σ',H',Inv.ofB I,r,q⟩
def Inv.toH(I:Inv X zc σ H s):Inv (hand X e) zc σ H s:=
 ⟨⟨I.ok.mod,I.ok.kind,I.ok.glob,I.ok.blt,I.ok.above,I.ok.inj,I.ok.has,I.ok.cab,λz=>absurd z Bool.false_ne_true,I.ok.frames,I.ok.stk,I.ok.exf,I.ok.bs,I.ok.bsz,I.ok.noex,I.ok.exfs,I.ok.funs,I.ok.frf⟩,I.os,I.bare,I.base,I.loc,I.cell,I.free,I.freeC,I.pin,I.hok,I.len⟩
def Inv.ofH(ok:X.Ok)(I:Inv (hand X e) zc σ H s):Inv X zc σ H s:=⟨ok,I.os,I.bare,I.base,I.loc,I.cell,I.free,I.freeC,I.pin,I.hok,I.len⟩
end
def dz_1(i:Nat):Fl->Fl
 | .nx Δ=> .nx (Δ.set i .no)
 | .bk Δ=> .bk (Δ.set i .no)
 | .ct Δ=> .ct (Δ.set i .no)
 | .rt w=> .rt w
 |_=> .no
def Catches(K:Frag)(C2:Addr)(tb:List (Str×Bool)):Prop:=∀c b,tb.lookup c=some b->∀C,ClsAt K c C->exmOne K (.ref C) (.ref C2)=some b
def Ev.drop{H0:HB}{G0 G H:Hp}{σ:Sg}{Δ:SE}{O:OS}(E:Ev K H0 G0 G H σ Δ O)(i:Nat):Ev K H0 G0 G H (σ.set i none) (Δ.set i .no) O:=by
 refine⟨E.st,by rw [List.length_set,List.length_set];exact E.len,λj d e=> ?_,λj z d e zo=> ?_,E.out,E.dj,λj d e=> ?_,λj d e=> ?_⟩
 ·rcases Ha e with⟨rfl,q⟩|⟨n,q⟩
  ·cases q
  ·rw [List.getElem?_set_ne n];exact E.sh j d q
 ·rcases Ha e with⟨rfl,q⟩|⟨n,q⟩
  ·subst q;cases zo
  ·rw [List.getElem?_set_ne n];exact E.ow j z d q zo
 ·rcases Ha e with⟨rfl,q⟩|⟨n,q⟩
  ·cases q
  ·rw [List.getElem?_set_ne n];exact E.lk j d q
 ·rcases Ha e with⟨rfl,q⟩|⟨n,q⟩
  ·cases q
  ·rw [List.getElem?_set_ne n];exact E.lt j d q
section
variable{X:Cx}{EX:Bq}{i:Nat}{tb:List (Str×Bool)}{g h:FS}{c n:Str}{C2:Addr}{body ag:List Stmt}{b₀:Stmt}{np hp pos:Pos}
def Has.exc{G:Hp}{a C:Addr}{dx:Option Addr}{x:Xn}(hn:G a=none)(e:ExcAt K G (.ref C) dx x):Has K (upd G a (XO a C dx)) (.ref a) (.exn x.c x.ns x.vs):=by
 cases e with
 |bare hc=>exact .exn0 hc Cw
 |with_ hc hd hl r=>exact .exn1 hc Cw (by rw [Bm (Hg hd hn)];exact hd) hl (r.mono (n_5 hn _))
def dj_4{H0:HB}{G0 G1:Hp}{D:Ends}{r:Fl}(q:Fin K EX H0 G0 G1 D (dz_1 i r)):Fin K Ee H0 G0 G1 {nx:=λ σ H=>D.nx (σ.set i none) H,rt:=D.rt,bk:=λ σ H=>D.bk (σ.set i none) H,ct:=λ σ H=>D.ct (σ.set i none) H} r:=by
 cases r with
 |nx Δ=>exact λ σ G H O E sg=>q _ G H O (E.drop i) sg
 |bk Δ=>exact λ σ G H O E sg=>q _ G H O (E.drop i) sg
 |ct Δ=>exact λ σ G H O E sg=>q _ G H O (E.drop i) sg
 |rt w=>exact q
 |ex x Δ=>exact q.elim
 |no=>exact q
end
structure XGet(K:Frag)(C:Addr)(f:Str):Prop where
 ga:findIn K (.ref C) "__getattribute__" =some (some (.builtin "BaseException.__getattribute__"))
 gt:findIn K (.ref C) "__getattr__" =some none
 be:mroIn K C (.type "BaseException")=some true
 hd:hasDictIn K C=true
 no:findIn K (.ref C) f=some none
section
variable{prog:Program}{w:World}{A:Around}{E:Value->Shared->Prop}{s:Shared}{K:Frag}{x C dx:Addr}{f:Str}
structure XInst(K:Frag)(C:Addr):Prop where
 ga:findIn K (.ref C) "__getattribute__" =some (some (.builtin "BaseException.__getattribute__"))
 gt:findIn K (.ref C) "__getattr__" =some none
 be:mroIn K C (.type "BaseException")=some true
 hd:hasDictIn K C=true
 cl:findIn K (.ref C) "__class__" =some (some (.builtin "object.__class__"))
 gs:specialIn K (.builtin "object.__class__") "__get__" =some (some (.builtin "getset_descriptor.__get__"))
 tk:takesIn K (.builtin "object.__class__")=some true
 ob:mroIn K C (.type "object")=some true
end
def eAttr(cs:List Str)(f:Str)(fo:FE):FE:=λ δ=>(fo δ).bind λw=>match w.d with
 | .exn c ns vs=>if cs.contains c=true then(match(ns.zip vs).lookup f with|some d=> .ok (.sh d)|none=> .no) else .no
 |_=> .no
section
variable{X:Cx}{EX:Bq}{o:Expr}{fo:FE}{f:Str}{cs:List Str}{pos:Pos}
end
def eIsC(tb:List (Str×Bool))(fo:FE):FE:=λ δ=>(fo δ).bind λw=>match w.d with
 | .exn c _ _=>(match tb.lookup c with|some b=> .ok (.sh (.bl b))|none=> .no)
 |_=> .no
section
variable{X:Cx}{EX:Bq}{zc:List (Addr×Obj)}{σ:Sg}{G H:Hp}{s:Shared}
variable{a:Expr}{fo:FE}{tb:List (Str×Bool)}{pp pos:Pos}
end
theorem RoomC.units{c:Bool}{k:Nat}{A:Around}(r:RoomC c k A):A.units + 64 < cLine:=by have:=r.un;omega
section
variable{X:Cx}{c:Bool}{k:Nat}{zc:List (Addr×Obj)}{W:Value->Shared->Prop}{e:Value}
def dj_5(h:RoomC c k (Cx.A X)):RoomC c k (Cx.A (Cx.nox X)):=h
def as_4(h:RoomC c k (Cx.A X)):RoomC c k (Cx.A (tryB X zc W)):=h
def Ff{cm:Bool}{w:World}{N:List Str}{qual:Str}{scope:Scope}{f:Addr}{cd:Value}{A:Around}{outer:List Env}{s:Shared}{E:XK}:
  PassesOwn (model P w) (Cx.A (cxN cm P w K mg base N qual scope f cd A outer s H E)) (Cx.env (cxN cm P w K mg base N qual scope f cd A outer s H E)) (Cx.xe (cxN cm P w K mg base N qual scope f cd A outer s H E)):=
 λe s' h=>wpAny_leaving_again (SameStack.refl _) h
def Catches.one{C2:Addr}{c:Str}{C:Addr}{b:Bool}(a:ClsAt K c C)(h:exmOne K (.ref C) (.ref C2)=some b){tb:List (Str×Bool)}(r:Catches K C2 tb):Catches K C2 ((c,b)::tb):=λc' b' e C' a'=>by
 rw [List.lookup_cons] at e;cases z:(c' ==c) with
 |true=>
  rw [z] at e;cases e;have:c'=c:=eq_of_beq z;subst this;unfold ClsAt at a a';rw [a] at a';cases a';exact h
 |false=>rw [z] at e;exact r c' b' e C' a'
def Catches.nil{C2:Addr}:Catches K C2 []:=λ_ _ e=>by cases e
end
structure Hd where
 i:Option Nat
 tb:List (Str×Bool)
 h:FS
def hdGo(d:Hd)(x:Xn)(Δ:SE):Fl:=match d.i with
 |some i=>dz_1 i (d.h (Δ.set i (.sh (.exn x.c x.ns x.vs))))
 |none=>(match d.h Δ with
  | .ex _ _=> .no
  |r=>r)
def tryH:List Hd->Xn->SE->Fl
 | [],_,_=> .no
 |d::r,x,Δ=>match d.tb.lookup x.c with
  |some true=>hdGo d x Δ
  |some false=>tryH r x Δ
  |none=> .no
def bg_4(g:FS)(hs:List Hd):FS:=λ Δ=>match g Δ with
 | .ex x Δ1=>tryH hs x Δ1
 |r=>r
inductive HOk3(X:Cx):List ExceptHandler->List Hd->Prop where
 |nil:HOk3 X [] []
 |as_ {c n:Str} {C2:Addr} {b₀:Stmt} {ag:List Stmt} {np hp:Pos} {i:Nat} {tb:List (Str×Bool)} {h:FS} {hs:List ExceptHandler} {ds:List Hd} (hc:X.mg c=some (.ref C2)) (ct:Catches X.K C2 tb) (hh:∀e,BD (hand X e) Ee (b₀::ag) h) (r:HOk3 X hs ds)
   (hi:X.N[i]? =some n:=by rfl) (hk:X.env.scope.names.lookup n=some .local:=by rfl) (hg:Gl X c:=by rfl) (hdb:(c ==("__debug__" :Str))=false:=by decide):
   HOk3 X (.ExceptHandler (some (.Name c np)) (some n) (b₀::ag) hp::hs) (⟨some i,tb,h⟩::ds)
 |bare {c:Str} {C2:Addr} {b₀:Stmt} {ag:List Stmt} {np hp:Pos} {tb:List (Str×Bool)} {h:FS} {hs:List ExceptHandler} {ds:List Hd} (hc:X.mg c=some (.ref C2)) (ct:Catches X.K C2 tb) (hh:∀e,BD (hand X e) Ee (b₀::ag) h) (r:HOk3 X hs ds)
   (hg:Gl X c:=by rfl) (hdb:(c ==("__debug__" :Str))=false:=by decide):
   HOk3 X (.ExceptHandler (some (.Name c np)) none (b₀::ag) hp::hs) (⟨none,tb,h⟩::ds)
def EXh(K:Frag)(EX:Bq)(D:Ends)(ds:List Hd):Bq:=λ σ=>⟨λx G H=>∃H0 G0 Δ O,Ev K H0 G0 G H σ Δ O/\Fin K EX H0 G0 G D (tryH ds x Δ),
 λ_ _ _ _ _ s ⟨H0,G0,Δ,O,E,f⟩=>⟨H0,G0,Δ,O,E.grow s,Fin.mono s.gg f⟩⟩
def dv_0{EX:Bq}{H0:HB}{G0 G1:Hp}{D:Ends}{r:Fl}(q:Fin K EX H0 G0 G1 D (match r with| .ex _ _=> .no|r=>r)):Fin K Ee H0 G0 G1 {nx:=D.nx,rt:=D.rt,bk:=D.bk,ct:=D.ct} r:=by
 cases r with
 |nx Δ=>exact q
 |bk Δ=>exact q
 |ct Δ=>exact q
 |rt w=>exact q
 |ex x Δ=>exact q.elim
 |no=>exact q
section
variable{X:Cx}{EX:Bq}{g:FS}{body:List Stmt}{pos:Pos}
def cz_9(hN:X.N.Nodup){zc:List (Addr×Obj)}{D:Ends}{a C T2:Addr}{dx:Option Addr}{σ1 σ0:Sg}{H1 H2:Hp}{s1 s2:Shared}{h2:Heap}{x:Xn}{H0':HB}{G2 G0':Hp}{Δ1:SE}{O1:OS}{oa:Obj}{ua:Array Value}
  (J1:Inv X zc σ0 H1 s1) (J4:Inv X zc σ1 (upd H2 a (XO a C dx)) {s2 with heap:=h2}) (st4:Step G2 H2 (upd G2 a (XO a C dx)) (upd H2 a (XO a C dx)))
  (n1:H2 a=none) (sg2:Same G2 H2) (ea:ExcAt X.K G2 (.ref C) dx x) (LT:Looks (model X.prog X.w) h2 (typeOf (.ref a)) (.ref C)) (hcC:ClsAt X.K x.c C)
  (E1:Ev X.K H0' G0' G2 H2 σ1 Δ1 O1)
  (flt:∀{A:Around} {E:Value->Shared->Prop} {Q:Unit->Shared->Prop},(∀h3,Inv X zc σ1 (upd H2 a (XO a C dx)) {s2 with heap:=h3}->Q () {s2 with heap:=h3})->wpAny (model X.prog X.w) A (setFlight (.ref a) none) Q E {s2 with heap:=h2}):
  ∀{hs:List ExceptHandler} {ds:List Hd},HOk3 X hs ds->Fin X.K EX H0' G0' G2 D (tryH ds x Δ1)->wpAny (model X.prog X.w) X.A (handleBy (.ref a) X.env hs) (SP X zc D) X.xe {s2 with heap:=h2}:=by
 intro hs ds ho
 induction ho with
 |nil=>intro q;exact False.elim q
 |as_ hc ct hh r hi hk hg hdb ih=>
  rename_i c n C2 b₀ ag np hp i tb h hs ds;intro q;refine wpAny_handleBy_cons (codeAny_handlers_test ?_) (by intro z;cases z);refine x_4 (X:=hand X (.ref a)) (Inv.toH J4) hg hc ?_ hdb;unfold tryH at q;cases e2:tb.lookup x.c with
  |none=>simp only [e2] at q;exact q.elim
  |some b=>
   have em:=ct _ _ e2 C hcC;refine Looks.here (s:={s2 with heap:=h2}) (exm_one J4.kIn LT em) ?_;cases b with
   |false=>simp only [e2] at q;exact ih q
   |true=>
    simp only [e2,hdGo] at q;show codeAny _ _ _ _ _;refine codeAny_handlers_suite_as (flt λh3 J5=> ?_);refine be_0 (X:=hand X (.ref a)) (v:=.ref a) (Inv.toH J5) hN hi (.inl hk) rfl (λs6 I6=> ?_) (.inr hk);have E6:=(E1.grow st4).put (i:=i) (Has.exc (sg2.free n1) ea);refine wpAny_mono (hh (.ref a) zc s6 _ _ _ I6 ⟨H0',G0',_,_,O1,E6,dj_4 (Fin.mono st4.gg q)⟩) (λf s7 h7=> ?_) λ_ _ z=>False.elim z;show wpAny _ X.A (do bindName X.env n .none;unbindBehindTheSuite X.env n hp) (λ_ s₃=>SP X zc D f s₃) _ s7;cases f with
    |next=>
     obtain⟨σ7,H7,I7,q7⟩:=h7;exact al_1 (Inv.ofH J1.ok I7) hN hi hk λs8 I8=>⟨_,H7,I8,q7⟩
    |brk=>
     obtain⟨σ7,H7,I7,q7⟩:=h7;exact al_1 (Inv.ofH J1.ok I7) hN hi hk λs8 I8=>⟨_,H7,I8,q7⟩
    |cont=>
     obtain⟨σ7,H7,I7,q7⟩:=h7;exact al_1 (Inv.ofH J1.ok I7) hN hi hk λs8 I8=>⟨_,H7,I8,q7⟩
    |ret u=>
     obtain⟨v,σ7,H7,I7,r7,q7⟩:=h7;exact al_1 (Inv.ofH J1.ok I7) hN hi hk λs8 I8=>⟨v,_,H7,I8,r7,q7⟩
 |bare hc ct hh r hg hdb ih=>
  rename_i c C2 b₀ ag np hp tb h hs ds;intro q;refine wpAny_handleBy_cons (codeAny_handlers_test ?_) (by intro z;cases z);refine x_4 (X:=hand X (.ref a)) (Inv.toH J4) hg hc ?_ hdb;unfold tryH at q;cases e2:tb.lookup x.c with
  |none=>simp only [e2] at q;exact q.elim
  |some b=>
   have em:=ct _ _ e2 C hcC;refine Looks.here (s:={s2 with heap:=h2}) (exm_one J4.kIn LT em) ?_;cases b with
   |false=>simp only [e2] at q;exact ih q
   |true=>
    simp only [e2,hdGo] at q;show codeAny _ _ _ _ _;refine codeAny_handlers_suite (flt λh3 J5=> ?_);have E6:=E1.grow st4;refine wpAny_mono (hh (.ref a) zc {s2 with heap:=h3} _ _ _ (Inv.toH J5) ⟨H0',G0',_,_,O1,E6,dv_0 (Fin.mono st4.gg q)⟩) (λf s7 h7=> ?_) λ_ _ z=>False.elim z;cases f with
    |next=>
     obtain⟨σ7,H7,I7,q7⟩:=h7;exact⟨_,H7,Inv.ofH J1.ok I7,q7⟩
    |brk=>
     obtain⟨σ7,H7,I7,q7⟩:=h7;exact⟨_,H7,Inv.ofH J1.ok I7,q7⟩
    |cont=>
     obtain⟨σ7,H7,I7,q7⟩:=h7;exact⟨_,H7,Inv.ofH J1.ok I7,q7⟩
    |ret u=>
     obtain⟨v,σ7,H7,I7,r7,q7⟩:=h7;exact⟨v,_,H7,Inv.ofH J1.ok I7,r7,q7⟩
def dv_1{hd0:ExceptHandler}{hs0:List ExceptHandler}{ds:List Hd}(hN:X.N.Nodup)(hfr:X.env.frame=some X.env.locals)(hst:X.stack=X.env::X.outer)(hb:∀zc W EXB,Lk (tryB X zc W) EXB->BD (tryB X zc W) EXB body g)(ho:HOk3 X (hd0::hs0) ds):
  SD X EX (.Try body (hd0::hs0) [] [] pos) (bg_4 g ds):=by
 intro zc s σ H D I q;obtain⟨H0,G0,G,Δ,O,E,q⟩:=q;refine wpAny_Try_except ?_;have lk:Lk (tryB X zc λe s₁=>wpAny (model X.prog X.w) X.A (noteFrame e X.env) (λ_ s₂=>wpAny (model X.prog X.w) X.A (setFlight e none) (λ_ s₃=>wpAny (model X.prog X.w) X.A (handleBy e X.env (hd0::hs0)) (SP X zc D) X.xe s₃) X.xe s₂) X.xe s₁) (EXh X.K EX D ds):=by
  intro aj σ1 H1 s1 e s2 I1 cx;obtain⟨a,C,dx,T,H2,rfl,I2,tr,n1,n2,z1,z2,x,G2,sg2,ea,H0',G0',Δ1,O1,E1,f1⟩:=Inv.raised I1 cx;show wpAny _ X.A (noteFrame (.ref a) X.env) _ _ s2;have J1:=Inv.ofB I1;have J2:=Inv.ofB I2;refine bo_0 (outer:=X.outer) (by rw [<-hst];exact J2.ok.frames) (by rw [<-hst];exact J2.stack) hfr tr λh1 T2 z3 k1 t1=> ?_;refine z_9 t1 λh2 k2 t2=> ?_;have zT2:H2 T2=none:=J2.hok.fresh z3;have J3:Inv X zc σ1 H2 {s2 with heap:=h2}:=by
   refine Inv.settle (ch:=[a,T] ++ [T2]) J1 J2 (λb hb=> ?_) ?_
   ·have:b=a\/b=T\/b=T2:=by simpa using hb
    rcases this with rfl|rfl|rfl
    ·exact⟨z1,n1⟩
    ·exact⟨z2,n2⟩
    ·exact⟨Nat.le_trans z1 (Nat.le_trans (Nat.le_of_lt (Heap.lt_size tr.ob.choose_spec.choose_spec.1)) z3),zT2⟩
   ·rw [hst];exact k1.trans (KeepX.of_same k2)
  obtain⟨⟨oa,ua,ga,gc,gd,gf,g1⟩,ne,tbk⟩:=id t2;have goa:h2.get? a=some ⟨.ref C,dx,.fields ua,oa.slots⟩:=by
   obtain⟨c1,d1,e1,s1⟩:=oa;simp only at gc gd gf;subst gc gd gf;exact ga
  have J4:Inv X zc σ1 (upd H2 a (XO a C dx)) {s2 with heap:=h2}:=Inv.speak J1 J3 z1 goa n1;have st4:Step G2 H2 (upd G2 a (XO a C dx)) (upd H2 a (XO a C dx)):=Step.new sg2 n1 _;have LT:Looks (model X.prog X.w) h2 (typeOf (.ref a)) (.ref C):=gc▸(Looks.ld ga).andThen .now;obtain⟨hcC⟩:Nonempty (ClsAt X.K x.c C):=by cases ea with|bare hc=>exact⟨hc⟩|with_ hc _ _ _=>exact⟨hc⟩
  refine cz_9 (oa:=oa) (ua:=ua) (T2:=T2) hN J1 J4 st4 n1 sg2 ea LT hcC E1 (λ{A E Q} hq=> ?_) ho f1;refine z_9 t2 λh3 k3 t3=>hq h3 ?_;refine Inv.settle (ch:=[T2]) (s':={s2 with heap:=h2}) J1 J4 (λb hb=> ?_) (KeepX.of_same k3);have:b=T2:=by simpa using hb
  subst this;exact⟨Nat.le_trans z1 (Nat.le_trans (Nat.le_of_lt (Heap.lt_size tr.ob.choose_spec.choose_spec.1)) z3),by rw [Bm ne];exact zT2⟩
 refine wpAny_mono (hb zc _ _ lk [] s σ H D (Inv.toB I) ⟨H0,G0,G,Δ,O,E, ?_⟩) (λf s1 hs=> ?_) λ_ _ z=>z
 ·unfold bg_4 at q;cases e1:g Δ with
  |ex x Δ1=>
   rw [e1] at q;exact λ σ1 G1 H1 O1 E1 sg=>⟨H0,G0,Δ1,O1,E1,Fin.mono sg q⟩
  |nx Δ1=>rw [e1] at q;exact q
  |bk Δ1=>rw [e1] at q;exact q
  |ct Δ1=>rw [e1] at q;exact q
  |rt w=>rw [e1] at q;exact q
  |no=>rw [e1] at q;exact q
 ·have hs':=SP.ofB hs;cases f with
  |next=>exact wpAny_execs_nil hs'
  |brk=>exact hs'
  |cont=>exact hs'
  |ret u=>exact hs'
end
section
variable{prog:Program}{w:World}{A:Around}{E:Value->Shared->Prop}{h:Heap}{g:Array GenState}{d:Drawn}{t:Nat}{os:OsState}
variable{nm q:Str}{C N:Addr}{bs bm bmB:List Value}{ba:Bool}{sn:List Str}{sub:List Value}{ab:Bool}{col:Option Bool}{dd:Option Addr}{k0 k1 k2 k3 k5:Option Value}{B newId ah:String}
def cn_5(FB:ExcBaseFacts B newId ah bmB)(T:OwnTail h bmB bm){mN:Str->Option Value}{Q:PySem.Fin->Shared->Prop}
  (hC:h.get? C=some (excClassObj nm q C N bs bm ba sn sub ab col dd k0 k1 k2 k3 k5 newId)) (hn:h.Ns N mN) (hi:mN "__init__" =none)
  (z:∀h' e,Heap.MadeExcOf h h' e (.ref C) []->h.objs.size<=e->Q (.done (.ret (.ref e))) ⟨h',g,d,t,os⟩):
  wpAny (model prog w) A (Builtin.«type.__call__» ⟨[.ref C],[]⟩) Q E ⟨h,g,d,t,os⟩:=by
 wp_walk using wpAny_loadPart_at hC,wpAny_madeBy_exc hC
 refine codeAny_call_builtin_code (Code.quiet_builtin _ FB.quiet) (wpAny_check_new_subT FB T hC ?_);refine codeAny_exc_new_subT FB T hC ?_ (by show 0<=sizeLine;exact Nat.zero_le _);show wpAny _ _ _ _ _ _;generalize e1:({cls:=.type "tuple",data:=.seq ([]:List Value).toArray}:Obj)=o1;generalize e2:({cls:=.ref C,data:=.fields #[.ref h.objs.size,.none,.none,.none,.bool false,.none]}:Obj)=o2;have up:∀b o,h.get? b=some o->((h.push o1).push o2).get? b=some o:=λb o e=>Heap.get?_push_of_some _ (Heap.get?_push_of_some _ e);have ge:((h.push o1).push o2).get? (h.objs.size + 1)=some o2:=by
  have:=Heap.get?_push_size (h.push o1) (o:=o2) (by rw [<-e2];rfl)
  rwa [Heap.size_push] at this
 have hC1:=up _ _ hC;have hn1:((h.push o1).push o2).Ns N mN:=hn.keeps up;have T1:=T.keeps up;have cl:o2.cls=.ref C:=by rw [<-e2]
 have hcC:List.contains (Value.ref C::bm) (.ref C)=true:=List.contains_iff_mem.mpr (.head _);unfold isInstance
 repeat (first|(with_reducible refine wpAny_loadPart_at ge ?_;rw [cl])|(with_reducible refine wpAny_isSubtype_exc hC1 ?_;rw [hcC])|wp_step)
 show wpAny _ _ (typeLookup (.ref C) _) _ _ _;refine wpAny_typeLookup_tail hC1 hn1 T1 FB.mroIs FB.init.lookup ?_;rw [hi];refine wpAny_holding (wpAny_bind (wpAny_of_eq (FB.init.bind _) ?_));refine wpAny_bind (wpAny_call (codeAny_call_builtin FB.init.plain FB.initEntry (wpAny_check_init_subT FB T1 hC1 ge cl ?_)));subst e1 e2
 wp_walk
 refine z _ (h.objs.size + 1) ⟨λb o hb=> ?_,Heap.get?_none_of_le (Nat.le_succ _),h.objs.size + 2, ?_,Heap.get?_none_of_le (by omega), ?_⟩ (Nat.le_succ _)
 ·rw [Heap.get?_update_other _ _ (Ne.symm (Nat.ne_of_lt (Nat.lt_succ_of_lt (Heap.lt_size hb))))];exact Heap.get?_push_of_some _ (up b o hb)
 ·rw [Heap.get?_update_self _ (Heap.get?_push_of_some _ ge) rfl,Heap.size_push,Heap.size_push];rfl
 ·rw [Heap.get?_update_other _ _ (Nat.ne_of_lt (Nat.lt_succ_self (h.objs.size + 1)))];exact Heap.get?_push_at (by rw [Heap.size_push,Heap.size_push]) rfl
def da_0(FB:ExcBaseFacts B newId ah bmB)(T:OwnTail h bmB bm){mN:Str->Option Value}{Q:Value->Shared->Prop}
  (hC:h.get? C=some (excClassObj nm q C N bs bm ba sn sub ab col dd k0 k1 k2 k3 k5 newId)) (hn:h.Ns N mN) (hi:mN "__init__" =none)
  (z:∀h' e,Heap.MadeExcOf h h' e (.ref C) []->h.objs.size<=e->Q (.ref e) ⟨h',g,d,t,os⟩):
  wpAny (model prog w) A (call (.ref C) []) Q E ⟨h,g,d,t,os⟩:=by
 have f1:=tc_lookup;have f2:=tc_bind (.ref C);have Dj:Shared.TypeIs ⟨h,g,d,t,os⟩ (.ref C) "type" :=⟨_,hC,rfl⟩;refine wpAny_call (codeAny_of_tree (?_:wpAny _ _ (callAny (.ref C) _) _ _ _))
 wp_walk using wpAny_loadPart_at hC
 refine⟨rfl, ?_⟩;exact codeAny_call_builtin_at (Code.quiet_builtin _ (by decide +kernel)) entry_typeCall (wpAny_check_type_call_sub hC (cn_5 FB T hC hn hi z))
end
def XMk0(K:Frag)(C:Addr):Prop:=∃(nm q:Str) (N:Addr) (bs bm:List Value) (sn:List Str) (sub:List Value) (ab:Bool) (col:Option Bool) (dd:Option Addr) (k0 k1 k2 k3 k5:Option Value) (mN:Str->Option Value),
 K.lookup C=some (excClassObj nm q C N bs bm true sn sub ab col dd k0 k1 k2 k3 k5 "ValueError.__new__")/\(∀h:Heap,K.In h->OwnTail h bmVE bm)/\(∀h:Heap,K.In h->h.Ns N mN)/\mN "__init__" =none
def dv_3{C N L:Addr}{nm q:Str}{bs:List Value}{sn:List Str}{sub:List Value}{ab:Bool}{col:Option Bool}{dd:Option Addr}{k0 k1 k2 k3 k5:Option Value}{oc c0 oL:Value}{od ddL odL:Option Addr}{es esL:Array DictEntry}{ep epL:Nat}{sl sl0 slL:Array (Option Value)}{cd:ClassData}
  (lc:K.lookup C=some (excClassObj nm q C N bs (.ref L::bmVE) true sn sub ab col dd k0 k1 k2 k3 k5 "ValueError.__new__")) (ln:K.lookup N=some ⟨oc,od,.dict es ep,sl⟩) (kn:q_0 es=true) (hi:nsFind es "__init__" =none)
  (ll:K.lookup L=some ⟨c0,ddL,.cls cd,sl0⟩) (lm:K.lookup cd.ns=some ⟨oL,odL,.dict esL epL,slL⟩) (km:q_0 esL=true) (hL:nsFind esL "__init__" =none):XMk0 K C:=
 ⟨nm,q,N,bs,_,sn,sub,ab,col,dd,k0,k1,k2,k3,k5,nsFind es,lc,λh X=> .own (X _ _ ll) (cs_5 lm km X) hL .base,λh X=>cs_5 ln kn X,hi⟩
structure XC0(K:Frag)(mg:Str->Option Value)(c:Str)(C:Addr):Prop where
 at_:ClsAt K c C
 glob:mg c=some (.ref C)
 kp:keepIn K (.ref C)=true
 made:XMk0 K C
def bw_1(c:Str):FS:=λ Δ=> .ex ⟨c,[],[]⟩ Δ
section
variable{X:Cx}{C:Addr}{c:Str}
def bq_1{EX:Bq}{np zd pos:Pos}(M:XC0 X.K X.mg c C)(hr:RoomC true 2 X.A)(l1:Lk1 X EX)(hg:Gl X c:=by rfl)(hdb:(c ==("__debug__" :Str))=false:=by decide):
  SD X EX (.Raise (some (.Call (.Name c np) [] [] zd)) none pos) (bw_1 c):=by
 intro zc s σ H D I q;obtain⟨H0,G0,G,Δ,O,E,q⟩:=q;obtain⟨nm,qn,N,bs,bm,sn,sub,ab,col,dd,k0,k1,k2,k3,k5,mN,lc,tl,hn,hi⟩:=M.made;have hB:bm.contains (.type "BaseException")=true:=aw_4 (tl s.heap I.kIn);rw [arm_exec_Raise];have mk:wpAny (model X.prog X.w) X.A (eval (.Call (.Name c np) [] [] zd) X.env) (λv s1=>∃a t dx,v=.ref a/\s1.heap.get? C=some (excClassObj nm qn C N bs bm true sn sub ab col dd k0 k1 k2 k3 k5 "ValueError.__new__")/\
   s1.heap.get? a=some {cls:=.ref C,dict:=dx,data:=.fields #[.ref t,.none,.none,.none,.bool false,.none]}/\X.xe (.ref a) s1) X.xe s:=by
  refine wpAny_Call_Name_kw (x_4 I hg M.glob ?_ hdb);refine callWith_K0 I.kIn M.kp ?_;have KX:=I.kIn;obtain⟨hh,gg,dr,tk,os⟩:=s;refine da_0 PySem.F.excBase_ValueError (tl hh KX) (KX _ _ lc) (hn hh KX) hi λh' a me za=> ?_;obtain⟨kk,new,t,et,_,_⟩:=me;have I2:Inv X zc σ H ⟨h',gg,dr,tk,os⟩:=I.kept (h':=h') (t':=tk) kk;refine⟨a,t,none,rfl,I2.kIn _ _ lc,et, ?_⟩;exact l1 zc σ H H ⟨hh,gg,dr,tk,os⟩ ⟨h',gg,dr,tk,os⟩ a C none _ _ I I2 et rfl rfl rfl rfl (I.hok.fresh za) za ⟨⟨c,[],[]⟩,G,E.st.gh,.bare M.at_,q σ G H O E (Same.refl _)⟩
 refine wpAny_bind (wpAny_standAt (bo_1 hB (hr.hd rfl) (wpAny_bind (wpAny_mono mk (λv s3 h3=>wpAny_bind (wpAny_standAt (wpAny_pure h3))) λ_ _ x=>x))))
end
end L3
namespace L3
open PySem L2
variable{K:Frag}{fd:FuncData}{mg:Str->Option Value}{P:Program}{vs:List V}{us:List Value}{base:Heap}{H:Hp}{X:Cx}{pos:Pos}{v:V}
abbrev Ai{a b:Prop}(x:a)(y:b):a/\b:=⟨x,y⟩
def Am:=Ai @Ak.eq_1 (Ai @Ay.eq_1 (Ai @Af.eq_1 (Ai @Ag.eq_1 (Ai @gsome.eq_1 (Ai @give1.eq_1 (Ai @List.foldl_cons.{0,0} (Ai @List.foldl_nil.{0,0} (Ai @Ao.eq_1 (Ai @Bz.eq_1 (Ai @Bv.eq_1 (Ai @Cl.eq_1 (Ai @Bf.eq_1 (Ai @Bb.eq_1 (Ai @Ar.eq_1 (Ai @gall.eq_1 (Ai @di_9 (Ai @dj_0 (Ai @dj_1 (Ai @cm_8 (Ai @ef_6 (Ai @ef_7 (Ai @du_4 (Ai @du_5 (Ai @du_6 (Ai @Aj.eq_1 (Ai @Ab.eq_1 (Ai @eC.eq_1 (Ai @An.eq_1 (Ai @Be.eq_1 (Ai @Cg.eq_1 (Ai @Cg.eq_2 (Ai @Cg.eq_3 (Ai @Cg.eq_4 (Ai @Cg.eq_5 (Ai @Cg.eq_6 (Ai @Cg.eq_7 (Ai @Dt.eq_1 (Ai @Dt.eq_2 (Ai @Ah.eq_1 (Ai @At.eq_1 (Ai @R.calm_ok (Ai @R.calm_no (Ai @R.calm_ex (Ai @Ei.eq_1 (Ai @Ei.eq_2 (Ai @Ei.eq_3 (Ai @Ei.eq_4 (Ai @Ei.eq_5 (Ai @eAttr.eq_1 (Ai @eIsC.eq_1 (Ai @isND.eq_1 (Ai @isND.eq_2 (Ai @nonB.eq_1 (Ai @nonB.eq_2 (Ai @Ac.eq_1 (Ai @Aa.eq_1 (Ai @eTup.eq_1 (Ai @Ci.eq_1 (Ai @eIf.eq_1 (Ai @eAnd.eq_1 (Ai @eOr.eq_1 (Ai @eNot.eq_1 (Ai @Ez.eq_1 (Ai @Gj.eq_1 (Ai @Fa.eq_1 (Ai @eIs.eq_1 (Ai @cd_8 (Ai @cn_0 (Ai @cd_9 (Ai @ce_0 (Ai @ce_1 (Ai @ce_2 (Ai @bu_9 (Ai @ce_3 (Ai @bv_0 (Ai @bv_1 (Ai @bv_2 (Ai @bv_3 (Ai @ce_4 (Ai @cn_1 (Ai @ce_5 (Ai @ce_6 (Ai @ce_7 (Ai @ce_8 (Ai @bv_4 (Ai @ce_9 (Ai @bv_5 (Ai @bv_6 (Ai @bv_7 (Ai @bv_8 (Ai @bl_0 (Ai @bv_9 (Ai @bl_1 (Ai @bl_2 (Ai @bl_3 (Ai @bl_4 (Ai @Gg.eq_1 (Ai @oNone.eq_1 (Ai @Ey.eq_1 (Ai @intPart.eq_1 (Ai @intPart.eq_2 (Ai @Gi.eq_1 (Ai @eMeth0.eq_1 (Ai @tyD.eq_1 (Ai @tyD.eq_2 (Ai @tyD.eq_3 (Ai @tyD.eq_4 (Ai @Ax.eq_1 (Ai @Db.eq_1 (Ai @Gh.eq_1 (Ai @Gh.eq_2 (Ai @Gh.eq_3 (Ai @Gh.eq_4 (Ai @R.bind_ok (Ai @R.bind_no (Ai @R.bind_ex (Ai @W.d_sh (Ai @W.d_ow (Ai @List.map_cons.{0,0} (Ai @List.map_nil.{0,0} (Ai @List.cons_append.{0} (Ai @List.nil_append.{0} (Ai @List.append_nil.{0} (Ai @List.replicate_succ.{0} (Ai @List.replicate_zero.{0} (Ai @List.length_cons.{0} (Ai @List.length_nil.{0} (Ai @List.set_cons_zero.{0} (Ai @List.set_cons_succ.{0} (Ai @List.getElem?_cons_zero.{0} (Ai @List.getElem?_cons_succ.{0} (Ai @if_true.{1} (Ai @if_false.{1} (Ai @Ba.eq_1 (Ai @Ba.eq_2 (Ai @Ba.eq_3 (Ai @Ba.eq_4 (Ai @Ba.eq_5 (Ai @Bool.false_eq_true (Ai @Bool.not_true (Ai @Bool.not_false (Ai @Bool.true_and (Ai @Bool.false_and (Ai @Nat.zero_add (Ai @decide_true (Ai @decide_false (Ai @gC.eq_1 (@gV.eq_1))))))))))))))))))))))))))))))))))))))))))))))))))))))))))))))))))))))))))))))))))))))))))))))))))))))))))))))))))))))))))))))))))))))))))))))))))))
end L3
namespace L3
open PySem PySem.Spec PyProof.Rows L2
variable{K:Frag}{fd:FuncData}{mg:Str->Option Value}{P:Program}{vs:List V}{us:List Value}{base:Heap}{H:Hp}{X:Cx}{pos:Pos}{v:V}
abbrev HBd(c:Bool)(P:Program)(w:World)(K:Frag)(mg:Str->Option Value)(base:Heap)(N:List Str)(qual:Str)(st:Stmt)(f:Addr)(k:Nat)(g:FS):Prop:=∀{zn:Value} {A:Around} {outer:List Env} {s:Shared} {H:Hp} {E:XK},(cxN c P w K mg base N qual (Cn st) f zn A outer s H E).calm=c->RoomC c k (Cx.A (cxN c P w K mg base N qual (Cn st) f zn A outer s H E))->(Cx.A (cxN c P w K mg base N qual (Cn st) f zn A outer s H E)).units + 64 < cLine->N.Nodup->Lk (cxN c P w K mg base N qual (Cn st) f zn A outer s H E) (λ_=>EXof K E)->
   BD (cxN c P w K mg base N qual (Cn st) f zn A outer s H E) (λ_=>EXof K E) (Fs st) g
def Bo{c:Bool}{w:World}{x qual:Str}{st:Stmt}{f:Addr}{N ps:List Str}{k:Nat}{g:FS}(F:Fun K x qual st f fd)
  (zh:HBd c P w K mg base N qual st f k g) (S:FnScope N ps (Cn st):=by exact⟨rfl,rfl,rfl,by decide +kernel,rfl,by decide +kernel,by decide +kernel⟩):FnX P w K mg base c (k + 1) f fd ps (Bi K ps.length (Ak N.length g)):=
 fn_D F S λzn A outer s H E hr=>zh rfl hr (RoomC.units hr) S.nd cl_6
def em_7{c:Bool}{w:World}{x qual:Str}{st:Stmt}{f:Addr}{N ps:List Str}{k n:Nat}{g:FS}(F:Fun K x qual st f fd)(hn:ps.length=n + 1)(hle:ps.length<=N.length)
  (zh:HBd c P w K mg base N qual st f k g) (S:FnScope N ps (Cn st):=by exact⟨rfl,rfl,rfl,by decide +kernel,rfl,by decide +kernel,by decide +kernel⟩):FnX P w K mg base c (k + 1) f fd ps (spM K n (cd_1 N.length g)):=
 fn_M F S hn hle λzn A outer s H E hr=>zh rfl hr (RoomC.units hr) S.nd cl_6
def Gk{c:Bool}{w:World}{x qual cn:Str}{st:Stmt}{f C:Addr}{N ps:List Str}{k n:Nat}{g:FS}(F:Fun K x qual st f fd)(hC:ClsAt K cn C)(hn:ps.length=n + 1)(hle:ps.length<=N.length)
  (zh:HBd c P w K mg base N qual st f k g) (S:FnScope N ps (Cn st):=by exact⟨rfl,rfl,rfl,by decide +kernel,rfl,by decide +kernel,by decide +kernel⟩):FnX P w K mg base c (k + 1) f fd ps (spI K C n (Go N.length cn g)):=
 fn_I F S hC hn hle λzn A outer s H E hr=>zh rfl hr (RoomC.units hr) S.nd cl_6
def FnAt(K:Frag)(x qual:Str)(st:Stmt)(f:Addr):Prop:=∃fd,Fun K x qual st f fd
def FnAt.mk{x qual:Str}{st:Stmt}{f:Addr}{oc kV dc pm cd ct:Value}{od an:Option Addr}{sl:Array (Option Value)}
  (l:K.lookup f=some ⟨oc,od,.func (fnOf x qual (k_3 st) (Fs st) (Cn st) .none kV dc pm an cd ct),sl⟩) (c:codeIn K cd qual=true) (k:keepIn K (.ref f)=true):FnAt K x qual st f:=⟨_,ck_8 l c k⟩
def FnTop(K:Frag)(x:Str)(st:Stmt):Prop:=∃f,nsIn K mainGlobals x=some (some (.ref f))/\FnAt K x x st f
theorem FnTop.mk{x:Str}{st:Stmt}{f:Addr}{oc kV dc pm cd ct:Value}{od an:Option Addr}{sl:Array (Option Value)}(a:nsIn K mainGlobals x=some (some (.ref f)))
  (l:K.lookup f=some ⟨oc,od,.func (fnOf x x (k_3 st) (Fs st) (Cn st) .none kV dc pm an cd ct),sl⟩) (c:codeIn K cd x=true) (k:keepIn K (.ref f)=true):FnTop K x st:=⟨f,a,FnAt.mk l c k⟩
def FnMet(K:Frag)(C:Addr)(x qual:Str)(st:Stmt):Prop:=∃f,findIn K (.ref C) x=some (some (.ref f))/\FnAt K x qual st f/\keepIn K (.ref f)=true/\isFn K (.ref f)=true
theorem FnMet.mk{C:Addr}{x qual:Str}{st:Stmt}{f:Addr}{oc kV dc pm cd ct:Value}{od an:Option Addr}{sl:Array (Option Value)}(a:findIn K (.ref C) x=some (some (.ref f)))
  (l:K.lookup f=some ⟨oc,od,.func (fnOf x qual (k_3 st) (Fs st) (Cn st) .none kV dc pm an cd ct),sl⟩) (c:codeIn K cd qual=true) (k:keepIn K (.ref f)=true) (i:isFn K (.ref f)=true):FnMet K C x qual st:=⟨f,a,FnAt.mk l c k,k,i⟩
section
variable{X:Cx}{EX:Bq}{pos:Pos}
end
def cf_3(l:List Int):List Int:=l.mergeSort λa b=>decide (a<=b)
def cf_4{l r:List Int}(hp:r.Perm l)(hs:r.Pairwise (· <= ·)):cf_3 l=r:=by
 have h1:(cf_3 l).Pairwise (λa b=>(decide (a<=b))=true):=List.pairwise_mergeSort (le:=λa b=>decide (a<=b)) (λa b c h1 h2=>decide_eq_true (Int.le_trans (of_decide_eq_true h1) (of_decide_eq_true h2))) (λa b=>by
  rcases Int.le_total a b with h|h
  ·simp [h]
  ·simp [h]) l
 refine List.Perm.eq_of_pairwise (le:=λa b:Int=>a<=b) (λa b _ _ h1 h2=>Int.le_antisymm h1 h2) (h1.imp λh=>of_decide_eq_true h) hs ?_;exact(List.mergeSort_perm l _).trans hp.symm
def bg_5:List D->R W
 | [.lst ds]=>(match Gu ds with
  |some is=>if is.length < 64 then .ok (.ow (.lst ((cf_3 is).map λi=> .int i))) else .no
  |none=> .no)
 |_=> .no
theorem bq_2:∀{us:List Value} {is:List Int},IntsAre us is->Vals (is.map λi=>V.int i) us
 |_,_,.nil=> .nil
 |_,_,.cons n t r=> .cons ⟨t,rfl⟩ (bq_2 r)
theorem cf_5{G:Hp}:∀is:List Int,HasL K G (is.map λi=>V.int i) (is.map λi=>D.int i)
 | []=> .nil
 |_::r=> .cons (.int _) (cf_5 r)
section
variable{X:Cx}{EX:Bq}{pos:Pos}
def cn_6(_hc:X.calm=true):Ek X (.builtin "sorted") bg_5:=by
 intro zc s σ H vs us Q I rv q;obtain⟨EX,G,ds,g,r,o⟩:=q;cases r with
 |nil=>exact False.elim o
 |cons h t=>
  cases t with
  |cons _ _=>cases h <;> exact False.elim o
  |nil=>
   cases h with
   |lst h r=>
    rename_i l _ _;simp only [bg_5] at o
    split at o
    ·rename_i is e
     split at o
     ·rename_i hl;obtain⟨u,rfl,ru⟩:=rv.one;cases ru;obtain⟨its,rv',pl,hz⟩:=I.list (g.seq h);have ia:=cc_8 r rv' e;have il:its.length=is.length:=ia.length;refine sorted_ints pl.isList ia (by omega) λout ns' a1 a2 a3=> ?_;obtain⟨c,hat⟩:=sortedAll_at s.heap its out;have en:cf_3 is=ns':=cf_4 a2 a3;rw [en] at o;have rv2:=bq_2 a1;have fr:=I.hok.fresh (Nat.le_succ s.heap.objs.size);refine⟨.ref _,upd H _ (.lst _),I.laid (t':=s.toks) (λ_ _=>sortedAll_old) (Nat.le_succ _) ⟨?_,out.toList,c,rv2,by simpa using hat⟩,rfl,x_5 o g (cf_5 ns') _ fr⟩;rw [List.length_map,a2.length_eq,sizeLine_eq];omega
     ·exact o.elim
    ·exact o.elim
   |_=>exact False.elim o
end
section
variable{X:Cx}{EX:Bq}
end
def gcM{EX:Bq}{i:Nat}{x:Str}(hN:decide X.N.Nodup=true:=by rfl')(hi:X.N[i]? =some x:=by rfl)(hx:Loc X.env.scope x:=by first|exact Or.inl rfl|exact Or.inr rfl)
  (hf:X.fn x=true\/X.env.scope.names.lookup x=some .local:=by first|exact .inl rfl|exact .inr rfl|assumption):GC X EX (.Name x pos) (gC i):=dr_9 (of_decide_eq_true hN) hi hx hf
structure BaseI(K:Frag)(B f:Addr):Prop where
 sp:specialIn K (.ref B) "__getattribute__" =some (some (.builtin "type.__getattribute__"))
 rd:readsIn K B (.type "type")=true
 at_:findCls K (.ref B) (.type "type") "__init__" =some (.val (.ref f))
 kp:keepIn K (.ref f)=true
def MakB(P:Program)(w:World)(K:Frag)(mg:Str->Option Value)(base:Heap)(cc:Bool)(b c:Str)(k n:Nat)(F:List D->R (List Str×List D)):Prop:=
 ∃B C f fd ps,ClsAt K c C/\mg b=some (.ref B)/\BaseI K B f/\FnX P w K mg base cc k f fd ps (spI K C n F)/\Binds K fd ps []
def ai_9(i:Nat)(c:Str)(js:List Nat)(F:List D->R (List Str×List D))(fe:FE):FS:=λ Δ=>match(gsome js Δ)[i]? with
 |some (.lt (.obj c' [] []))=>if c'=c then(match fe (Bb (gsome js Δ)) with
  | .ok w=>(match F [w.d] with
   | .ok p=> .nx ((gsome js Δ).set i (.lt (.obj c p.1 (p.2.map .sh))))
   |_=> .no)
  | .ex x=> .ex x (gsome js Δ)
  | .no=> .no) else .no
 |_=> .no
section
variable{X:Cx}{EX:Bq}{e:Expr}{es:List Expr}{x:Str}{pp zf pos:Pos}{cc:Bool}{k k' n:Nat}{ps:List Str}
def dj_7{sp:Sp}{t:TA}{B f:Addr}{pl:Sem Bool}(b:BaseI X.K B f)(hr:RoomC cc k X.A)(lk:Lk X EX)(ok:FnX X.prog X.w X.K X.mg X.base cc k f fd ps sp)(hb:Binds X.K fd ps [])(hm:X.mg x=some (.ref B))(hg:Gl X x)(hdb:(x ==("__debug__" :Str))=false)(ha:PA X (e::es) t)
  (hst:starEach (e::es) X.env=(false,eval e X.env)::starEach es X.env) (hpl:(backTo pos (starEach es X.env)).any (·.1)=false)
  (ht:eval (.Call (.Attribute (.Name x pp) "__init__" zf) (e::es) [] pos) X.env=(do
   let ov<-eval (.Name x pp) X.env
   standAt zf.atName
   let(f,first)<-holding [ov] (getMethod ov "__init__" pl)
   callWith pos f first (backTo pos (starEach (e::es) X.env)) (backToKw pos (keywordEach [] X.env)))):
  PE X (.Call (.Attribute (.Name x pp) "__init__" zf) (e::es) [] pos) (λ σ H Q=>t σ H λvs H1=>sp vs H1 Q (EXE X.K (EX σ))):=by
 intro zc s σ H Q I q;refine methodCall_KW (pl:=pl) (x_4 I hg hm ?_ hdb) ht;refine method_cls I.kIn b.sp (cls_value I.kIn b.rd b.at_ rfl ?_);refine callWith_K (first:=[]) (h₀:=X.base) I.ok.mod.kin b.kp (Bh (ha pos zc _ σ H _ (I.tok _) q) λus s1 ⟨vs,H1,I1,r,q⟩=>⟨I1.kIn, ?_⟩) hst hpl;exact ar_6 ok hr hb lk I1 r q
def cf_6{i:Nat}{c y:Str}(js:List Nat){fe:FE}{F:List D->R (List Str×List D)}{p3 bb:Pos}{pl:Sem Bool}(hr:RoomC cc k' X.A)(lk:Lk X EX)(h:MakB X.prog X.w X.K X.mg X.base cc x c k 1 F)(he:ED X EX e fe)(hk:k<=k':=by decide)
  (hN:X.N[i]? =some y:=by rfl) (hv:Hk X.env.scope y:=by first|exact Or.inl rfl|exact Or.inr (Or.inl rfl)|exact Or.inr (Or.inr rfl)) (hd:(y ==("__debug__" :Str))=false:=by decide) (hcd:(y ==("__classdict__" :Str))=false:=by decide)
  (hg:Gl X x:=by rfl) (hdb:(x ==("__debug__" :Str))=false:=by decide) (hs1:starEach [.Name y p3,e] X.env=(false,eval (.Name y p3) X.env)::starEach [e] X.env:=by rfl) (hs2:starEach [e] X.env=(false,eval e X.env)::starEach [] X.env:=by rfl)
  (hpl:(backTo pos (starEach [e] X.env)).any (·.1)=false:=by rfl) (ck:swapsWith (.Call (.Attribute (.Name x pp) "__init__" zf) [.Name y p3,e] [] pos) none bb.line X.env=pure false:=by rfl)
  (ht:eval (.Call (.Attribute (.Name x pp) "__init__" zf) [.Name y p3,e] [] pos) X.env=(do
   let ov<-eval (.Name x pp) X.env
   standAt zf.atName
   let(f,first)<-holding [ov] (getMethod ov "__init__" pl)
   callWith pos f first (backTo pos (starEach [.Name y p3,e] X.env)) (backToKw pos (keywordEach [] X.env))):=by rfl):
  SD X EX (.Expr (.Call (.Attribute (.Name x pp) "__init__" zf) [.Name y p3,e] [] pos) bb) (ai_9 i c js F fe):=by
 obtain⟨B,C,f,fd,ps,hC,hm,b,ok,hb⟩:=h;refine PS.imp (ak_8 (dj_7 b (hr.mono hk) lk ok hb hm hg hdb (k_9 (Fu hN hv hd hcd) (k_9 he y_5 hs2) hs1) hs1 hpl ht) ck) λD σ H ⟨H0,G0,G,Δ,O,E,q⟩=> ?_;obtain⟨G1,O1,sg,E1⟩:=E.gsome js;unfold ai_9 at q;generalize gsome js Δ=Δ1 at q E1
 split at q
 ·rename_i c' e1
  split at q
  ·rename_i hcc;subst hcc;obtain⟨v0,s1,t0⟩:=E1.ow i _ _ e1 rfl;refine⟨v0,s1,G1,Bb Δ1,E1.st.gh,E1.gsh, ?_⟩;cases e2:fe (Bb Δ1) with
   |ex y=>simp only [e2] at q;exact q σ G1 H O1 E1 sg
   |no=>simp only [e2] at q;exact q.elim
   |ok w=>
    simp only [e2] at q;refine WP.intro λv G2 H2 st r=> ?_;have E2:=E1.grow st;obtain⟨v1,s1',t⟩:=E2.ow i _ _ e1 rfl;rw [s1] at s1';cases s1';have s2:=E2.lt i _ e1
    split at q
    ·rename_i p ef;generalize et:(Tn.obj c' [] [])=tt at t;cases t with
     | @obj a C2 dx c2 ns2 us ts2 S S1 hC2 h hl ha sub rl=>
      injection et with et1 et2 et3
      subst et1 et2 et3;have:=hC.same hC2;subst this;have:us= []:=by cases us with|nil=>rfl|cons _ _=>simp at hl
      subst this;have ga:=(E2.out i a ha).1;refine⟨a,dx,[v],λb=>if b=a then none else H2 b,G2,[w.d],rfl,rfl,if_pos rfl,λb o z=> ?_,h,λb o z=> ?_,.cons r .nil, ?_⟩
      ·simp only at z
       split at z
       ·cases z
       ·exact z
      ·simp only;rw [if_neg (Hg z ga)];exact E2.st.gh b o z
      rw [ef];intro G' H' us' dx' ms g' hx zj rr;have nb:∀b,¬O1 i b->b≠a:=λb nb w=>nb (by rw [w];exact ha);refine q σ G' H' _ (E2.step2 (S:=λb=>b=a) (z:=.lt _) rfl (λ_ z=>by cases z) (λ_ _=>s2) ⟨λb o n z=>ms.hh b o (by rw [if_neg (nb b n)];exact z),ms.gh,ms.gg,λb n z1 z2=>ms.nw b z1 (by rw [if_neg (nb b n)];exact z2)⟩ s1 (λb hb=> ?_) ?_) (sg.trans (st.gg.trans ms.gg))
      ·subst hb;exact⟨.inl ha,g',by rw [hx];simp⟩
      ·exact .obj (S1:=λ_=>False) hC hx zj rfl (λ_ z=>z.elim) (OwL.of rr)
     |_=>cases et
    ·exact q.elim
  ·exact q.elim
 ·exact q.elim
end
def FnBase(K:Frag)(B:Addr)(qual:Str)(st:Stmt):Prop:=∃f,BaseI K B f/\FnAt K "__init__" qual st f
theorem FnBase.mk{B:Addr}{qual:Str}{st:Stmt}{f:Addr}{oc kV dc pm cd ct:Value}{od an:Option Addr}{sl:Array (Option Value)}(s:specialIn K (.ref B) "__getattribute__" =some (some (.builtin "type.__getattribute__")))(r:readsIn K B (.type "type")=true)
  (a:findCls K (.ref B) (.type "type") "__init__" =some (.val (.ref f)))
  (l:K.lookup f=some ⟨oc,od,.func (fnOf "__init__" qual (k_3 st) (Fs st) (Cn st) .none kV dc pm an cd ct),sl⟩) (c:codeIn K cd qual=true) (k:keepIn K (.ref f)=true):FnBase K B qual st:=⟨f,⟨s,r,a,k⟩,FnAt.mk l c k⟩
def Du(tb:List (Str×Bool))(fo:FE):FE:=λ δ=>(fo δ).bind λw=>match w.d with
 | .obj c _ _=>(match tb.lookup c with|some b=> .ok (.sh (.bl b))|none=> .no)
 |_=> .no
structure OInst(K:Frag)(C:Addr):Prop where
 pg:plainGet K C "__class__" =true
 hd:hasDictIn K C=true
 cl:findIn K (.ref C) "__class__" =some (some (.builtin "object.__class__"))
 gs:specialIn K (.builtin "object.__class__") "__get__" =some (some (.builtin "getset_descriptor.__get__"))
 tk:takesIn K (.builtin "object.__class__")=some true
 ob:mroIn K C (.type "object")=some true
def IsOneO(K:Frag)(v:Value)(tb:List (Str×Bool)):Prop:=∀c b,tb.lookup c=some b->∀C,ClsAt K c C->OInst K C/\kitOne K (.ref C) v=some b
def IsOneO.nil{v:Value}:IsOneO K v []:=λ_ _ e=>by cases e
def IsOneO.one{v:Value}{c:Str}{C:Addr}{b:Bool}(a:ClsAt K c C)(x:OInst K C)(h:kitOne K (.ref C) v=some b){tb:List (Str×Bool)}(r:IsOneO K v tb):IsOneO K v ((c,b)::tb):=λc' b' e C' a'=>by
 rw [List.lookup_cons] at e;cases z:(c' ==c) with
 |true=>
  rw [z] at e;cases e;obtain rfl:c'=c:=eq_of_beq z;obtain rfl:=ClsAt.same a a';exact⟨x,h⟩
 |false=>rw [z] at e;exact r c' b' e C' a'
section
variable{X:Cx}{EX:Bq}{zc:List (Addr×Obj)}{σ:Sg}{G H:Hp}{s:Shared}
def dj_8{a:Addr}{c:Str}{ns:List Str}{vs:List D}(I:Inv X zc σ H s)(g:Same G H)(h:Has X.K G (.ref a) (.obj c ns vs)):∃C ox od,ClsAt X.K c C/\InstAt s.heap a ox C (some od):=by
 cases h with
 |obj hc h1 hl r=>
  obtain⟨_,_,_,eo,mA,ns,_⟩:=I.hok a _ (g _ _ h1);obtain⟨od,es,ep,e,_⟩:=ns;exact⟨_,_,od,hc,eo,rfl,rfl,e⟩
def dj_9{C2:Addr}{tb:List (Str×Bool)}(k:IsOneO X.K (.ref C2) tb):Fg X (.builtin "isinstance") (λxs H Q=>∃G x c ns vs b,xs= [x,.ref C2]/\Same G H/\Has X.K G x (.obj c ns vs)/\tb.lookup c=some b/\Q (.bl b) H):=by
 intro zc s σ H xs us Q I rv h;obtain⟨G,x,c,ns,vs,b,rfl,g,r,e,q⟩:=h;obtain⟨u,u2',rfl,r1,rr⟩:=rv.two;obtain rfl:u2'=Value.ref C2:=rr;have fin:∀tk,EP X zc σ Q (.bool b) {s with toks:=tk}:=λtk=>⟨.bl b,H,I.tok _,rfl,q⟩;obtain⟨a,rfl⟩:∃a,x=.ref a:=by cases r <;> exact⟨_,rfl⟩
 obtain rfl:u=Value.ref a:=r1;obtain⟨C,ox,od,hc,io⟩:=dj_8 I g r;obtain⟨xi,ko⟩:=k c b e C hc;exact kia_one (kitx_own xi.pg xi.hd xi.cl xi.gs xi.tk xi.ob) I.kIn io ko (λz=>nomatch z) fin
variable{a:Expr}{fo:FE}{tb:List (Str×Bool)}{pp pos:Pos}
def bw_2{cn:Str}{C2:Addr}{p3:Pos}(k:IsOneO X.K (.ref C2) tb)(ha:ED X EX a fo)(hm:X.mg "isinstance" =none)(hmC:X.mg cn=some (.ref C2))(hg:Gl X "isinstance" :=by rfl)(hgC:Gl X cn:=by rfl)(hdC:(cn ==("__debug__" :Str))=false:=by decide)
  (he:starEach [a,.Name cn p3] X.env=(false,eval a X.env)::starEach [.Name cn p3] X.env:=by rfl) (hpl:(backTo pos (starEach [.Name cn p3] X.env)).any (·.1)=false:=by rfl)
  (hs:starEach [.Name cn p3] X.env=(false,eval (.Name cn p3) X.env)::starEach [] X.env:=by rfl):ED X EX (.Call (.Name "isinstance" pp) [a,.Name cn p3] [] pos) (Du tb fo):=
 PE.imp (be_6 (dj_9 k) hg hm boot_isinstance (k_9 ha (k_9 (bs_6 (v:=.ref C2) hgC hmC rfl hdC) y_5 hs) he) (by decide) (by decide) he hpl) λ σ H Q ⟨G,δ,g0,s0,o⟩=>by
  refine tD.seq g0 s0 o λw v G1 H1 _ st1 r1 o1=> ?_;revert r1 o1;cases w.d with
  |obj c ns vs=>
   intro r1 o1;have o1:Out X.K (EX σ) G1 H1 (match tb.lookup c with|some b=> .ok (.sh (.bl b))|none=> .no) Q:=o1;cases e:tb.lookup c with
   |none=>rw [e] at o1;exact o1.elim
   |some b=>rw [e] at o1;exact⟨G1,v,c,ns,vs,b,rfl,st1.gh,r1,e,WP.use o1 st1.gh (.bl b)⟩
  |_=>intro _ o1;exact False.elim o1
end
section
variable{X:Cx}{EX:Bq}{pos:Pos}
def gNs:List Nat->List D->SE->R SE
 | [],[],Δ=> .ok Δ
 |i::is,d::ds,Δ=>gNs is ds (Δ.set i (.sh d))
 |_,_,_=> .no
def cs_6(is:List Nat):FG:=λd Δ=>match d with
 | .tup ds=>gNs is ds Δ
 |_=> .no
theorem cs_7:∀(is:List Nat) (ds:List D) (Δ Δ':SE),gNs is ds Δ=.ok Δ'->ds.length=is.length
 | [],[],_,_,_=>rfl
 |_::is,_::ds,_,_,e=>congrArg Nat.succ (cs_7 is ds _ _ e)
 | [],_::_,_,_,e=>by cases e
 |_::_,[],_,_,e=>by cases e
def tGs(K:Frag)(is:List Nat):TGs:=λvs σ H Q=>∃H0 G0 G Δ O ds Δ',Ev K H0 G0 G H σ Δ O/\HasL K G vs ds/\gNs is ds Δ=.ok Δ'/\∀σ' G' H' O',Ev K H0 G0 G' H' σ' Δ' O'->Same G G'->Q σ' H'
def ef_9:PGs X [] (tGs X.K []):=λzc s σ H vs us Q I r ⟨H0,G0,G,Δ,O,ds,Δ',E,rl,e,q⟩=>cq_0 zc s σ H vs us Q I r (by
 cases rl with
 |nil=>cases e;exact⟨rfl,q σ G H O E (Same.refl _)⟩
 |cons _ _=>cases e)
def ae_9{i:Nat}{x:Str}{p:Pos}{ts:List Expr}{is:List Nat}(hN:X.N.Nodup)(h2:PGs X ts (tGs X.K is))(hi:X.N[i]? =some x:=by rfl)(hx:Loc X.env.scope x:=by first|exact Or.inl rfl|exact Or.inr rfl)
  (hf:X.fn x=true\/X.env.scope.names.lookup x=some .local:=by first|exact .inl rfl|exact .inr rfl|assumption)
  (hs:(assignEach (.Name x p::ts) X.env).map (·.2)=assign (.Name x p) X.env::(assignEach ts X.env).map (·.2):=by rfl):PGs X (.Name x p::ts) (tGs X.K (i::is)):=
 λzc s σ H vs us Q I r ⟨H0,G0,G,Δ,O,ds,Δ',E,rl,e,q⟩=>be_1 (aq_8 hN hi hx hf) h2 hs zc s σ H vs us Q I r (by
  cases rl with
  |nil=>cases e
  |cons h rl=>exact⟨_,_,rfl,H0,G0,G,_,O,_,Δ',E.put h,rl,e,q⟩)
theorem HasL.len{G:Hp}:∀{vs:List V} {ds:List D},HasL K G vs ds->vs.length=ds.length
 |_,_,.nil=>rfl
 |_,_,.cons _ r=>congrArg Nat.succ r.len
def dv_4{es:List Expr}{is:List Nat}{k:Nat}(hc:X.calm=true)(h:PGs X es (tGs X.K is))(hn:(assignEach es X.env).length=is.length:=by rfl)(hst:(assignEach es X.env).findIdx? (·.1)=none:=by rfl):
  GD X EX (.Tuple es k pos) (cs_6 is):=
 PG.imp (dc_8 hc h hn hst) λv σ H Q ⟨H0,G0,G,Δ,O,d,E,r,q⟩=>by
  cases r with
  | @tup a vs ds h r=>
   simp only [cs_6] at q;cases e:gNs is ds Δ with
   |ok Δ'=>
    rw [e] at q;exact⟨_,_,rfl,Same.tupS E.st.gh h,r.len.trans (cs_7 _ _ _ _ e),H0,G0,G,Δ,O,_,Δ',E,r,e,q⟩
   |ex x=>rw [e] at q;exact q.elim
   |no=>rw [e] at q;exact q.elim
  |_=>exact False.elim q
end
section
variable{P:Program}{w:World}{K:Frag}{mg:Str->Option Value}{base:Heap}{cc:Bool}{k n:Nat}{ps:List Str}{st:Stmt}{Fn:List D->R W}
def Cf{m q c:Str}{C:Addr}(xa:ClsAt K c C)(cl:Cls K C)(W:FnMet K C m q st)(ok:∀{f:Addr} {fd:FuncData},Fun K m q st f fd->FnX P w K mg base cc k f fd ps (Bi K (n + 1) Fn)/\Binds K fd ps []):MethD P w K mg base cc k n m c Fn:=by
 obtain⟨f,a,⟨fd,F⟩,kp,i⟩:=W;exact⟨⟨C,f,fd,ps,xa,cl,⟨a,i,kp⟩,(ok F).1,(ok F).2⟩⟩
def Ce{x:Str}{h:Heap}(X:K.In h)(G:h.Ns mainGlobals mg)(W:FnTop K x st)(ok:∀{f:Addr} {fd:FuncData},Fun K x x st f fd->FnX P w K mg base cc k f fd ps (Bi K ps.length Fn)/\Binds K fd ps []):FnD P w K mg base cc x k ps Fn:=by
 obtain⟨f,a,fd,F⟩:=W;exact ed_8 F (mg_of X G a) (ok F).2 (ok F).1
end
section
variable{P:Program}{w:World}{K:Frag}{mg:Str->Option Value}{base:Heap}{cc:Bool}{j k n:Nat}{ps:List Str}{st:Stmt}{Fn:List D->R W}{C:Addr}{m c q f:Str}
def XB(K:Frag)(C:Addr)(q f:Str)(st:Stmt):Prop:=keepIn K (.ref C)=true/\XCls K C/\findIn K (.ref C) f=some none/\∃(fI:Addr) (fd:FuncData) (o:Obj),XMk K C fI/\K.lookup fI=some o/\o.cls=.type "function" /\Fun K "__init__" q st fI fd
def XB.mk{fI N L:Addr}{nm qn:Str}{bs sub:List Value}{sn:List Str}{ab:Bool}{col:Option Bool}{dd od ddL odL odI an:Option Addr}{k0 k1 k2 k3 k5:Option Value}{oc c0 oL kV dc pm cd ct:Value}{es esL:Array DictEntry}{ep epL:Nat}{sl sl0 slL slI:Array (Option Value)}{cdL:ClassData}
  (lc:K.lookup C=some (excClassObj nm qn C N bs (.ref L::bmVE) true sn sub ab col dd k0 k1 k2 k3 k5 "ValueError.__new__")) (ln:K.lookup N=some ⟨oc,od,.dict es ep,sl⟩) (_:findIn K (.ref C) "__init__" =some (some (.ref fI))) (kn:q_0 es=true) (hi:nsFind es "__init__" =some (.ref fI))
  (ll:K.lookup L=some ⟨c0,ddL,.cls cdL,sl0⟩) (lm:K.lookup cdL.ns=some ⟨oL,odL,.dict esL epL,slL⟩) (km:q_0 esL=true) (hL:nsFind esL "__init__" =none) (sa:findIn K (.ref C) "__setattr__" =some (some (.builtin "object.__setattr__"))) (nf:findIn K (.ref C) f=some none) (kp:keepIn K (.ref C)=true)
  (l:K.lookup fI=some ⟨.type "function",odI,.func (fnOf "__init__" q (k_3 st) (Fs st) (Cn st) .none kV dc pm an cd ct),slI⟩) (cI:codeIn K cd q=true) (kI:keepIn K (.ref fI)=true):XB K C q f st:=
 ⟨kp,du_8 lc sa,nf,fI,_,_,ef_8 lc ln kn hi ll lm km hL,l,rfl,ck_8 l cI kI⟩
def cs_8(xa:ClsAt K c C)(gx:mg c=some (.ref C))(b:XB K C q f st)(ok:∀{fI:Addr} {fd:FuncData},Fun K "__init__" q st fI fd->XCls K C->findIn K (.ref C) f=some none->FnX P w K mg base false 1 fI fd ps (ai_7 C f)/\Binds K fd ps []):XC P w K mg base c f C:=by
 obtain⟨kp,xc,nf,fI,fd,o,mk,l,e,F⟩:=b;exact⟨xa,gx,kp,xc,fI,fd,ps,o,mk,l,e,(ok F xc nf).1,(ok F xc nf).2⟩
def XB0{N L:Addr}{nm qn:Str}{bs sub:List Value}{sn:List Str}{ab:Bool}{col:Option Bool}{dd od ddL odL:Option Addr}{k0 k1 k2 k3 k5:Option Value}{oc c0 oL:Value}{es esL:Array DictEntry}{ep epL:Nat}{sl sl0 slL:Array (Option Value)}{cdL:ClassData}
  (lc:K.lookup C=some (excClassObj nm qn C N bs (.ref L::bmVE) true sn sub ab col dd k0 k1 k2 k3 k5 "ValueError.__new__")) (ln:K.lookup N=some ⟨oc,od,.dict es ep,sl⟩) (kn:q_0 es=true) (hi:nsFind es "__init__" =none)
  (ll:K.lookup L=some ⟨c0,ddL,.cls cdL,sl0⟩) (lm:K.lookup cdL.ns=some ⟨oL,odL,.dict esL epL,slL⟩) (km:q_0 esL=true) (hL:nsFind esL "__init__" =none) (kp:keepIn K (.ref C)=true):keepIn K (.ref C)=true/\XMk0 K C:=⟨kp,dv_3 lc ln kn hi ll lm km hL⟩
def XB9(K:Frag)(C:Addr):Prop:=keepIn K (.ref C)=true/\XMk0 K C
def dk_0(xa:ClsAt K c C)(gx:mg c=some (.ref C))(b:XB9 K C):XC0 K mg c C:=⟨xa,gx,b.1,b.2⟩
def OInst.mm(pg:plainGet K C Str.empty=true)(hd:hasDictIn K C=true)(cl:findIn K (.ref C) "__class__" =some (some (.builtin "object.__class__")))(gs:specialIn K (.builtin "object.__class__") "__get__" =some (some (.builtin "getset_descriptor.__get__")))(tk:takesIn K (.builtin "object.__class__")=some true)(ob:mroIn K C (.type "object")=some true):OInst K C:=⟨pg,hd,cl,gs,tk,ob⟩
def KO(K:Frag)(a b:Addr)(v:Bool):Prop:=kitOne K (.ref a) (.ref b)=some v
def KO.mk{a b:Addr}{v:Bool}(h:kitOne K (.ref a) (.ref b)=some v):KO K a b v:=h
def NoAttr.mk(h:findIn K (.ref C) f=some none):NoAttr K C f:=h
def Cd{tb:List (Str×(List D->R W))}(d:MethD P w K mg base cc j n m c Fn)(r:MethT P w K mg base cc k n m tb)(hj:j<=k:=by decide):MethT P w K mg base cc k n m ((c,Fn)::tb):=.one d hj r
def mtn:MethT P w K mg base cc k n m []:=.nil
def as_5{Fi:List D->R (List Str×List D)}(xa:ClsAt K c C)(gx:mg c=some (.ref C))(ms:makesIn K C=true)(kc:keepIn K (.ref C)=true)(W:FnMet K C "__init__" q st)(ok:∀{f:Addr} {fd:FuncData},Fun K "__init__" q st f fd->FnX P w K mg base cc k f fd ps (spI K C n Fi)/\Binds K fd ps []):Fj P w K mg base cc c k n Fi:=by
 obtain⟨f,a,⟨fd,F⟩,kp,i⟩:=W;exact⟨C,f,fd,ps,xa,gx,⟨ms,a,i,kc⟩,(ok F).1,(ok F).2⟩
end
end L3
namespace My
open PySem L2 L3
def bq_3:FS:=
  (Af (Ag 2 [0,1] (Aj Ed (Aj Ca (Aj By (Ab 0) (eC (.int 1))) (Aj By (eC (.int 48271)) (Aj Ca (eC (.int 118)) (Ab 1)))) (eC (.int 2147483629))))
  (Ao [1,2] (Aj Ed (Aj By (Aj By (Aj Ca (Aj Gm (Ab 2) (eC (.int 977))) (eC (.int 16807))) (Aj Ca (Ab 2) (Aj By (Aj Ca (Ab 1) (Ab 1)) (eC (.int 7))))) (Ab 1)) (eC (.int 2147483587)))))
def y_3:List D->R W:=Ak 3 bq_3
def q_1:FS:=
  (Af (Ag 7 [2,6] (Aj Ed (Ab 6) (Ah Bs (Aa (Ab 2) Ac))))
  (Bv [2,3,7] (Gj (Be (Ab 3)) (An (Aj Ck (Aj Bn (Ab 2) (Ab 7)) (eC (.int 0)))))
   (Ea 5 (At 2 y_3 (Aa (At 2 y_3 (Aa (Aj Ed (Aj Bn (Ab 4) (Ab 7)) (eC (.int 2147483647))) (Aa (Aj By (Ab 6) (eC (.int 7))) Ac))) (Aa (Aj By (Aj Ed (Aj Ca (Ab 6) (Ab 6)) (eC (.int 1009))) (eC (.int 3))) Ac))))
   (Af (Ea 5 (Aj Ed (Aj Bn (Ab 2) (Ab 7)) (eC (.int 2147483587))))
  (as_0 2 (Ab 7) (Aj Gm (Aj Bn (Ab 2) (Ab 7)) (eC (.int 2147483587)))))))
def ay_7:FS:=
  (Af (Ag 2 [0] (Ah ae_7 (Aa (Ab 0) Ac)))
  (Af (Bv [2] (An (Aj Ck (Ab 2) (Ci Ac)))
   (Ag 2 [] (Ci (Aa (eC (.int 0)) Ac)))
   Bf)
  (Af (Ag 3 [2] (Aj Ck (Aj Ed (Aj Bn (Ab 2) (eC (.int 0))) (eC (.int 2))) (eC (.int 1))))
  (Af (as_0 2 (eC (.int 0)) (Aj Gm (Aj Bn (Ab 2) (eC (.int 0))) (eC (.int 2))))
  (Af (ay_6 4 (Ah ae_7 (Aa (Ab 2) Ac)))
  (Af (Ag 5 [] (Ci Ac))
  (Af (Bu [1] (Ax Co (Aa (Ab 1) Ac)) (gV 6) q_1)
  (Bz 5))))))))
def s_9:List D->R W:=Ak 8 ay_7
def o_5:FS:=
  (Af (Ag 7 [6] (Aj Gm (Ab 6) (eC (.int 6))))
  (Af (Ag 5 [3,4,5,7] (Aj By (Ab 5) (Aj Bn (Ab 3) (Aj Ed (Aj Bn (Ab 4) (Ab 7)) (eC (.int 39))))))
  (as_0 4 (Ab 7) (Aj Gm (Aj Bn (Ab 4) (Ab 7)) (eC (.int 39))))))
def r_5:FS:=
  (Af (Ag 3 [] (eC (.str "abcdefghijklmnopqrstuvwxyz0123456789-_ ")))
  (Af (Bv [0] (An (Aj Ck (Aj Ed (Ab 0) (eC (.int 3))) (eC (.int 0))))
   (Ao [0,1] (Aj Ed (Aj By (Aj Gm (Ab 0) (eC (.int 3))) (Aj Ca (eC (.int 700000000)) (Ab 1))) (Aj powD (eC (.int 10)) (eC (.int 18)))))
   Bf)
  (Af (Bv [0] (An (Aj Ck (Aj Ed (Ab 0) (eC (.int 3))) (eC (.int 2))))
   (Ao [0] (Aj Ed (Aj Gm (Ab 0) (eC (.int 3))) (eC (.int 50))))
   Bf)
  (Af (Ag 4 [0,1,2] (Ci (Aa (Aj By (Aj Ca (Aj Gm (Ab 0) (eC (.int 36))) (eC (.int 1500000000))) (Ab 1)) (Aa (Ab 2) Ac))))
  (Af (Ag 5 [] (eC (.str "")))
  (Af (Bu [0] (Ax Co (Aa (Aj Ed (Aj Gm (Ab 0) (eC (.int 3))) (eC (.int 12))) Ac)) (gV 6) o_5)
  (Bz 5)))))))
def i_5:List D->R W:=Ak 8 r_5
def n_3:FS:=
  (Af (Ag 5 [1,4] (Aj By (Ab 1) (Aj Ca (eC (.int 3)) (Ab 4))))
  (Af (Ag 6 [0,5] (At 3 i_5 (Aa (Aj Bn (Ab 0) (Ab 5)) (Aa (Aj Bn (Ab 0) (Aj By (Ab 5) (eC (.int 1)))) (Aa (Aj Bn (Ab 0) (Aj By (Ab 5) (eC (.int 2)))) Ac)))))
  (Bv [3,6] (An (Aj (inD true) (Ab 6) (Ab 3)))
   (Ea 3 (Ab 6))
   Bf)))
def u_8:FS:=
  (Af (Ag 3 [] (Ci Ac))
  (Af (Bu [2] (Ax Co (Aa (Ab 2) Ac)) (gV 4) n_3)
  (Af (Bv [3] (An (Aj Ck (Ab 3) (Ci Ac)))
   (Ag 3 [0,1] (Ci (Aa (Aj Ed (Aj Bn (Ab 0) (Ab 1)) (eC (.int 50))) Ac)))
   Bf)
  (Bz 3))))
def e_2:List D->R W:=Ak 7 u_8
def r_6:FE:=
  (Aj (inD false) (Ab 1) (eC (.str "abcdefghijklmnopqrstuvwxyz0123456789-_ ")))
def am_5:FS:=
  (Ao [0] (eAnd (Aj leD (Ah Bs (Aa (Ab 0) Ac)) (eC (.int 11))) (Ah allD (Aa (Bx 1 (Db (Ab 0)) (gC 1) (λ_=> .ok true) r_6) Ac))))
def q_2:List D->R W:=Ak 1 am_5
def bg_6:FS:=
  (Af (Bv [0] (Be (eIs "bool" (Ab 0)))
   (Ao [] (eC (.bl false)))
   Bf)
  (Af (Bv [0] (Be (eIs "int" (Ab 0)))
   (Ao [0] (ap_3 leD leD (eC (.int 0)) (Ab 0) (eC (.int 999999999999999999))))
   Bf)
  (Ao [0] (eAnd (eIs "str" (Ab 0)) (At 1 q_2 (Aa (Ab 0) Ac))))))
def y_8:List D->R W:=Ak 1 bg_6
def t_8:FS:=
  (Bv [2] (Fa (Be (At 1 y_8 (Aa (Ab 2) Ac))))
   (y_7 "NoKey" "at" [1] (Ab 1))
   Bf)
def ag_1:FS:=
  (Bu [0] (u_5 (Ab 0)) (Gb 1 2) t_8)
def i_6:List D->R W:=Ak 3 ag_1
def n_7:FS:=
  (Af (Bv [1,3] (An (Aj (inK false) (Ab 3) (Ab 1)))
   (y_7 "Twice" "at" [2] (Ab 2))
   Bf)
  (as_3 1 [] (Ab 3) (eC (.bl true))))
def am_6:FS:=
  (Af (Ag 1 [] as_2)
  (Bu [0] (u_5 (Ab 0)) (Gb 2 3) n_7))
def q_3:List D->R W:=Ak 4 am_6
def ay_8:FS:=
  (Af (Bv [0] (Gj (An (Aj Ck (Ah Bs (Aa (Ab 0) Ac)) (eC (.int 0)))) (An (Aj gtD (Ah Bs (Aa (Ab 0) Ac)) (eC (.int 200)))))
   (bw_1 "NoKeys")
   Bf)
  (Af (Cl [0] (At 1 i_6 (Aa (Ab 0) Ac)))
  (Af (Cl [0] (At 1 q_3 (Aa (Ab 0) Ac)))
  (Ao [0] (Ah Bs (Aa (Ab 0) Ac))))))
def j_6:List D->R W:=Ak 1 ay_8
def aj_0:FS:=
  (Af (Bv [1] (An (Aj ltD (Ab 1) (eC (.int 3))))
   (Ao [0] (Aj By (Aj By (Ab 0) (Aj Gm (Ab 0) (eC (.int 8)))) (eC (.int 1))))
   Bf)
  (Ao [0] (Aj By (Aj Gm (Aj Ca (eC (.int 41)) (Ab 0)) (eC (.int 100))) (eC (.int 2)))))
def i_1:List D->R W:=Ak 2 aj_0
def aw_5:FS:=
  (Ag 1 [1,2] (Aj By (Aj By (Aj Ca (eC (.int 40)) (Ab 1)) (Gi "str" cc_1 (eC (.str "abcdefghijklmnopqrstuvwxyz0123456789-_ ")) (Aa (Ab 2) Ac))) (eC (.int 1))))
def cs_9:FS:=
  (Af (Ag 1 [] (eC (.int 0)))
  (Af (Bu [0] (Db (Ab 0)) (gV 2) aw_5)
  (Bz 1)))
def as_6:List D->R W:=Ak 3 cs_9
def bw_3:FS:=
  (Af (Bv [0] (Fa (Be (At 1 y_8 (Aa (Ab 0) Ac))))
   (y_7 "NoKey" "at" [] (eC (.int 0)))
   Bf)
  (Af (Bv [0] (Be (eIs "str" (Ab 0)))
   (Ao [0] (Aj By (Aj Ca (eC (.int 2)) (At 1 as_6 (Aa (Ab 0) Ac))) (eC (.int 1))))
   Bf)
  (Ao [0] (Aj Ca (eC (.int 2)) (Ab 0)))))
def af_0:List D->R W:=Ak 1 bw_3
def ct_0:FS:=
  (Af (Bv [2] (An (Aj Ck (Ab 2) (eC (.int 0))))
   (Ao [] (eC (.int 0)))
   Bf)
  (Af (Ag 3 [1] (Aj By (eC (.int 1)) (Aj Ed (Aj By (Aj Ca (eC (.int 1103515245)) (Ab 1)) (eC (.int 12345))) (Aj subD (eC (.int 2305843009213693951)) (eC (.int 1))))))
  (Af (Ag 4 [1] (Aj Ed (Aj By (Aj Ca (Aj Ca (eC (.int 69069)) (Ab 1)) (Ab 1)) (Aj Ca (eC (.int 7)) (Ab 1))) (eC (.int 2305843009213693951))))
  (Af (Ag 5 [0,3,4] (Aj Ed (Aj By (Aj Ca (Ab 3) (Ab 0)) (Ab 4)) (eC (.int 2305843009213693951))))
  (Ao [2,5] (Aj Ed (Aj By (Ab 5) (Aj Gm (Ab 5) (eC (.int 2147483648)))) (Ab 2)))))))
def al_2:List D->R W:=Ak 6 ct_0
def v_5:FE:=
  (Aj By (Aj Ca (Ab 5) (Ab 3)) (At 3 al_2 (Aa (Ab 4) (Aa (Aj By (Aj Ca (eC (.int 4)) (Ab 1)) (Ab 5)) (Aa (Ab 3) Ac)))))
def ay_9:FS:=
  (Af (Ag 4 [0] (At 1 af_0 (Aa (Ab 0) Ac)))
  (Ao [1,2,3,4] (Ah dg_1 (Aa (Bx 1 (Ax Co (Aa (Ab 2) Ac)) (gC 5) (λ_=> .ok true) v_5) Ac))))
def i_2:List D->R W:=Ak 5 ay_9
def af_1:FE:=
  (At 4 i_2 (Aa (Ab 4) (Aa (Ab 1) (Aa (Ab 2) (Aa (Ab 3) Ac)))))
def bg_7:FS:=
  (Af (Ag 3 [0,2] (At 2 i_1 (Aa (At 1 j_6 (Aa (Ab 0) Ac)) (Aa (Ab 2) Ac))))
  (Ao [0,1,2,3] (Bx 1 (Db (Ab 0)) (gC 4) (λ_=> .ok true) af_1)))
def u_9:List D->R W:=Ak 4 bg_7
def n_8:FS:=
  (Af (Bv [1,4] (An (Aj (inK true) (Ab 4) (Ab 1)))
   (bp_5 1 (Ab 4))
   Bf)
  (bp_4 1 (Ab 4) (Ab 2) (eC (.bl true))))
def n_9:FS:=
  (Bu [3] (Db (Ab 3)) (gV 4) n_8)
def ab_1:FS:=
  (Af (Ag 1 [] as_2)
  (Af (Bu [0] (u_5 (Ab 0)) (Gb 2 3) n_9)
  (Bz 1)))
def q_4:List D->R W:=Ak 5 ab_1
def ab_2:FS:=
  (cs_0 2 (Ab 3) (Ab 0))
def az_0:FS:=
  (Bu [1] (Db (Ab 1)) (gV 3) ab_2)
def o_9:List D->Tn->Option Tn:=cd_1 4 az_0
def af_2:FT:=
  (An (Aj gtD (Ah Bs (Aa (Ab 3) Ac)) (eC (.int 0))))
def v_0:FS:=
  (Af (cd_0 7 3)
  (Bv [2,7] (An (Aj Ck (Ah lenK (Aa (Aj Eu (Ab 2) (Ab 7)) Ac)) (eC (.int 1))))
   (Af (Ag 8 [2,7] (Ah minK (Aa (Aj Eu (Ab 2) (Ab 7)) Ac)))
  (Af (Ea 4 (eTup (Aa (Ab 8) (Aa (Ab 7) Ac))))
  (Af (as_3 5 [] (Ab 8) (eC (.bl true)))
  (Af (bg_0 2 o_9 (Ab 8) (Aj Bn (Ab 0) (Ab 8)))
  (sExt 3 (Aj Bn (Ab 0) (Ab 8)))))))
   Bf))
def n_4:FT:=
  (An (Aj (inK true) (Ab 9) (Ab 5)))
def cf_7:FS:=
  (Af (Ag 2 [0] (At 1 q_4 (Aa (Ab 0) Ac)))
  (Af (ay_6 3 (Ah cs_2 (Aa (Ab 2) Ac)))
  (Af (Ag 4 [] (Ci Ac))
  (Af (Ag 5 [] as_2)
  (Af (Gy [3] af_2 v_0 3000)
  (Af (Ag 6 [0,5] (Bx 1 (Ax Co (Aa (Ah Bs (Aa (Ab 0) Ac)) Ac)) (gC 9) n_4 (Ab 9)))
  (di_2 4 6)))))))
def as_7:List D->R W:=Ak 9 cf_7
def dk_1:FS:=
  (Af (Ag 3 [0,1,2] (At 3 u_9 (Aa (Ab 0) (Aa (Ab 1) (Aa (Ab 2) Ac)))))
  (Ao [0,2,3] (At 2 as_7 (Aa (Ab 3) (Aa (Aj Ca (Ab 2) (At 2 i_1 (Aa (Ah Bs (Aa (Ab 0) Ac)) (Aa (Ab 2) Ac)))) Ac)))))
def Gv:List D->R W:=Ak 4 dk_1
def bg_8:FS:=
  (Af (Ag 3 [0,1,2] (Aj Bn (At 3 Gv (Aa (Ab 0) (Aa (Ab 1) (Aa (Ab 2) Ac)))) (eC (.int 1))))
  (Ao [3] (Aj Ck (Ah Bs (Aa (Ab 3) Ac)) (eC (.int 0)))))
def g_0:List D->R W:=Ak 4 bg_8
def o_3:FS:=
  (Bv [0,1,3] (Be (At 3 g_0 (Aa (Ab 0) (Aa (Ab 3) (Aa (Ab 1) Ac)))))
   (Bz 3)
   Bf)
def aj_1:FS:=
  (Af (Cl [0] (At 1 j_6 (Aa (Ab 0) Ac)))
  (Af (Bu [2] (Ax Co (Aa (Ab 2) Ac)) (gV 3) o_3)
  (bw_1 "NoTry")))
def Dq:List D->R W:=Ak 4 aj_1
def l_2:FS:=
  (as_3 3 [5] (Ab 4) (Ab 5))
def t_9:FE:=
  (Aj Eu (Ab 3) (Ab 6))
def ag_2:FS:=
  (Af (Ag 3 [] as_2)
  (Af (Bu [0,1,2] (Db (Aj Bn (At 3 Gv (Aa (Ab 0) (Aa (Ab 1) (Aa (Ab 2) Ac)))) (eC (.int 0)))) (Gb 4 5) l_2)
  (Ao [0,3] (Bx 1 (Ax Co (Aa (Ah Bs (Aa (Ab 0) Ac)) Ac)) (gC 6) (λ_=> .ok true) t_9))))
def o_0:List D->R W:=Ak 6 ag_2
def ap_7:FS:=
  (Ao [0,1] (eAnd (eNot (eIs "bool" (Ab 0))) (ap_3 leD ltD (eC (.int 0)) (Ab 0) (Ab 1))))
def l_7:List D->R W:=Ak 2 ap_7
def az_1:FS:=
  (Ao [0,1] (eIf (An (Aj Ck (Ab 1) (eC (.int 0)))) (eC (.int 0)) (Aj Ed (Ab 0) (Ab 1))))
def t_0:List D->R W:=Ak 2 az_1
def y_9:FE:=
  (Aj Bn (Ab 0) (Ab 4))
def z_0:FT:=
  (Be (At 2 l_7 (Aa (Ab 4) (Aa (Ah Bs (Aa (Ab 0) Ac)) Ac))))
def cf_8:FS:=
  (Af (Ag 3 [0,1] (Bx 1 (Db (Ab 1)) (gC 4) z_0 y_9))
  (Ao [2,3] (At 2 t_0 (Aa (Ah sumD (Aa (Ab 3) Ac)) (Aa (Ab 2) Ac)))))
def p_0:List D->R W:=Ak 4 cf_8
def ap_8:FS:=
  (Af (Ag 8 [0,3,4,5,6] (Aj subD (Aj Bn (Ab 3) (Ab 6)) (At 3 p_0 (Aa (Ab 5) (Aa (Aj Bn (Ab 0) (Ab 6)) (Aa (Ab 4) Ac))))))
  (Bv [1,7] (Be (At 2 l_7 (Aa (Ab 7) (Aa (Ab 1) Ac))))
   (cr_7 5 [4,8] (Ab 7) (At 2 t_0 (Aa (Ab 8) (Aa (Ab 4) Ac))))
   Bf))
def cf_9:FS:=
  (Af (Ag 5 [1] (eRep (Aa (eC (.int 0)) Ac) (Ab 1)))
  (Af (Bu [2] (iRev (Ab 2)) (Gb 6 7) ap_8)
  (Bz 5)))
def aj_2:List D->R W:=Ak 9 cf_9
def aw_6:FS:=
  (Af (Cp 0 ["Table"] "by_salt" [1] (Ab 1))
  (Af (Cp 0 ["Table"] "kind" [2] (Ab 2))
  (Af (Cp 0 ["Table"] "part" [3] (Ab 3))
  (Af (Cp 0 ["Table"] "modulus" [4] (Ab 4))
  (Cp 0 ["Table"] "listed" [5] (Ab 5))))))
def aa_2:List D->R (List Str×List D):=Go 6 "Table" aw_6
def az_2:FS:=
  (Af (Ag 5 [0,2] (At 2 i_1 (Aa (Ah Bs (Aa (Ab 0) Ac)) (Aa (Ab 2) Ac))))
  (Af (Ag 6 [0,1,2] (At 3 u_9 (Aa (Ab 0) (Aa (Ab 1) (Aa (Ab 2) Ac)))))
  (Af (Ag 7 [0,1,2] (Aj Bn (At 3 Gv (Aa (Ab 0) (Aa (Ab 1) (Aa (Ab 2) Ac)))) (eC (.int 0))))
  (Ao [1,2,3,4,5,6,7] (Fb "Table" 5 aa_2 (Aa (Ab 1) (Aa (Ab 2) (Aa (Ab 5) (Aa (Ab 3) (Aa (At 5 aj_2 (Aa (Ab 6) (Aa (Aj Ca (Ab 2) (Ab 5)) (Aa (Ab 7) (Aa (Ab 4) (Aa (Ab 3) Ac)))))) Ac))))))))))
def g_8:List D->R W:=Ak 8 az_2
def o_6:FE:=
  (eIf (An (Aj (inD false) (Ab 2) (Ab 0))) (eC (.str "1")) (eC (.str "0")))
def ag_3:FS:=
  (Ao [0,1] (Gi "str" ar_9 (eC (.str "")) (Aa (Bx 1 (Ax Co (Aa (Ab 1) Ac)) (gC 2) (λ_=> .ok true) o_6) Ac)))
def k_7:List D->R W:=Ak 2 ag_3
abbrev La:List Str:=["Peeled","Ordered","Kept","Marked","PeeledAgain","OrderedAgain","KeptAgain","MarkedAgain"]
def ac_7:FS:=
  (Cp 0 La "how_many" [1] (Ab 1))
def e_9:List D->R (List Str×List D):=Go 2 "Peeled" ac_7
def i_8:FE:=
  (Aj Gm (Ab 7) (Ab 5))
abbrev Le:List Str:=["Peeled","PeeledAgain"]
def u_0:FS:=
  (Af (Ag 4 [1,2,3] (At 3 Dq (Aa (Ab 1) (Aa (Ab 2) (Aa (Ab 3) Ac)))))
  (Af (ai_9 0 "Peeled" [1] e_9 (Ah Bs (Aa (Ab 1) Ac)))
  (Af (Ag 5 [1,2] (At 2 i_1 (Aa (Ah Bs (Aa (Ab 1) Ac)) (Aa (Ab 2) Ac))))
  (Af (Ag 6 [1,2,4] (At 3 o_0 (Aa (Ab 1) (Aa (Ab 4) (Aa (Ab 2) Ac)))))
  (Af (Cp 0 La "own_table" [1,2,4,5,6] (At 5 g_8 (Aa (Ab 1) (Aa (Ab 4) (Aa (Ab 2) (Aa (Ab 2) (Aa (Bx 1 (Db (Ab 6)) (gC 7) (λ_=> .ok true) i_8) Ac)))))))
  (Cp 0 Le "used_row" [2,5,6] (At 2 k_7 (Aa (Ab 6) (Aa (Aj Ca (Ab 2) (Ab 5)) Ac)))))))))
def w_0:List D->R (List Str×List D):=Go 7 "Peeled" u_0
def ab_4:FS:=
  (Cp 0 La "how_many" [1] (Ab 1))
def e_3:List D->R (List Str×List D):=Go 2 "Ordered" ab_4
def s_3:FS:=
  (Af (Ag 4 [1,2,3] (At 3 Dq (Aa (Ab 1) (Aa (Ab 2) (Aa (Ab 3) Ac)))))
  (Af (ai_9 0 "Ordered" [1] e_3 (Ah Bs (Aa (Ab 1) Ac)))
  (Cp 0 La "own_table" [1,2,4] (At 5 g_8 (Aa (Ab 1) (Aa (Ab 4) (Aa (Ab 2) (Aa (Ah Bs (Aa (Ab 1) Ac)) (Aa (Gw Co (Aa (Ah Bs (Aa (Ab 1) Ac)) Ac)) Ac)))))))))
def t_1:List D->R (List Str×List D):=Go 5 "Ordered" s_3
def ap_9:FS:=
  (Ag 1 [1] (Aj Ca (Ab 1) (eC (.int 2))))
def cg_0:FS:=
  (Af (Ag 1 [] (eC (.int 1)))
  (Af (Bu [0] (Ax Co (Aa (Ab 0) Ac)) (gV 2) ap_9)
  (Bz 1)))
def m_5:List D->R W:=Ak 3 cg_0
def o_1:FS:=
  (Bv [1,2,3,4] (Gj (An (Aj geD (Ab 3) (Ab 1))) (Fa (Be (At 2 l_7 (Aa (Ab 4) (Aa (Ab 2) Ac))))))
   (y_7 "NoValue" "at" [3] (Ab 3))
   Bf)
def am_7:FS:=
  (Af (Bu [0] (u_5 (Ab 0)) (Gb 3 4) o_1)
  (Bv [0,1] (An (Aj ltD (Ah Bs (Aa (Ab 0) Ac)) (Ab 1)))
   (y_7 "NoValue" "at" [0] (Ah Bs (Aa (Ab 0) Ac)))
   Bf))
def j_7:List D->R W:=Ak 5 am_7
abbrev Lb:List Str:=["Kept","Marked","KeptAgain","MarkedAgain"]
def w_7:FS:=
  (Af (Ag 6 [3] (At 1 m_5 (Aa (Ab 3) Ac)))
  (Af (Cp 0 La "how_many" [1] (At 1 j_6 (Aa (Ab 1) Ac)))
  (Af (Cl [1,2,6] (At 3 j_7 (Aa (Ab 2) (Aa (Ah Bs (Aa (Ab 1) Ac)) (Aa (Ab 6) Ac)))))
  (Af (Ag 7 [1,4,5] (At 3 Dq (Aa (Ab 1) (Aa (Ab 4) (Aa (Ab 5) Ac)))))
  (Af (Cp 0 Lb "width" [3] (Ab 3))
  (Cp 0 La "own_table" [1,2,4,6,7] (At 5 g_8 (Aa (Ab 1) (Aa (Ab 7) (Aa (Ab 4) (Aa (Ab 6) (Aa (Ab 2) Ac))))))))))))
def aj_3:List D->R (List Str×List D):=Go 8 "Kept" w_7
def dk_2:FS:=
  (Ao [0,1] (At 3 al_2 (Aa (At 1 af_0 (Aa (Ab 0) Ac)) (Aa (eC (.int 3)) (Aa (At 1 m_5 (Aa (Ab 1) Ac)) Ac)))))
def aq_0:List D->R W:=Ak 2 dk_2
def m_1:FE:=
  (At 2 aq_0 (Aa (Ab 6) (Aa (Ab 2) Ac)))
def u_1:FS:=
  (Af (Ag 5 [1,3,4] (At 3 Dq (Aa (Ab 1) (Aa (Ab 3) (Aa (Ab 4) Ac)))))
  (Af (Cp 0 La "how_many" [1] (Ah Bs (Aa (Ab 1) Ac)))
  (Af (Cp 0 Lb "width" [2] (Ab 2))
  (Cp 0 La "own_table" [1,2,3,5] (At 5 g_8 (Aa (Ab 1) (Aa (Ab 5) (Aa (Ab 3) (Aa (At 1 m_5 (Aa (Ab 2) Ac)) (Aa (Bx 1 (Db (Ab 1)) (gC 6) (λ_=> .ok true) m_1) Ac))))))))))
def w_1:List D->R (List Str×List D):=Go 6 "Marked" u_1
def f_4:FS:=
  (Bv [0] (An (Aj Ck (Ab 0) (eC (.int 0))))
   (Ag 6 [1,4,5] (Fb "Peeled" 3 w_0 (Aa (Ab 1) (Aa (Ab 4) (Aa (Ab 5) Ac)))))
   (Bv [0] (An (Aj Ck (Ab 0) (eC (.int 1))))
   (Ag 6 [1,4,5] (Fb "Ordered" 3 t_1 (Aa (Ab 1) (Aa (Ab 4) (Aa (Ab 5) Ac)))))
   (Bv [0] (An (Aj Ck (Ab 0) (eC (.int 2))))
   (Ag 6 [1,2,3,4,5] (Fb "Kept" 5 aj_3 (Aa (Ab 1) (Aa (Ab 2) (Aa (Ab 3) (Aa (Ab 4) (Aa (Ab 5) Ac)))))))
   (Ag 6 [1,3,4,5] (Fb "Marked" 4 w_1 (Aa (Ab 1) (Aa (Ab 3) (Aa (Ab 4) (Aa (Ab 5) Ac)))))))))
def af_3:FS:=
  (Ag 6 [] (eC .non))
abbrev L96:List (Str×Bool):=[("NoBits",false),("NoKey",false),("NoKeys",false),("NoTry",true),("NoValue",false),("Twice",false)]
def aq_1:FS:=
  (Af (Ag 6 [] (eC .non))
  (Af (bg_4 f_4 [⟨none, L96,af_3⟩])
  (Bz 6)))
def s_4:List D->R W:=Ak 7 aq_1
def am_8:FS:=
  (Ao [0,1] (Gi "str" bf_3 (Gg (Ab 0) oNone (Ey (Ah maxD (Aa (Ab 1) (Aa (eC (.int 0)) Ac))))) (Aa (eC (.str "1")) Ac)))
def o_4:List D->R W:=Ak 2 am_8
def aj_4:FS:=
  (Ao [0,1] (At 4 i_2 (Aa (Ab 1) (Aa (Bt ["Table"] "by_salt" (Ab 0)) (Aa (Bt ["Table"] "kind" (Ab 0)) (Aa (Bt ["Table"] "part" (Ab 0)) Ac))))))
def f_0:List D->R W:=Ak 2 aj_4
def ag_4:FS:=
  (Ao [0,1] (Bp "places" 1 [("Table",f_0)] (Bt La "own_table" (Ab 0)) (Aa (Ab 1) Ac)))
def d_0:List D->R W:=Ak 2 ag_4
def am_9:FS:=
  (Ao [0,1] (At 3 p_0 (Aa (Bt ["Table"] "listed" (Ab 0)) (Aa (Bp "places" 1 [("Table",f_0)] (Ab 0) (Aa (Ab 1) Ac)) (Aa (Bt ["Table"] "modulus" (Ab 0)) Ac)))))
def c_6:List D->R W:=Ak 2 am_9
abbrev J12:List (Str×(List D->R W)):=[("Peeled",d_0),("PeeledAgain",d_0)]
def z_1:FS:=
  (Af (Ag 2 [0,1] (Aj Bn (Bp "places" 1 J12 (Ab 0) (Aa (Ab 1) Ac)) (Bp "total" 1 [("Table",c_6)] (Bt La "own_table" (Ab 0)) (Aa (Ab 1) Ac))))
  (Ao [0,2] (At 2 o_4 (Aa (Bt Le "used_row" (Ab 0)) (Aa (Ab 2) Ac)))))
def c_2:List D->R W:=Ak 3 z_1
def x_2:FS:=
  (Ao [0,1] (Bp "total" 1 [("Table",c_6)] (Bt La "own_table" (Ab 0)) (Aa (Ab 1) Ac)))
def c_1:List D->R W:=Ak 2 x_2
abbrev L98:List (Str×(List D->R W)):=[("Peeled",c_2),("Ordered",c_1),("PeeledAgain",c_2),("OrderedAgain",c_1)]
def an_0:FS:=
  (Ao [0,1] (Ah minD (Aa (Bp "number_of" 1 L98 (Ab 0) (Aa (Ab 1) Ac)) (Aa (Aj subD (Bt La "how_many" (Ab 0)) (eC (.int 1))) Ac))))
def b_5:List D->R W:=Ak 2 an_0
abbrev J10:List (Str×(List D->R W)):=[("Peeled",b_5),("Ordered",b_5),("PeeledAgain",b_5),("OrderedAgain",b_5)]
def ac_8:FE:=
  (Bp "room" 1 J10 (Ab 0) (Aa (Ab 2) Ac))
def aj_5:FS:=
  (Af (Cl [1] (At 1 i_6 (Aa (Ab 1) Ac)))
  (Ao [0,1] (Bx 1 (Db (Ab 1)) (gC 2) (λ_=> .ok true) ac_8)))
def b_4:List D->R W:=Ak 2 aj_5
def as_8:FS:=
  (Ao [0,1] (Bp "total" 1 [("Table",c_6)] (Bt La "own_table" (Ab 0)) (Aa (Ab 1) Ac)))
def f_5:List D->R W:=Ak 2 as_8
def aj_6:FS:=
  (Ao [0,1] (Aj Ck (Bp "total" 1 [("Table",c_6)] (Bt La "own_table" (Ab 0)) (Aa (Ab 1) Ac)) (At 2 aq_0 (Aa (Ab 1) (Aa (Bt Lb "width" (Ab 0)) Ac)))))
def d_7:List D->R W:=Ak 2 aj_6
abbrev J15:List (Str×(List D->R W)):=[("Kept",f_5),("KeptAgain",f_5)]
def ag_5:FE:=
  (Bp "value" 1 J15 (Ab 0) (Aa (Ab 3) Ac))
abbrev J13:List (Str×(List D->R W)):=[("Marked",d_7),("MarkedAgain",d_7)]
def ag_6:FE:=
  (Bp "knows" 1 J13 (Ab 0) (Aa (Ab 3) Ac))
abbrev J11:List (Str×(List D->R W)):=[("Peeled",b_4),("Ordered",b_4),("PeeledAgain",b_4),("OrderedAgain",b_4)]
def v_6:FS:=
  (Af (Bv [1] (An (Aj ltD (Ab 1) (eC (.int 2))))
   (Ao [0,2] (Bp "rooms" 1 J11 (Ab 0) (Aa (Ah ae_7 (Aa (Ab 2) Ac)) Ac)))
   Bf)
  (Af (Bv [1] (An (Aj Ck (Ab 1) (eC (.int 2))))
   (Ao [0,2] (Bx 1 (Db (Ab 2)) (gC 3) (λ_=> .ok true) ag_5))
   Bf)
  (Ao [0,2] (Bx 1 (Db (Ab 2)) (gC 3) (λ_=> .ok true) ag_6))))
def c_8:List D->R W:=Ak 3 v_6
def bq_4:FS:=
  (Ao [0,1,2] (Aj Bn (Ci (Aa (eC .non) (Aa (Gw Co (Aa (Ah Bs (Aa (Ab 1) Ac)) Ac)) (Aa (Ab 2) (Aa (eRep (Aa (eC (.bl true)) Ac) (Ah Bs (Aa (Ab 1) Ac))) Ac))))) (Ab 0)))
def v_1:List D->R W:=Ak 3 bq_4
def s_5:FS:=
  (Af (Ag 2 [2,3] (Aj By (Ah cr_4 (Aa (Aj Ed (Ab 3) (eC (.int 2))) Ac)) (Ab 2)))
  (Ag 3 [3] (Aj Gm (Ab 3) (eC (.int 2)))))
def ac_9:FS:=
  (Af (Ag 2 [] (eC (.str "")))
  (Af (Ag 3 [0] (Ab 0))
  (Af (Bu [1] (Ax Co (Aa (Ab 1) Ac)) (gV 4) s_5)
  (Bz 2))))
def m_6:List D->R W:=Ak 5 ac_9
def aj_7:FS:=
  (Bv [2,4] (Fa (Be (At 2 l_7 (Aa (Ab 4) (Aa (Ab 2) Ac)))))
   (y_7 "NoBits" "at" [3] (Ab 3))
   Bf)
def aa_3:FE:=
  (At 2 m_6 (Aa (Ab 5) (Aa (Ab 1) Ac)))
def bq_5:FS:=
  (Af (Ag 2 [1] (At 1 m_5 (Aa (Ab 1) Ac)))
  (Af (Bu [0] (u_5 (Ab 0)) (Gb 3 4) aj_7)
  (Ao [0,1] (Gi "str" ar_9 (eC (.str "")) (Aa (Bx 1 (Db (Ab 0)) (gC 5) (λ_=> .ok true) aa_3) Ac)))))
def ad_0:List D->R W:=Ak 5 bq_5
def bl_5:FS:=
  (Ao [0] (Ah ae_7 (Aa (Bt ["Table"] "listed" (Ab 0)) Ac)))
def j_8:List D->R W:=Ak 1 bl_5
def bg_9:FS:=
  (Ao [0] (Bp "table" 0 [("Table",j_8)] (Bt La "own_table" (Ab 0)) Ac))
def d_8:List D->R W:=Ak 1 bg_9
def bb_8:FS:=
  (Ao [0] (Bp "table" 0 [("Table",j_8)] (Bt La "own_table" (Ab 0)) Ac))
def d_1:List D->R W:=Ak 1 bb_8
def bw_4:FS:=
  (Ao [0] (Bp "table" 0 [("Table",j_8)] (Bt La "own_table" (Ab 0)) Ac))
def f_6:List D->R W:=Ak 1 bw_4
def bh_0:FS:=
  (Ao [0] (Bp "table" 0 [("Table",j_8)] (Bt La "own_table" (Ab 0)) Ac))
def d_9:List D->R W:=Ak 1 bh_0
def bl_6:FS:=
  (Ao [0] (Bt La "how_many" (Ab 0)))
def b_6:List D->R W:=Ak 1 bl_6
def cg_1:FS:=
  (Ao [0] (Bt La "how_many" (Ab 0)))
def g_9:List D->R W:=Ak 1 cg_1
def bl_7:FS:=
  (Ao [0] (Bt La "how_many" (Ab 0)))
def e_4:List D->R W:=Ak 1 bl_7
def bw_5:FS:=
  (Ao [0] (Bt ["Table"] "by_salt" (Ab 0)))
def l_3:List D->R W:=Ak 1 bw_5
def bl_8:FS:=
  (Ao [0] (Bp "salt" 0 [("Table",l_3)] (Bt La "own_table" (Ab 0)) Ac))
def g_2:List D->R W:=Ak 1 bl_8
def bh_1:FS:=
  (Ao [0] (Bp "salt" 0 [("Table",l_3)] (Bt La "own_table" (Ab 0)) Ac))
def f_1:List D->R W:=Ak 1 bh_1
def cg_2:FS:=
  (Ao [0] (Bp "salt" 0 [("Table",l_3)] (Bt La "own_table" (Ab 0)) Ac))
def i_3:List D->R W:=Ak 1 cg_2
def bl_9:FS:=
  (Ao [0] (Bp "salt" 0 [("Table",l_3)] (Bt La "own_table" (Ab 0)) Ac))
def g_3:List D->R W:=Ak 1 bl_9
abbrev L90:List (Str×(List D->R W)):=[("Peeled",d_8),("Ordered",d_1),("Kept",f_6),("Marked",d_9),("PeeledAgain",d_8),("OrderedAgain",d_1),("KeptAgain",f_6),("MarkedAgain",d_9)]
abbrev L91:List (Str×(List D->R W)):=[("Peeled",b_6),("Ordered",b_6),("Kept",g_9),("Marked",e_4),("PeeledAgain",b_6),("OrderedAgain",b_6),("KeptAgain",g_9),("MarkedAgain",e_4)]
abbrev L97:List (Str×(List D->R W)):=[("Peeled",g_2),("Ordered",f_1),("Kept",i_3),("Marked",g_3),("PeeledAgain",g_2),("OrderedAgain",f_1),("KeptAgain",i_3),("MarkedAgain",g_3)]
def bq_6:FS:=
  (Af (Ag 4 [1,2] (At 2 ad_0 (Aa (Bp "table" 0 L90 (Ab 1) Ac) (Aa (Ab 2) Ac))))
  (Ao [0,1,2,3,4] (eTup (Aa (Ab 0) (Aa (Bt ["Table"] "kind" (Bt La "own_table" (Ab 1))) (Aa (Bp "salt" 0 L97 (Ab 1) Ac) (Aa (Bp "many" 0 L91 (Ab 1) Ac) (Aa (Ab 2) (Aa (Ab 4) (Aa (Ab 3) Ac))))))))))
def k_8:List D->R W:=Ak 5 bq_6
def cg_3:FS:=
  (Ao [0] (Ah maxD (Aa (eMeth0 "int" dg_9 (Aj subD (Ab 0) (eC (.int 1)))) (Aa (eC (.int 1)) Ac))))
def n_0:List D->R W:=Ak 1 cg_3
def bm_0:FS:=
  (Ao [0] (Bt Le "used_row" (Ab 0)))
def g_4:List D->R W:=Ak 1 bm_0
abbrev L92:List (Str×Bool):=[("Peeled",true),("Ordered",false),("Kept",false),("Marked",false),("PeeledAgain",true),("OrderedAgain",false),("KeptAgain",false),("MarkedAgain",false)]
abbrev L93:List (Str×Bool):=[("Peeled",false),("Ordered",true),("Kept",false),("Marked",false),("PeeledAgain",false),("OrderedAgain",true),("KeptAgain",false),("MarkedAgain",false)]
abbrev L94:List (Str×Bool):=[("Peeled",false),("Ordered",false),("Kept",true),("Marked",false),("PeeledAgain",false),("OrderedAgain",false),("KeptAgain",true),("MarkedAgain",false)]
abbrev L95:List (Str×Bool):=[("Peeled",false),("Ordered",false),("Kept",false),("Marked",true),("PeeledAgain",false),("OrderedAgain",false),("KeptAgain",false),("MarkedAgain",true)]
abbrev J14:List (Str×(List D->R W)):=[("Peeled",g_4),("PeeledAgain",g_4)]
def u_2:FS:=
  (Af (Bv [0] (Be (Du L92 (Ab 0)))
   (Ao [0] (At 4 k_8 (Aa (eC (.str "peeled")) (Aa (Ab 0) (Aa (At 1 n_0 (Aa (Bt ["Table"] "kind" (Bt La "own_table" (Ab 0))) Ac)) (Aa (Bp "used" 0 J14 (Ab 0) Ac) Ac))))))
   Bf)
  (Af (Bv [0] (Be (Du L93 (Ab 0)))
   (Ao [0] (At 4 k_8 (Aa (eC (.str "ordered")) (Aa (Ab 0) (Aa (At 1 n_0 (Aa (Bp "many" 0 L91 (Ab 0) Ac) Ac)) (Aa (eC (.str "")) Ac))))))
   Bf)
  (Af (Bv [0] (Be (Du L94 (Ab 0)))
   (Ao [0] (At 4 k_8 (Aa (eC (.str "kept")) (Aa (Ab 0) (Aa (Bt Lb "width" (Ab 0)) (Aa (eC (.str "")) Ac))))))
   Bf)
  (Af (Bv [0] (Be (Du L95 (Ab 0)))
   (Ao [0] (At 4 k_8 (Aa (eC (.str "marked")) (Aa (Ab 0) (Aa (Bt Lb "width" (Ab 0)) (Aa (eC (.str "")) Ac))))))
   Bf)
  (Ao [] (eC .non))))))
def d_4:List D->R W:=Ak 1 u_2
def ab_5:FS:=
  (Ag 12 [12,13] (Aj By (Aj Ca (eC (.int 2)) (Ab 12)) (Gi "str" av_7 (eC (.str "01")) (Aa (Ab 13) Ac))))
def q_5:FS:=
  (Af (Ag 12 [] (eC (.int 0)))
  (Af (Bu [4,9,10] (Db (Gg (Ab 10) (Ey (Ab 4)) (Ey (Aj By (Ab 4) (Ab 9))))) (gV 13) ab_5)
  (Ea 3 (Ab 12))))
def az_3:FS:=
  (Af (sUnp (cs_6 [5,6,7,8,9,10,11]) [0] (Ab 0))
  (Af (Ag 2 [1,6] (Aj Bn (Ci (Aa (Aj By (Aj By (Ab 1) (Aj Gm (Ab 1) (eC (.int 8)))) (eC (.int 1))) (Aa (Aj By (Aj Gm (Aj Ca (eC (.int 41)) (Ab 1)) (eC (.int 100))) (eC (.int 2))) Ac))) (Aj subD (Ab 6) (eC (.int 2)))))
  (Af (Bv [1,2,6,8,9,10] (Gj (An (Aj Dg (Ah Bs (Aa (Ab 10) Ac)) (Aj Ca (Aj Ca (Ab 9) (Ab 6)) (Ab 2)))) (An (Aj Dg (Ab 8) (Ab 1))))
   (Ao [] (eC .non))
   Bf)
  (Af (Ag 3 [] (Ci Ac))
  (Af (Bu [9,10] (Ax Gs (Aa (eC (.int 0)) (Aa (Ah Bs (Aa (Ab 10) Ac)) (Aa (Ab 9) Ac)))) (gV 4) q_5)
  (Bz 3))))))
def t_2:List D->R W:=Ak 14 az_3
def an_1:FS:=
  (Af (Bv [1] (An (Aj ltD (Ab 1) (eC (.int 1))))
   (Ao [0] (Aj Ck (Ab 0) (eC (.int 0))))
   Bf)
  (Ao [0,1] (Aj Ck (Aj Ed (Ab 0) (Ab 1)) (eC (.int 0)))))
def q_6:List D->R W:=Ak 2 an_1
def ab_6:FS:=
  (Bv [3] (Ez (An (Aj Dg (Ab 3) (eC (.str "0")))) (An (Aj Dg (Ab 3) (eC (.str "1")))))
   (y_7 "NoBits" "at" [2] (Ab 2))
   Bf)
def az_4:FS:=
  (Af (Bu [0] (u_5 (Ab 0)) (Gb 2 3) ab_6)
  (Bv [0,1] (Fa (Be (At 2 q_6 (Aa (Ah Bs (Aa (Ab 0) Ac)) (Aa (Ab 1) Ac)))))
   (y_7 "NoBits" "at" [0] (Ah Bs (Aa (Ab 0) Ac)))
   Bf))
def w_2:List D->R W:=Ak 4 az_4
def w_8:FS:=
  (Ag 1 [1,2] (Aj By (Aj Ca (eC (.int 2)) (Ab 1)) (eIf (An (Aj Ck (Ab 2) (eC (.str "1")))) (eC (.int 1)) (eC (.int 0)))))
def an_2:FS:=
  (Af (Ag 1 [] (eC (.int 0)))
  (Af (Bu [0] (Db (Ab 0)) (gV 2) w_8)
  (Bz 1)))
def q_7:List D->R W:=Ak 3 an_2
def q_8:FT:=
  (An (Aj ltD (Ab 3) (Ah Bs (Aa (Ab 0) Ac))))
def v_7:FS:=
  (Af (Ea 2 (At 1 q_7 (Aa (Gg (Ab 0) (Ey (Ab 3)) (Ey (Aj By (Ab 3) (Ab 1)))) Ac)))
  (Ag 3 [1,3] (Aj By (Ab 3) (Ab 1))))
def az_5:FS:=
  (Af (Cl [0,1] (At 2 w_2 (Aa (Ab 0) (Aa (Ab 1) Ac))))
  (Af (Ag 2 [] (Ci Ac))
  (Af (Ag 3 [] (eC (.int 0)))
  (Af (Gy [0,3] q_8 v_7 3000)
  (Bz 2)))))
def w_3:List D->R W:=Ak 4 az_5
def ag_7:FS:=
  (Ao [0,1,2] (eIf (An (Aj gtD (Ab 1) (eC (.int 0)))) (At 2 w_3 (Aa (Ab 0) (Aa (Ab 1) Ac))) (eRep (Aa (eC (.int 0)) Ac) (Ab 2))))
def o_2:List D->R W:=Ak 3 ag_7
def af_4:FS:=
  (Af (Cp 0 La "how_many" [1] (Ab 1))
  (Af (Cp 0 La "own_table" [2] (Ab 2))
  (Cp 0 Le "used_row" [3] (Ab 3))))
def q_9:List D->R (List Str×List D):=Go 4 "PeeledAgain" af_4
def ad_1:FS:=
  (Af (Cp 0 La "how_many" [1] (Ab 1))
  (Cp 0 La "own_table" [2] (Ab 2)))
def p_1:List D->R (List Str×List D):=Go 3 "OrderedAgain" ad_1
def aj_8:FS:=
  (Af (Cp 0 La "how_many" [1] (Ab 1))
  (Af (Cp 0 La "own_table" [2] (Ab 2))
  (Cp 0 Lb "width" [3] (Ab 3))))
def w_4:List D->R (List Str×List D):=Go 4 "KeptAgain" aj_8
def af_5:FS:=
  (Af (Cp 0 La "how_many" [1] (Ab 1))
  (Af (Cp 0 La "own_table" [2] (Ab 2))
  (Cp 0 Lb "width" [3] (Ab 3))))
def r_0:List D->R (List Str×List D):=Go 4 "MarkedAgain" af_5
def z_2:FS:=
  (Af (Ag 7 [1,3] (At 2 i_1 (Aa (Ab 3) (Aa (Ab 1) Ac))))
  (Af (Ag 8 [1,4,5,7] (At 3 o_2 (Aa (Ab 5) (Aa (Ab 4) (Aa (Aj Ca (Ab 1) (Ab 7)) Ac)))))
  (Af (Bv [0] (An (Aj Ck (Ab 0) (eC (.str "peeled"))))
   (Ao [1,2,3,6,7,8] (Fb "PeeledAgain" 3 q_9 (Aa (Ab 3) (Aa (Fb "Table" 5 aa_2 (Aa (Ab 2) (Aa (Ab 1) (Aa (Ab 7) (Aa (Ab 1) (Aa (Ab 8) Ac)))))) (Aa (Ab 6) Ac)))))
   Bf)
  (Af (Bv [0] (An (Aj Ck (Ab 0) (eC (.str "ordered"))))
   (Ao [1,2,3,7,8] (Fb "OrderedAgain" 2 p_1 (Aa (Ab 3) (Aa (Fb "Table" 5 aa_2 (Aa (Ab 2) (Aa (Ab 1) (Aa (Ab 7) (Aa (Ab 3) (Aa (Ab 8) Ac)))))) Ac))))
   Bf)
  (Af (Ag 9 [1,2,4,7,8] (Fb "Table" 5 aa_2 (Aa (Ab 2) (Aa (Ab 1) (Aa (Ab 7) (Aa (At 1 m_5 (Aa (Ab 4) Ac)) (Aa (Ab 8) Ac)))))))
  (Af (Bv [0] (An (Aj Ck (Ab 0) (eC (.str "kept"))))
   (Ao [3,4,9] (Fb "KeptAgain" 3 w_4 (Aa (Ab 3) (Aa (Ab 9) (Aa (Ab 4) Ac)))))
   Bf)
  (Ao [3,4,9] (Fb "MarkedAgain" 3 r_0 (Aa (Ab 3) (Aa (Ab 9) (Aa (Ab 4) Ac)))))))))))
def p_2:List D->R W:=Ak 10 z_2
def as_9:FS:=
  (Ao [0] (At 7 p_2 (Aa (Aj Bn (Ab 0) (eC (.int 0))) (Aa (Aj Bn (Ab 0) (eC (.int 1))) (Aa (Aj Bn (Ab 0) (eC (.int 2))) (Aa (Aj Bn (Ab 0) (eC (.int 3))) (Aa (Aj Bn (Ab 0) (eC (.int 4))) (Aa (Aj Bn (Ab 0) (eC (.int 5))) (Aa (Aj Bn (Ab 0) (eC (.int 6))) Ac)))))))))
def g_5:List D->R W:=Ak 1 as_9
def ab_7:FS:=
  (Bv [0,1,7,10,11] (Gj (An (Aj Dg (At 1 d_4 (Aa (Ab 11) Ac)) (Ab 7))) (An (Aj Dg (At 3 c_8 (Aa (Ab 11) (Aa (Ab 1) (Aa (Ab 10) Ac)))) (At 3 c_8 (Aa (Ab 0) (Aa (Ab 1) (Aa (Ab 10) Ac)))))))
   (Ao [] (eC (.bl false)))
   Bf)
def an_3:FS:=
  (Ag 5 [0,1,2] (At 3 c_8 (Aa (Ab 0) (Aa (Ab 1) (Aa (Ab 2) Ac)))))
def an_4:FS:=
  (Ag 6 [1,2,3] (At 3 v_1 (Aa (Ab 1) (Aa (Ab 2) (Aa (Ab 3) Ac)))))
def bm_1:FS:=
  (Bv [2,5,6] (Gj (Ez (An (Aj (isND false) (Ab 6) (eC .non))) (An (Aj Dg (Ah bg_5 (Aa (Ab 5) Ac)) (Gw Co (Aa (Ah Bs (Aa (Ab 2) Ac)) Ac))))) (Ez (An (Aj (isND true) (Ab 6) (eC .non))) (An (Aj Dg (Ab 5) (Ab 6)))))
   (Ao [] (eC (.bl false)))
   Bf)
def an_5:FS:=
  (Ag 7 [0] (At 1 d_4 (Aa (Ab 0) Ac)))
def bm_2:FS:=
  (Bv [0,2,7] (An (Aj Dg (At 2 t_2 (Aa (Ab 7) (Aa (Ah Bs (Aa (Ab 2) Ac)) Ac))) (Bp "table" 0 L90 (Ab 0) Ac)))
   (Ao [] (eC (.bl false)))
   Bf)
def an_6:FS:=
  (Ag 8 [7] (At 1 g_5 (Aa (Ab 7) Ac)))
def an_7:FS:=
  (Ag 9 [8] (At 1 g_5 (Aa (At 1 d_4 (Aa (Ab 8) Ac)) Ac)))
def an_8:FS:=
  (Ag 10 [2,4] (Aj By (Ab 2) (Ab 4)))
def an_9:FS:=
  (Bu [8,9] (Db (Ci (Aa (Ab 8) (Aa (Ab 9) Ac)))) (gV 11) ab_7)
def bh_2:FS:=
  (Ao [] (eC (.bl true)))
def az_6:FS:=
  (Af an_3
  (Af an_4
  (Af bm_1
  (Af an_5
  (Af bm_2
  (Af an_6
  (Af an_7
  (Af an_8
  (Af an_9
  bh_2)))))))))
def aa_4:List D->R W:=Ak 12 az_6
def bw_6:FT:=
  (An (Aj (inD true) (Ab 10) (Ab 2)))
def bw_7:FS:=
  (Ag 5 [5] (Aj Ca (eC (.int 2)) (Ab 5)))
def bw_8:FE:=
  (Aj Ed (Aj Bn (Ab 1) (Aj By (eC (.int 123)) (Ab 10))) (Ab 5))
def bd_3:FS:=
  (Af (Ag 9 [1,2,4,7,8] (At 6 s_4 (Aa (Ab 8) (Aa (Ab 2) (Aa (Ab 7) (Aa (Ab 4) (Aa (Aj By (eC (.int 2)) (Aj Ed (Aj Bn (Ab 1) (eC (.int 2))) (eC (.int 2)))) (Aa (Aj By (eC (.int 1)) (Aj Ed (Aj Gm (Aj Bn (Ab 1) (eC (.int 2))) (eC (.int 2))) (eC (.int 30)))) Ac))))))))
  (Bv [2,3,7,8,9] (Ez (An (Aj (isND true) (Ab 9) (eC .non))) (Fa (Be (At 5 aa_4 (Aa (Ab 9) (Aa (Ab 8) (Aa (Ab 2) (Aa (Ab 7) (Aa (Ab 3) Ac)))))))))
   (Ao [] (eC (.bl false)))
   Bf))
def ct_1:FS:=
  (Ag 1 [0] (At 2 s_9 (Aa (Ab 0) (Aa (eC (.int 200)) Ac))))
def ct_2:FS:=
  (Ag 2 [1] (At 3 e_2 (Aa (Ab 1) (Aa (eC (.int 3)) (Aa (Aj By (eC (.int 1)) (Aj Ed (Aj Bn (Ab 1) (eC (.int 0))) (eC (.int 40)))) Ac)))))
def dv_5:FS:=
  (Ag 3 [1,2] (Bx 1 (Db (At 3 e_2 (Aa (Ab 1) (Aa (eC (.int 163)) (Aa (eC (.int 10)) Ac))))) (gC 10) bw_6 (Ab 10)))
def ct_3:FS:=
  (Ag 4 [1] (Aj By (eC (.int 1)) (Aj Ed (Aj Bn (Ab 1) (eC (.int 1))) (eC (.int 30)))))
def dv_6:FS:=
  (Ag 5 [] (eC (.int 1)))
def ct_4:FS:=
  (Bu [4] (Ax Co (Aa (Ab 4) Ac)) (gV 6) bw_7)
def dv_7:FS:=
  (Ag 7 [1,2,5] (Bx 1 (Ax Co (Aa (Ah Bs (Aa (Ab 2) Ac)) Ac)) (gC 10) (λ_=> .ok true) bw_8))
def ct_5:FS:=
  (Bu [] (Ax Co (Aa (eC (.int 4)) Ac)) (gV 8) bd_3)
def dv_8:FS:=
  (Ao [] (eC (.bl true)))
def dz_2:FS:=
  (Af ct_1
  (Af ct_2
  (Af dv_5
  (Af ct_3
  (Af dv_6
  (Af ct_4
  (Af dv_7
  (Af ct_5
  dv_8))))))))
def dk_3:List D->R W:=Ak 10 dz_2
end My
namespace L3
open PySem L2
def okD:Nat->D->Bool
 |_,.non=>true
 |_,.bl _=>true
 |_,.int _=>true
 |_,.str x=>x.cps.all (· < 0x110000)
 |n + 1,.lst ds=>ds.all (okD n)
 |n + 1,.tup ds=>ds.all (okD n)
 |_,_=>false
def dk_4:∀(n:Nat) (d:D),okD n d=true->(El d).canLay0=true/\(El d).depth<=n/\(El d).eqv (El d)=true:=by
 intro n
 induction n with
 |zero=>
  intro d h;cases d with
  |non=>exact⟨rfl,Nat.le_refl _,rfl⟩
  |bl b=>exact⟨rfl,Nat.le_refl _,by cases b <;> rfl⟩
  |int i=>exact⟨rfl,Nat.le_refl _,by show(i ==i)=true;simp⟩
  |str x=>exact⟨h,Nat.le_refl _,by show(x ==x)=true;simp⟩
  |_=>cases h
 |succ n ih=>
  have all:∀ds:List D,ds.all (okD n)=true->PyData.canLayAll0 (Em ds)=true/\PyData.depthAll (Em ds)<=n/\PyData.eqvAll (Em ds) (Em ds)=true:=by
   intro ds
   induction ds with
   |nil=>intro _;exact⟨rfl,Nat.zero_le _,rfl⟩
   |cons d ds ih2=>
    intro h;rw [List.all_cons,Bool.and_eq_true] at h;obtain⟨a1,a2,a3⟩:=ih d h.1;obtain⟨b1,b2,b3⟩:=ih2 h.2;refine⟨?_, ?_, ?_⟩
    ·show(PyData.canLay0 (El d) && PyData.canLayAll0 (Em ds))=true;rw [a1,b1];rfl
    ·show max (PyData.depth (El d)) (PyData.depthAll (Em ds))<=n;exact Nat.max_le.mpr ⟨a2,b2⟩
    ·show(PyData.eqv (El d) (El d) && PyData.eqvAll (Em ds) (Em ds))=true;rw [a3,b3];rfl
  intro d h;cases d with
  |non=>exact⟨rfl,Nat.zero_le _,rfl⟩
  |bl b=>exact⟨rfl,Nat.zero_le _,by cases b <;> rfl⟩
  |int i=>exact⟨rfl,Nat.zero_le _,by show(i ==i)=true;simp⟩
  |str x=>exact⟨h,Nat.zero_le _,by show(x ==x)=true;simp⟩
  |lst ds=>
   obtain⟨b1,b2,b3⟩:=all ds h;exact⟨b1,Nat.succ_le_succ b2,b3⟩
  |tup ds=>
   obtain⟨b1,b2,b3⟩:=all ds h;exact⟨b1,Nat.succ_le_succ b2,b3⟩
  |_=>cases h
def dk_5{n:Nat}{d:D}(h:okD n d=true)(hn:n<=60):eqC d d=true/\Hc d d=true:=by
 obtain⟨a1,a2,a3⟩:=dk_4 n d h;refine⟨?_,a3⟩;unfold eqC;rw [a1,decide_eq_true (Nat.le_trans a2 hn)];rfl
def r_1{d:D}(n:Nat)(h:okD n d=true)(hn:n<=60:=by decide):Dg d d=.ok (.sh (.bl false)):=by
 obtain⟨h1,h2⟩:=dk_5 h hn;unfold Dg
 split
 ·simp
 ·rw [if_pos h1,h2];rfl
theorem aw_7{α:Type}(f:α->Int):∀l:List α,Gu (l.map λa=>D.int (f a))=some (l.map f)
 | []=>rfl
 |a::l=>by
  show(Gu (l.map λa=>D.int (f a))).map (f a:: ·)=_;rw [aw_7 f l];rfl
def eg_0{α:Type}(f:α->Int)(l:List α):sumD [.lst (l.map λa=>D.int (f a))]=.ok (.sh (.int (l.map f).sum)):=by
 unfold sumD;simp only [aw_7]
def cg_4{n i:Nat}(h:i < n):ixN n (i:Int)=some i:=by
 unfold ixN;rw [if_pos (by omega),if_pos (by omega)];simp
def Fx{α:Type}{xs:List α}{i:Nat}{x:α}(h:xs[i]? =some x):atI xs (i:Int)=some x:=by
 unfold atI;rw [cg_4 (List.getElem?_eq_some_iff.mp h).1];exact h
end L3
namespace My
open PySem L2 L3
def eg_1{α:Type}(l:List α)(a:Nat)(h:a<=l.length):cutL l none (some (a:Int))=l.take a:=by
 unfold cutL;have e1:HT.sIx l.length 0 none=0:=rfl;have e2:HT.sIx l.length l.length (some (a:Int))=a:=by
  show(if(a:Int) < 0 then((a:Int) + (l.length:Int)).toNat else min (a:Int).toNat l.length)=a;rw [if_neg (by omega)];omega
 rw [e1,e2,List.drop_zero,Nat.sub_zero]
def mixZ(c k:Int):Int:=((c + 1) * (48271 + 118 * k) % 2147483629 / 977 * 16807 + (c + 1) * (48271 + 118 * k) % 2147483629 * (k * k + 7) + k) % 2147483587
def dk_6(c k:Int)(h1: -2000<=k)(h2:k<=2000):y_3 [.int c,.int k]=.ok (.sh (.int (mixZ c k))):=by
 have hk: -18446744073709551616 < k * k + 7/\k * k + 7 < 18446744073709551616:=by
  have:k * k<=2000 * 2000:=by
   rcases Int.le_total 0 k with h|h
   ·exact Int.mul_le_mul h2 h2 h (by decide)
   ·have:(-k) * (-k)<=2000 * 2000:=Int.mul_le_mul (by omega) (by omega) (by omega) (by decide)
    rwa [Int.neg_mul_neg] at this
  have:0<=k * k:=by
   rcases Int.le_total 0 k with h|h
   ·exact Int.mul_nonneg h h
   ·have:=Int.mul_nonneg (a:= -k) (b:= -k) (by omega) (by omega)
    rwa [Int.neg_mul_neg] at this
  omega
 have m1:Fo 118 k=true:=Es (by decide) (by decide);have m2:Fo (c + 1) (48271 + 118 * k)=true:=aw_1 (by omega) (by omega);have m3:∀z:Int,Fo z 16807=true:=λz=>aw_1 (by decide) (by decide);have m4:Fo k k=true:=Es (by omega) (by omega);have m5:∀z:Int,Fo z (k * k + 7)=true:=λz=>aw_1 hk.1 hk.2
 simp_arith [y_3,bq_3,Am,Do m1,Do m2,Do (m3 _),Do m4,Do (m5 _),Fv,s_2 (show(0:Int) < 977 by decide) (by decide),Fp (show(0:Int) < 2147483629 by decide),Fp (show(0:Int) < 2147483587 by decide)]
 rfl
def wr:Nat->Int->List Nat->List Nat
 |0,_,zm=>zm
 |j + 1,r,zm=>wr j (r / 2) ((48 + (r % 2).toNat)::zm)
def rd(bs:List Nat)(a:Int):Int:=bs.foldl (λa c=>2 * a + (if c=49 then 1 else 0)) a
def bit(c:Nat):Prop:=c=48\/c=49
theorem aq_2:∀(w:Nat) (n:Int) (zm:List Nat),(wr w n zm).length=w + zm.length
 |0,_,zm=>by simp [wr]
 |w + 1,n,zm=>by rw [wr,aq_2 w];simp;omega
theorem dk_7:∀(w:Nat) (n:Int) (zm:List Nat),(∀c∈zm,bit c)->∀c∈wr w n zm,bit c
 |0,_,zm,h=>h
 |w + 1,n,zm,h=>dk_7 w (n / 2) _ λc hc=>by
  rcases List.mem_cons.mp hc with rfl|hc
  ·have:n % 2=0\/n % 2=1:=by omega
   rcases this with e|e <;> rw [e]
   ·exact .inl rfl
   ·exact .inr rfl
  ·exact h c hc
def dk_8(a b:List Nat)(z:Int):rd (a ++ b) z=rd b (rd a z):=by unfold rd;rw [List.foldl_append]
theorem dz_3:∀(w:Nat) (n:Int) (zm:List Nat) (a:Int),rd (wr w n zm) a=rd zm (a * 2 ^ w + n % 2 ^ w)
 |0,n,zm,a=>by
  show rd zm a=rd zm (a * 1 + n % 1);rw [Int.mul_one,Int.emod_one,Int.add_zero]
 |w + 1,n,zm,a=>by
  rw [wr,dz_3 w];show rd zm (2 * (a * 2 ^ w + n / 2 % 2 ^ w) + (if 48 + (n % 2).toNat=49 then 1 else 0))=_;have e:(if 48 + (n % 2).toNat=49 then(1:Int) else 0)=n % 2:=by split <;> omega
  have p:n % 2 ^ (w + 1)=2 * (n / 2 % 2 ^ w) + n % 2:=by
   have pos:(0:Int) < 2 ^ w:=Int.pow_pos (by decide);have e1:(2:Int) ^ (w + 1)=2 * 2 ^ w:=by rw [Int.pow_succ];omega
   rw [e1];have h1:=Int.mul_ediv_add_emod n 2;have h2:=Int.mul_ediv_add_emod (n / 2) (2 ^ w);have h3:=Int.emod_nonneg (n / 2) (show(2:Int) ^ w≠0 by omega);have h4:=Int.emod_lt_of_pos (n / 2) pos;have key:n=(2 * (n / 2 % 2 ^ w) + n % 2) + (2 * 2 ^ w) * (n / 2 / 2 ^ w):=by
    have:(2 * 2 ^ w:Int) * (n / 2 / 2 ^ w)=2 * (2 ^ w * (n / 2 / 2 ^ w)):=by rw [Int.mul_assoc]
    omega
   have h5:(2 * (n / 2 % 2 ^ w) + n % 2) % (2 * 2 ^ w)=2 * (n / 2 % 2 ^ w) + n % 2:=Int.emod_eq_of_lt (by omega) (by omega)
   conv=>lhs;rw [key]
   rw [Int.add_mul_emod_self_left,h5]
  have q:a * 2 ^ (w + 1)=2 * (a * 2 ^ w):=by rw [Int.pow_succ,<-Int.mul_assoc,Int.mul_comm]
  rw [e,p,q]
  congr 1
  omega
def eg_3(w:Nat)(n:Int)(h0:0<=n)(h1:n < 2 ^ w):rd (wr w n []) 0=n:=by
 rw [dz_3,Int.zero_mul,Int.zero_add,Int.emod_eq_of_lt h0 h1];rfl
def Bd(l:List Nat):Str:=⟨l.toArray⟩
def i_9(l:List Nat):(Bd l).cps.toList=l:=by simp [Bd]
def r_7(l:List Nat):(Bd l).length=l.length:=by rw [x_9,i_9]
def ct_6(a b:List Nat):Bd a ++ Bd b=Bd (a ++ b):=bu_7 (by rw [dt_9,i_9,i_9,i_9])
def sgL:List Nat:=[97,98,99,100,101,102,103,104,105,106,107,108,109,110,111,112,113,114,115,116,117,118,119,120,121,122,48,49,50,51,52,53,54,55,56,57,45,95,32]
def dv_9:(Str.ofString "abcdefghijklmnopqrstuvwxyz0123456789-_ ").cps.toList=sgL:=by decide +kernel
def isKey(d:D):Prop:=(∃n:Int,d=.int n/\0<=n/\n<=999999999999999999)\/(∃l:List Nat,d=.str (Bd l)/\l.length<=11/\∀c∈l,c∈sgL)
def isKey.flat{d:D}(h:isKey d):Ba d=true:=by
 rcases h with⟨n,rfl,_⟩|⟨l,rfl,_⟩ <;> rfl
def em_8(r:Int):∃c∈sgL,Bn (.str "abcdefghijklmnopqrstuvwxyz0123456789-_ ") (.int (r % 39))=.ok (.sh (.str (Bd [c]))):=by
 have h0:=Int.emod_nonneg r (show(39:Int)≠0 by decide);have h1:=Int.emod_lt_of_pos r (show(0:Int) < 39 by decide);have hl:(r % 39).toNat < sgL.length:=by show(r % 39).toNat < 39;omega
 refine⟨sgL[(r % 39).toNat],List.getElem_mem hl,du_3 (by decide +kernel) ?_⟩;rw [dv_9];exact ef_5 h0 (List.getElem?_eq_getElem hl)
def ct_7{a b:D}(ha:isKey a)(hb:isKey b):eqF a b=true↔a=b:=by
 rcases ha with⟨n,rfl,_⟩|⟨l,rfl,_⟩ <;> rcases hb with⟨m,rfl,_⟩|⟨k,rfl,_⟩
 ·show(n ==m)=true↔_;rw [beq_iff_eq];exact⟨λh=>by rw [h],λh=>by injection h⟩
 ·show false=true↔_;exact⟨λh=>(by cases h),λh=>(by cases h)⟩
 ·show false=true↔_;exact⟨λh=>(by cases h),λh=>(by cases h)⟩
 ·show(Bd l ==Bd k)=true↔_;rw [beq_iff_eq];exact⟨λh=>by rw [h],λh=>by injection h⟩
def dw_0{d:D}{ks:List D}(hd:isKey d)(hk:∀k∈ks,isKey k):Ct d ks=true↔d∈ks:=by
 unfold Ct;rw [List.any_eq_true];constructor
 ·rintro ⟨y,hy,h⟩
  rw [<-(ct_7 (hk y hy) hd).mp h];exact hy
 ·intro h;exact⟨d,h,(ct_7 hd hd).mpr rfl⟩
def cg_5{ks:List D}(hk:∀k∈ks,isKey k):ks.all Ba=true:=List.all_eq_true.mpr λk h=>(hk k h).flat
def dk_9{d:D}{ks:List D}(hd:isKey d)(hk:∀k∈ks,isKey k):inD true d (.lst ks)=.ok (.sh (.bl (!Ct d ks))):=by
 have h:(Ba d && ks.all Ba)=true:=by rw [hd.flat,cg_5 hk];rfl
 rcases hd with⟨n,rfl,_⟩|⟨l,rfl,_⟩
 ·exact if_pos h
 ·exact if_pos h
def dw_1{d:D}(h:isKey d):PyData.canLay0 (El d)=true/\PyData.depth (El d)=0:=by
 rcases h with⟨n,rfl,_⟩|⟨l,rfl,_,hc⟩
 ·exact⟨rfl,rfl⟩
 ·refine⟨?_,rfl⟩;show(Bd l).cps.all (· < 0x110000)=true;rw [<-Array.all_toList,i_9,List.all_eq_true];intro c h;have:c∈sgL:=hc c h;have:∀c∈sgL,c < 0x110000:=by decide
  exact decide_eq_true (this c (hc c h))
theorem at_0:∀{ks:List D},(∀k∈ks,isKey k)->PyData.canLayAll0 (Em ks)=true/\PyData.depthAll (Em ks)=0
 | [],_=>⟨rfl,rfl⟩
 |k::ks,h=>by
  obtain⟨a1,a2⟩:=dw_1 (h k List.mem_cons_self);obtain⟨b1,b2⟩:=at_0 λx hx=>h x (List.mem_cons_of_mem _ hx);refine⟨?_, ?_⟩
  ·show(PyData.canLay0 (El k) && PyData.canLayAll0 (Em ks))=true;rw [a1,b1];rfl
  ·show max (PyData.depth (El k)) (PyData.depthAll (Em ks))=0;rw [a2,b2];rfl
def cg_6{ks js:List D}(hk:∀k∈ks,isKey k)(hj:∀k∈js,isKey k):eqC (.lst ks) (.lst js)=true:=by
 unfold eqC;rw [Bool.and_eq_true,Bool.and_eq_true];refine⟨⟨(at_0 hk).1,(at_0 hj).1⟩,decide_eq_true ?_⟩;show PyData.depthAll (Em ks) + 1<=60;rw [(at_0 hk).2];decide
def dw_2{a b:D}(ha:isKey a)(hb:isKey b):PyData.eqv (El a) (El b)=true↔a=b:=by
 rcases ha with⟨n,rfl,_⟩|⟨l,rfl,_⟩ <;> rcases hb with⟨m,rfl,_⟩|⟨k,rfl,_⟩
 ·show(n ==m)=true↔_;rw [beq_iff_eq];exact⟨λh=>by rw [h],λh=>by injection h⟩
 ·show false=true↔_;exact⟨λh=>(by cases h),λh=>(by cases h)⟩
 ·show false=true↔_;exact⟨λh=>(by cases h),λh=>(by cases h)⟩
 ·show(Bd l ==Bd k)=true↔_;rw [beq_iff_eq];exact⟨λh=>by rw [h],λh=>by injection h⟩
theorem cg_7:∀{ks js:List D},(∀k∈ks,isKey k)->(∀k∈js,isKey k)->(PyData.eqvAll (Em ks) (Em js)=true↔ks=js)
 | [],[],_,_=>⟨λ_=>rfl,λ_=>rfl⟩
 | [],_::_,_,_=>⟨λh=>(by cases h),λh=>(by cases h)⟩
 |_::_,[],_,_=>⟨λh=>(by cases h),λh=>(by cases h)⟩
 |k::ks,j::js,hk,hj=>by
  show(PyData.eqv (El k) (El j) && PyData.eqvAll (Em ks) (Em js))=true↔_;rw [Bool.and_eq_true,dw_2 (hk k List.mem_cons_self) (hj j List.mem_cons_self),cg_7 (λx hx=>hk x (List.mem_cons_of_mem _ hx)) (λx hx=>hj x (List.mem_cons_of_mem _ hx))];exact⟨λ⟨a,b⟩=>by rw [a,b],λh=>by injection h with a b;exact⟨a,b⟩⟩
def ct_8(a b:List D):Ck (.lst a) (.lst b)=if eqC (.lst a) (.lst b)=true then .ok (.sh (.bl (Hc (.lst a) (.lst b)))) else .no:=rfl
def dw_3(a b:List D):Dg (.lst a) (.lst b)=if eqC (.lst a) (.lst b)=true then .ok (.sh (.bl (!Hc (.lst a) (.lst b)))) else .no:=rfl
def dl_0{ks js:List D}(hk:∀k∈ks,isKey k)(hj:∀k∈js,isKey k):∃b:Bool,(b=true↔ks=js)/\Ck (.lst ks) (.lst js)=.ok (.sh (.bl b))/\Dg (.lst ks) (.lst js)=.ok (.sh (.bl (!b))):=by
 refine⟨Hc (.lst ks) (.lst js),cg_7 hk hj, ?_, ?_⟩
 ·rw [ct_8,if_pos (cg_6 hk hj)]
 ·rw [dw_3,if_pos (cg_6 hk hj)]
def sgI(c:Nat):Nat:=sgL.idxOf c
def eg_4:∀c∈sgL,Builtin.Str.occurrences "abcdefghijklmnopqrstuvwxyz0123456789-_ " ⟨#[c]⟩ 0 (Str.length "abcdefghijklmnopqrstuvwxyz0123456789-_ ") 1= [sgI c]:=by decide +kernel
def aq_3(l:List Nat):Int:=l.foldl (λa c=>40 * a + (sgI c:Int) + 1) 0
def cg_8(l:List Nat)(k c:Nat)(h:l[k]? =some c):aq_3 (l.take (k + 1))=40 * aq_3 (l.take k) + (sgI c:Int) + 1:=by
 unfold aq_3;rw [List.take_add_one,h,List.foldl_append];rfl
def p_3:D->Int
 | .int n=>2 * n
 | .str x=>2 * aq_3 x.cps.toList + 1
 |_=>0
def dl_1:∀c∈sgL,Txt.find "abcdefghijklmnopqrstuvwxyz0123456789-_ " ⟨#[c]⟩=((sgI c:Nat):Int):=by decide +kernel
def dw_4{c:Nat}(h:c∈sgL):cc_1 (.str "abcdefghijklmnopqrstuvwxyz0123456789-_ ") [.str ⟨#[c]⟩]=.ok (.sh (.int (sgI c:Int))):=by
 show R.ok (W.sh (D.int (Txt.find "abcdefghijklmnopqrstuvwxyz0123456789-_ " ⟨#[c]⟩)))=_;rw [dl_1 c h]
def em_9{c:Nat}(h:c∈sgL):inD false (.str ⟨#[c]⟩) (.str "abcdefghijklmnopqrstuvwxyz0123456789-_ ")=.ok (.sh (.bl true)):=by
 show R.ok (W.sh (D.bl (!(Builtin.Str.occurrences "abcdefghijklmnopqrstuvwxyz0123456789-_ " ⟨#[c]⟩ 0 (Str.length "abcdefghijklmnopqrstuvwxyz0123456789-_ ") 1).isEmpty)))=_;rw [eg_4 c h];rfl
def ak_0(l:List Nat):Gd (Bd l)=l.map λc=> .str ⟨#[c]⟩:=by unfold Gd;rw [i_9]
def dl_2(l:List Nat)(hl:l.length<=11)(hc:∀c∈l,c∈sgL):as_6 [.str (Bd l)]=.ok (.sh (.int (aq_3 l))):=by
 obtain⟨Δ',e,a2,rfl⟩:=h_3 (gV 2) aw_5 (λk Δ=>∃a2,Δ= [.sh (.str (Bd l)),.sh (.int (aq_3 (l.take k))),a2]) (ds:=Gd (Bd l)) (Δ:=[.sh (.str (Bd l)),.sh (.int 0),.no]) ⟨.no,rfl⟩ (λk d Δ hk hI=>by
  obtain⟨a2,rfl⟩:=hI;rw [ak_0,List.getElem?_map] at hk;cases q:l[k]? with
  |none=>rw [q] at hk;cases hk
  |some c=>
   rw [q] at hk;cases hk;refine⟨_,rfl,[.sh (.str (Bd l)),.sh (.int (aq_3 (l.take (k + 1)))),.sh (.str ⟨#[c]⟩)],.inl ?_,_,rfl⟩;rw [cg_8 l k c q]
   simp_arith [aw_5,Am,Do (Es (show(-18446744073709551616:Int) < 40 by decide) (by decide)),beq_self_eq_true,dw_4 (hc c (List.mem_of_getElem? q)),Fv])
 rw [ak_0,List.length_map,List.take_length] at e
 simp_arith [as_6,cs_9,Am,Bu,ak_0,e]
def bq_7{d:D}(h:isKey d):y_8 [d]=.ok (.sh (.bl true)):=by
 rcases h with⟨n,rfl,h0,h1⟩|⟨l,rfl,hl,hc⟩
 ·simp_arith [y_8,bg_6,Am,ap_3,cs_4,h0,h1]
 ·have hx:(Bd l).length<=16777216:=by rw [r_7];omega
  have ec:=p_9 (fg:=gC 1) (f:=r_6) (δ:=[some (.str (Bd l)),none]) (λ_=> .bl true) (Gd (Bd l)) (λd hd=>by
   rw [ak_0] at hd;obtain⟨c,hcl,rfl⟩:=List.mem_map.mp hd;exact⟨_,.sh (.bl true),rfl,by simp_arith [r_6,Am,em_9 (hc c hcl)],rfl⟩)
  have ec':=k_2 (m:=1) (fi:=Db (Ab 0)) (fg:=gC 1) (p:=λ_=> .ok true) (f:=r_6) (δ:=[some (.str (Bd l))]) (by simp_arith [Am]) (by rw [ak_0,List.length_map];omega) ec;have ha:allD [.lst ((Gd (Bd l)).map λ_=>D.bl true)]=.ok (.sh (.bl true)):=by
   have hb:∀l:List D,av_6 (l.map λ_=>D.bl true)=some (l.map λ_=>true):=by
    intro l
    induction l with
    |nil=>rfl
    |cons a l ih=>show(av_6 (l.map λ_=>D.bl true)).map (true:: ·)=_;rw [ih];rfl
   unfold allD;simp only [hb]
   congr 3
   rw [List.all_eq_true];intro b hb';obtain⟨_,_,rfl⟩:=List.mem_map.mp hb';rfl
  have gj:((Bd l).length:Int)<=11:=by rw [r_7];omega
  have et:q_2 [.str (Bd l)]=.ok (.sh (.bl true)):=by
   simp_arith [q_2,am_5,Am,ac_5 hx,cs_4,gj,ec',ha]
  simp_arith [y_8,bg_6,Am,et]
def cg_9{d:D}(h:isKey d):af_0 [d]=.ok (.sh (.int (p_3 d))):=by
 have hk:=bq_7 h;have m2:=λj:Int=>Do (Es (j:=j) (show(-18446744073709551616:Int) < 2 by decide) (by decide));rcases h with⟨n,rfl,h0,h1⟩|⟨l,rfl,hl,hc⟩
 ·simp_arith [af_0,bw_3,Am,hk,m2,p_3]
 ·simp_arith [af_0,bw_3,Am,hk,dl_2 l hl hc,m2,Fv,p_3,i_9]
def z_3(n s z:Int):Int:=
 (((1 + (1103515245 * s + 12345) % (2305843009213693951 - 1)) * n + (69069 * s * s + 7 * s) % 2305843009213693951) % 2305843009213693951 + ((1 + (1103515245 * s + 12345) % (2305843009213693951 - 1)) * n + (69069 * s * s + 7 * s) % 2305843009213693951) % 2305843009213693951 / 2147483648) % z
def ch_0(n s z:Int)(h1: -18446744073709551616 < s)(h2:s < 18446744073709551616)(hz:0 < z):al_2 [.int n,.int s,.int z]=.ok (.sh (.int (z_3 n s z)))/\True:=by
 have n0:¬z=0:=by omega
 have f0:=Int.emod_nonneg (1103515245 * s + 12345) (show(2305843009213693951 - 1:Int)≠0 by decide);have f1:=Int.emod_lt_of_pos (1103515245 * s + 12345) (show(0:Int) < 2305843009213693951 - 1 by decide);have a1:=Do (Es (i:=1103515245) (j:=s) (by decide) (by decide));have a2:=Do (Es (i:=69069) (j:=s) (by decide) (by decide));have a3:=Do (aw_1 (i:=69069 * s) (j:=s) h1 h2);have a4:=Do (Es (i:=7) (j:=s) (by decide) (by decide));have a5:=Do (Es (i:=1 + (1103515245 * s + 12345) % (2305843009213693951 - 1)) (j:=n) (by omega) (by omega));have c1:=λi:Int=>Fp (i:=i) (show(0:Int) < 2305843009213693951 - 1 by decide);have c2:=λi:Int=>Fp (i:=i) (show(0:Int) < 2305843009213693951 by decide);have c3:=λi:Int=>Fp (i:=i) hz;have c4:=λi:Int=>s_2 (i:=i) (show(0:Int) < 2147483648 by decide) (by decide);refine⟨?_, ?_⟩
 ·simp_arith [al_2,ct_0,Am,Fq,n0,bg_2,Fv,a1,a2,a3,a4,c1,c2,a5,c4,c3]
  rfl
 ·trivial
end My
namespace L3
open PySem L2
def outF:Fl->Bool
 | .ex _ _=>true
 | .rt _=>true
 | .no=>true
 |_=>false
def dl_3(fg:FG)(g:FS)(I:Nat->SE->Prop){ds:List D}{Δ:SE}{n:Nat}{r:Fl}{d:D}(h0:I 0 Δ)(hd:ds[n]? =some d)
  (step:∀k d Δ,k < n->ds[k]? =some d->I k Δ->∃Δ1,fg d Δ=.ok Δ1/\∃Δ2,(g Δ1=.nx Δ2\/g Δ1=.ct Δ2)/\I (k + 1) Δ2)
  (last:∀Δ,I n Δ->∃Δ1,fg d Δ=.ok Δ1/\g Δ1=r) (hr:outF r=true):Fc fg g ds Δ=r:=by
 have all:∀(m k:Nat) (Δ:SE),k + m=n->I k Δ->Fc fg g (ds.drop k) Δ=r:=by
  intro m
  induction m with
  |zero=>
   intro k Δ e h;have:k=n:=by omega
   subst this;have hl:k < ds.length:=(List.getElem?_eq_some_iff.mp hd).1;obtain⟨x,d1,d2⟩:=ac_4 hl;rw [hd] at d1;cases d1;obtain⟨Δ1,e1,e2⟩:=last Δ h;rw [d2];show(match fg d Δ with
    | .ok Δ1=>(match g Δ1 with
     | .nx Δ2=>Fc fg g (ds.drop (k + 1)) Δ2
     | .ct Δ2=>Fc fg g (ds.drop (k + 1)) Δ2
     | .bk Δ2=> .nx Δ2
     |r=>r)
    | .ex _=> .no
    | .no=> .no)=_
   rw [e1];simp only [e2];cases r with
   |nx _=>cases hr
   |ct _=>cases hr
   |bk _=>cases hr
   |_=>rfl
  |succ m ih=>
   intro k Δ e h;have hl:n < ds.length:=(List.getElem?_eq_some_iff.mp hd).1;obtain⟨x,d1,d2⟩:=ac_4 (l:=ds) (i:=k) (by omega);obtain⟨Δ1,e1,Δ2,e2,h2⟩:=step k x Δ (by omega) d1 h;have e3:=ih (k + 1) Δ2 (by omega) h2;rw [d2];show(match fg x Δ with
    | .ok Δ1=>(match g Δ1 with
     | .nx Δ2=>Fc fg g (ds.drop (k + 1)) Δ2
     | .ct Δ2=>Fc fg g (ds.drop (k + 1)) Δ2
     | .bk Δ2=> .nx Δ2
     |r=>r)
    | .ex _=> .no
    | .no=> .no)=_
   rw [e1];rcases e2 with e2|e2
   ·simp only [e2];exact e3
   ·simp only [e2];exact e3
 have:=all n 0 Δ (by omega) h0
 rwa [List.drop_zero] at this
end L3
namespace My
open PySem L2 L3
def kOf:D->Au
 | .int i=> .inl i
 | .str x=> .inr x
 |_=> .inl 0
def dl_4{d:D}(h:isKey d):Dl d=some (kOf d):=by
 rcases h with⟨n,rfl,_⟩|⟨l,rfl,_⟩ <;> rfl
def ct_9{a b:D}(ha:isKey a)(hb:isKey b)(e:kOf a=kOf b):a=b:=by
 rcases ha with⟨n,rfl,_⟩|⟨l,rfl,_⟩ <;> rcases hb with⟨m,rfl,_⟩|⟨k,rfl,_⟩
 ·injection e with e;rw [e]
 ·cases e
 ·cases e
 ·injection e with e;rw [e]
def cu_0{ks:List D}(hk:∀k∈ks,isKey k):i_6 [.lst ks]=.ok (.sh .non):=by
 obtain⟨Δ',e,a1,a2,rfl⟩:=h_3 (Gb 1 2) t_8 (λk Δ=>∃a1 a2,Δ= [.sh (.lst ks),a1,a2]) (ds:=Gc 0 ks) (Δ:=[.sh (.lst ks),.no,.no]) ⟨_,_,rfl⟩ (λk d Δ hd hI=>by
  obtain⟨a1,a2,rfl⟩:=hI;obtain⟨d',e1,rfl⟩:=p_5 hd;refine⟨_,rfl,_,.inl ?_,.sh (.int ((0 + k:Nat):Int)),.sh d',rfl⟩
  simp_arith [t_8,Am,bq_7 (hk d' (List.mem_of_getElem? e1))])
 simp_arith [i_6,ag_1,Am,Bu,u_5,av_5,e]
def Ej(ks:List D):List (Au×D):=ks.map λd=>(kOf d,.bl true)
def dl_5{ks:List D}{d:D}(hk:∀k∈ks,isKey k)(hd:isKey d):Eg (Ej ks) (kOf d)=true↔d∈ks:=by
 unfold Eg Dy Ej;rw [Option.isSome_map,List.find?_isSome];constructor
 ·rintro ⟨p,hp,e⟩
  obtain⟨x,hx,rfl⟩:=List.mem_map.mp hp;have:kOf x=kOf d:=by simpa using e
  rw [<-ct_9 (hk x hx) hd this];exact hx
 ·intro h;exact⟨(kOf d,.bl true),List.mem_map.mpr ⟨d,h,rfl⟩,by simp⟩
def dl_6{ks:List D}{d:D}(hk:∀k∈ks,isKey k)(hd:isKey d)(n:d∉ks):Eb (Ej ks) (kOf d) (.bl true)=Ej (ks ++ [d]):=by
 unfold Eb;have h:((Ej ks).any λkv=>decide (kv.1=kOf d))=false:=by
  cases q:(Ej ks).any λkv=>decide (kv.1=kOf d) with
  |false=>rfl
  |true=>
   exfalso;obtain⟨p,hp,e⟩:=List.any_eq_true.mp q;obtain⟨x,hx,rfl⟩:=List.mem_map.mp hp;have:kOf x=kOf d:=by simpa using e
   have:=ct_9 (hk x hx) hd this;subst this;exact n hx
 rw [h];unfold Ej;rw [List.map_append];rfl
def ch_1{ks:List D}{l:List D}{d:D}{k:Nat}(hl:∀x∈l,isKey x)(hd:isKey d)(n:d∉l)(hn:l.length < 16777216):
  n_7 [.sh (.lst ks),.ow (.dic (Ej l)),.sh (.int (k:Int)),.sh d]=.nx [.sh (.lst ks),.ow (.dic (Ej (l ++ [d]))),.sh (.int (k:Int)),.sh d]:=by
 have h:Eg (Ej l) (kOf d)=false:=by
  cases q:Eg (Ej l) (kOf d) with
  |false=>rfl
  |true=>exact absurd ((dl_5 hl hd).mp q) n
 have hs:(Ej l).length < 16777216:=by unfold Ej;rw [List.length_map];exact hn
 simp_arith [n_7,Am,inK,dl_4 hd,h,as_3,hs,dl_6 hl hd n]
def da_1{ks:List D}(hk:∀k∈ks,isKey k)(nd:ks.Nodup)(hl:ks.length < 16777216):q_3 [.lst ks]=.ok (.sh .non):=by
 obtain⟨Δ',e,a2,a3,rfl⟩:=h_3 (Gb 2 3) n_7 (λk Δ=>∃a2 a3,Δ= [.sh (.lst ks),.ow (.dic (Ej (ks.take k))),a2,a3]) (ds:=Gc 0 ks) (Δ:=[.sh (.lst ks),.ow (.dic []),.no,.no]) ⟨_,_,rfl⟩ (λk d Δ hd hI=>by
  obtain⟨a2,a3,rfl⟩:=hI;obtain⟨d',e1,rfl⟩:=p_5 hd;have hlt:k < ks.length:=(List.getElem?_eq_some_iff.mp e1).1;have nin:d'∉ks.take k:=λhm=>by
   obtain⟨j,hj,e⟩:=List.getElem_of_mem hm;rw [List.length_take] at hj;rw [List.getElem_take] at e;have:=List.pairwise_iff_getElem.mp nd j k (by omega) hlt (by omega);rw [e] at this;rw [List.getElem?_eq_getElem hlt] at e1;injection e1 with e1
   exact this e1.symm
  refine⟨_,rfl,_,.inl (ch_1 (k:=0 + k) (λx hx=>hk x (List.mem_of_mem_take hx)) (hk d' (List.mem_of_getElem? e1)) nin (by rw [List.length_take];omega)),.sh (.int ((0 + k:Nat):Int)),.sh d', ?_⟩;rw [List.take_add_one,e1];rfl)
 have e':Fc (Gb 2 3) n_7 (Gc 0 ks) [.sh (.lst ks),.ow (.dic []),.no,.no]=_:=e
 simp_arith [q_3,am_6,Am,as_2,Bu,u_5,av_5,e']
def bw_9{ks:List D}(hk:∀k∈ks,isKey k)(nd:ks.Nodup)(h1:1<=ks.length)(h2:ks.length<=200):j_6 [.lst ks]=.ok (.sh (.int (ks.length:Int))):=by
 have c1:¬(ks.length:Int)=0:=by omega
 have c2:¬(200:Int) < (ks.length:Int):=by omega
 simp_arith [j_6,ay_8,Am,Hl,Fq,c1,di_6,c2,cu_0 hk,da_1 hk nd (by omega)]
def Aw(n ib:Int):Int:=if ib < 3 then n + n / 8 + 1 else 41 * n / 100 + 2
def r_8(n ib:Int)(h0:0<=n)(h1:n<=1000)(hk:ib=2\/ib=3):i_1 [.int n,.int ib]=.ok (.sh (.int (Aw n ib)))/\True/\0 < Aw n ib/\Aw n ib<=2000:=by
 have m41:Fo 41 n=true:=Es (by decide) (by decide);rcases hk with rfl|rfl
 ·refine⟨?_,trivial, ?_, ?_⟩
  ·simp_arith [i_1,aj_0,Am,Ge,show(2:Int) < 3 by decide,s_2 (show(0:Int) < 8 by decide) (by decide),Fv,Aw]
  ·unfold Aw;rw [if_pos (by decide)];omega
  ·unfold Aw;rw [if_pos (by decide)];omega
 ·refine⟨?_,trivial, ?_, ?_⟩
  ·simp_arith [i_1,aj_0,Am,Ge,show¬(3:Int) < 3 by decide,s_2 (show(0:Int) < 100 by decide) (by decide),Fv,Do m41,Aw]
  ·unfold Aw;rw [if_neg (by decide)];omega
  ·unfold Aw;rw [if_neg (by decide)];omega
def w_9(d:D)(salt ig:Int)(j:Int):Int:=j * ig + z_3 (p_3 d) (4 * salt + j) ig
def al_3(d:D)(salt ib ig:Int):List D:=(List.range ib.toNat).map λ(k:Nat)=>D.int (w_9 d salt ig (0 + (k:Int)))
def bq_8{d:D}(h:isKey d)(salt ib ig:Int)(s0:0<=salt)(s1:salt<=1000000000000)(hk:ib=2\/ib=3)(p0:0 < ig)(p1:ig<=2000):
  i_2 [d,.int salt,.int ib,.int ig]=.ok (.sh (.tup (al_3 d salt ib ig)))/\True:=by
 have hr:=m_0 (j:=ib) (by omega) (by omega);have hl:(Cc 0 ib.toNat).length<=16777216:=by rw [m_3];omega
 have cy:∀k:Nat,k < ib.toNat->Fo (0 + (k:Int)) ig=true/\Fo 4 salt=true:=λk hk=>⟨Es (by omega) (by omega),Es (by decide) (by decide)⟩;refine⟨?_,trivial⟩
 ·have ec:=cz_6 (fg:=gC 5) (p:=λ_=> .ok true) (f:=v_5) (δ:=[some d,some (.int salt),some (.int ib),some (.int ig),some (.int (p_3 d)),none]) (F:=λi=> .int (w_9 d salt ig i)) ib.toNat 0 (λk hk'=>by
   obtain⟨m1,m2⟩:=cy k hk';refine⟨[some d,some (.int salt),some (.int ib),some (.int ig),some (.int (p_3 d)),some (.int (0 + (k:Int)))],.sh (.int (w_9 d salt ig (0 + (k:Int)))),rfl,rfl, ?_,rfl⟩
   simp_arith [v_5,Am,Do m1,Do m2,Fv,(ch_0 (p_3 d) (4 * salt + (0 + (k:Int))) ig (by omega) (by omega) p0).1,w_9])
  have ec':=k_2 (m:=1) (fi:=Ax Co (Aa (Ab 2) Ac)) (fg:=gC 5) (p:=λ_=> .ok true) (f:=v_5) (δ:=[some d,some (.int salt),some (.int ib),some (.int ig),some (.int (p_3 d))]) (by simp_arith [Am,hr]) hl ec
  simp_arith [i_2,ay_9,Am,cg_9 h,ec',dg_1]
  rfl
def cn_7(ks:List D)(salt ib:Int):List D:=ks.map λd=> .tup (al_3 d salt ib (Aw (ks.length:Int) ib))
def ch_2{ks:List D}(hk:∀k∈ks,isKey k)(nd:ks.Nodup)(h1:1<=ks.length)(h2:ks.length<=200)(salt ib:Int)(s0:0<=salt)(s1:salt<=1000000000000)(hkd:ib=2\/ib=3):
  u_9 [.lst ks,.int salt,.int ib]=.ok (.ow (.lst (cn_7 ks salt ib))):=by
 obtain⟨p1,p2,p3,p4⟩:=r_8 (ks.length:Int) ib (by omega) (by omega) hkd
 ·have ec:=k_2 (m:=1) (fi:=Db (Ab 0)) (fg:=gC 4) (p:=λ_=> .ok true) (f:=af_1) (δ:=[some (.lst ks),some (.int salt),some (.int ib),some (.int (Aw (ks.length:Int) ib))]) (ds:=ks) (by simp_arith [Am]) (by omega)
   (p_9 (λd=> .tup (al_3 d salt ib (Aw (ks.length:Int) ib))) ks λd hd=>⟨_,.sh (.tup (al_3 d salt ib (Aw (ks.length:Int) ib))),rfl,by
    simp_arith [af_1,Am,(bq_8 (hk d hd) salt ib (Aw (ks.length:Int) ib) s0 s1 hkd p3 p4).1],rfl⟩)
  simp_arith [u_9,bg_7,Am,bw_9 hk nd h1 h2,p1,ec]
  rfl
def kp(p:Nat):Au:=.inl (p:Int)
def kp_inj{a b:Nat}:kp a=kp b↔a=b:=by
 unfold kp;constructor
 ·intro h;injection h with h;exact Int.ofNat.inj h
 ·intro h;rw [h]
def inner(ns:List Nat):List (Au×D):=ns.map λn=>(kp n,.bl true)
abbrev Cv:=List (Nat×List Nat)
def inT(ns:List Nat):Tn:=Tn.of (.dic (inner ns))
def Cb(st:Cv):List (Au×Tn):=st.map λx=>(kp x.1,inT x.2)
def Bw:Cv->Nat->Option (List Nat)
 | [],_=>none
 |(q,ns)::r,p=>if q=p then some ns else Bw r p
def rpS:Cv->Nat->List Nat->Cv
 | [],_,_=> []
 |(q,ns)::r,p,ms=>if q=p then(q,ms)::r else(q,ns)::rpS r p ms
theorem ak_1:∀(st:Cv) (p:Nat),Dy (Cb st) (kp p)=(Bw st p).map inT
 | [],_=>rfl
 |(q,ns)::r,p=>by
  have ih:=ak_1 r p;unfold Dy at ih⊢;show(((kp q,inT ns)::Cb r).find? λkv=>decide (kv.1=kp p)).map (·.2)=_;unfold Bw
  by_cases h:q=p
  ·rw [if_pos h,List.find?_cons_of_pos (by simpa [kp_inj] using h)];rfl
  ·rw [if_neg h,List.find?_cons_of_neg (by simpa [kp_inj] using h)];exact ih
theorem at_1(ms:List Nat):∀(st:Cv) (p:Nat),Et (Cb st) (kp p) (inT ms)=Cb (rpS st p ms)
 | [],_=>rfl
 |(q,ns)::r,p=>by
  show Et ((kp q,inT ns)::Cb r) (kp p) (inT ms)=_;unfold Et rpS
  by_cases h:q=p
  ·rw [if_pos h,if_pos (kp_inj.mpr h)];rfl
  ·rw [if_neg h,if_neg (λz=>h (kp_inj.mp z)),at_1 ms r p];rfl
def dw_5(a b:Cv):Cb (a ++ b)=Cb a ++ Cb b:=by unfold Cb;rw [List.map_append]
def dw_6(a:Cv):(Cb a).length=a.length:=by unfold Cb;rw [List.length_map]
def en_0(ns:List Nat):(inT ns).d=.dic (inner ns):=Tn.of_d _
theorem cn_8:∀st:Cv,Tn.ks (Cb st)=st.map λx=>(kp x.1,.dic (inner x.2))
 | []=>rfl
 |(q,ns)::r=>by
  show(kp q,(inT ns).d)::Tn.ks (Cb r)=_;rw [cn_8 r,en_0];rfl
theorem bx_0:∀(st:Cv) (p:Nat),Dy (Tn.ks (Cb st)) (kp p)=(Bw st p).map λns=> .dic (inner ns)
 | [],_=>rfl
 |(q,ns)::r,p=>by
  have ih:=bx_0 r p;rw [cn_8] at ih⊢;unfold Dy at ih⊢;rw [List.map_cons];unfold Bw
  by_cases h:q=p
  ·rw [if_pos h,List.find?_cons_of_pos (by simpa [kp_inj] using h)];rfl
  ·rw [if_neg h,List.find?_cons_of_neg (by simpa [kp_inj] using h)];exact ih
def cu_1(st:Cv)(p:Nat):Eg (Tn.ks (Cb st)) (kp p)=(Bw st p).isSome:=by
 unfold Eg;rw [bx_0,Option.isSome_map]
def aw_8(ns:List Nat):(inner ns).length=ns.length:=by unfold inner;rw [List.length_map]
theorem bh_3:∀(ns:List Nat) (n:Nat),Eg (inner ns) (kp n)=decide (n∈ns)
 | [],_=>by simp [inner,Eg,Dy]
 |m::ns,n=>by
  have ih:=bh_3 ns n;unfold Eg Dy at ih⊢;show((((kp m,D.bl true)::inner ns).find? λkv=>decide (kv.1=kp n)).map (·.2)).isSome=_
  by_cases h:m=n
  ·rw [List.find?_cons_of_pos (by simpa [kp_inj] using h)];simp [h]
  ·rw [List.find?_cons_of_neg (by simpa [kp_inj] using h),ih];simp [Ne.symm h]
def da_2(ns:List Nat)(n:Nat):((inner ns).any λkv=>decide (kv.1=kp n))=decide (n∈ns):=by
 induction ns with
 |nil=>rfl
 |cons m ns ih=>
  show(decide (kp m=kp n) || (inner ns).any λkv=>decide (kv.1=kp n))=_;rw [ih]
  by_cases h:m=n
  ·simp [h]
  ·simp [h,kp_inj,Ne.symm h]
def bq_9(ns:List Nat)(n:Nat):Eb (inner ns) (kp n) (.bl true)=inner (if n∈ns then ns else ns ++ [n]):=by
 unfold Eb;rw [da_2]
 by_cases h:n∈ns
 ·rw [if_pos (decide_eq_true h),if_pos h];unfold inner;rw [List.map_map];apply List.map_congr_left;intro m _;show(if kp m=kp n then(kp m,D.bl true) else(kp m,D.bl true))=_
  split <;> rfl
 ·rw [if_neg (by simpa using h),if_neg h];unfold inner;rw [List.map_append];rfl
def cn_9(ns:List Nat)(n:Nat):Fz (inner ns) (kp n)=inner (ns.filter λm=>decide (m≠n)):=by
 unfold Fz inner;rw [List.filter_map]
 congr 1
 apply List.filter_congr;intro m _;show decide (kp m≠kp n)=_
 by_cases h:m=n
 ·simp [h]
 ·simp [h,kp_inj]
theorem cu_2:∀(st:Cv) (p q:Nat) (ms:List Nat),Bw (rpS st p ms) q=if q=p then(Bw st p).map (λ_=>ms) else Bw st q
 | [],p,q,ms=>by simp [rpS,Bw]
 |(r,ns)::st,p,q,ms=>by
  unfold rpS
  by_cases h:r=p
  ·rw [if_pos h];unfold Bw
   by_cases h2:q=p
   ·rw [if_pos (by omega),if_pos h2,if_pos h];rfl
   ·rw [if_neg (by omega),if_neg h2,if_neg (by omega)]
  ·rw [if_neg h];unfold Bw
   by_cases h2:r=q
   ·rw [if_pos h2,if_neg (by omega),if_pos h2]
   ·rw [if_neg h2,cu_2 st p q ms,if_neg h,if_neg h2]
theorem bx_1:∀(st:Cv) (p:Nat) (ms:List Nat),(rpS st p ms).map (·.1)=st.map (·.1)
 | [],_,_=>rfl
 |(r,ns)::st,p,ms=>by
  unfold rpS
  split
  ·rfl
  ·rw [List.map_cons,List.map_cons,bx_1 st p ms]
theorem bx_2:∀(a:Cv) (p q:Nat) (ms:List Nat),Bw (a ++ [(p,ms)]) q=match Bw a q with|some ns=>some ns|none=>if p=q then some ms else none
 | [],p,q,ms=>rfl
 |(r,ns)::a,p,q,ms=>by
  show Bw ((r,ns)::(a ++ [(p,ms)])) q=_;unfold Bw
  by_cases h:r=q
  ·rw [if_pos h,if_pos h]
  ·rw [if_neg h,if_neg h,bx_2 a p q ms]
theorem dl_7:∀(a:Cv) (p:Nat) (ms ls:List Nat),Bw a p=none->rpS (a ++ [(p,ms)]) p ls=a ++ [(p,ls)]
 | [],p,ms,ls,_=>by show rpS [(p,ms)] p ls=_;unfold rpS;rw [if_pos rfl];rfl
 |(r,ns)::a,p,ms,ls,h=>by
  unfold Bw at h
  split at h
  ·cases h
  ·rename_i hn;show rpS ((r,ns)::(a ++ [(p,ms)])) p ls=_;unfold rpS;rw [if_neg hn,dl_7 a p ms ls h];rfl
theorem lk_mem:∀{st:Cv} {p:Nat},p∈st.map (·.1)↔(Bw st p).isSome=true
 | [],p=>by simp [Bw]
 |(r,ns)::st,p=>by
  unfold Bw
  by_cases h:r=p
  ·simp [h]
  ·rw [if_neg h,List.map_cons,List.mem_cons,lk_mem (st:=st)];constructor
   ·rintro (z|z)
    ·exact absurd z.symm h
    ·exact z
   ·exact λz=> .inr z
structure Rep(st:Cv)(R:Nat->Nat->Prop):Prop where
 at_:∀p ns,Bw st p=some ns->ns.Nodup/\∀n,n∈ns↔R n p
 all:∀n p,R n p->(Bw st p).isSome=true
def addS(st:Cv)(p n:Nat):Cv:=match Bw st p with
 |some ns=>rpS st p (if n∈ns then ns else ns ++ [n])
 |none=>st ++ [(p,[n])]
def Rep.add{st:Cv}{R:Nat->Nat->Prop}(h:Rep st R)(p n:Nat):Rep (addS st p n) (λn' p'=>R n' p'\/(n'=n/\p'=p)):=by
 unfold addS;cases e:Bw st p with
 |some ns=>
  obtain⟨h1,h2⟩:=h.at_ p ns e;refine⟨λq ms eq=> ?_,λn' p' z=> ?_⟩
  ·simp only [cu_2,e,Option.map_some] at eq
   by_cases hq:q=p
   ·rw [if_pos hq] at eq;cases eq;subst hq
    by_cases hn:n∈ns
    ·rw [if_pos hn];refine⟨h1,λm=>⟨λz=> .inl ((h2 m).mp z),λz=> ?_⟩⟩;rcases z with z|⟨rfl,_⟩
     ·exact(h2 m).mpr z
     ·exact hn
    ·rw [if_neg hn];refine⟨List.nodup_append.mpr ⟨h1,by simp,λa ha b hb=> ?_⟩,λm=> ?_⟩
     ·have:b=n:=by simpa using hb
      rintro rfl
      exact hn (this▸ha)
     ·rw [List.mem_append,h2 m,List.mem_singleton];constructor
      ·rintro (z|z)
       ·exact .inl z
       ·exact .inr ⟨z,rfl⟩
      ·rintro (z|⟨z,_⟩)
       ·exact .inl z
       ·exact .inr z
   ·rw [if_neg hq] at eq;obtain⟨k1,k2⟩:=h.at_ q ms eq;refine⟨k1,λm=>⟨λz=> .inl ((k2 m).mp z),λz=> ?_⟩⟩;rcases z with z|⟨_,z⟩
    ·exact(k2 m).mpr z
    ·exact absurd z hq
  ·simp only [cu_2,e,Option.map_some]
   by_cases hq:p'=p
   ·rw [if_pos hq];rfl
   ·rw [if_neg hq];rcases z with z|⟨_,z⟩
    ·exact h.all n' p' z
    ·exact absurd z hq
 |none=>
  refine⟨λq ms eq=> ?_,λn' p' z=> ?_⟩
  ·simp only [bx_2] at eq;cases e2:Bw st q with
   |some ns=>
    rw [e2] at eq;cases eq;obtain⟨k1,k2⟩:=h.at_ q _ e2;refine⟨k1,λm=>⟨λz=> .inl ((k2 m).mp z),λz=> ?_⟩⟩;rcases z with z|⟨_,z⟩
    ·exact(k2 m).mpr z
    ·subst z;rw [e] at e2;cases e2
   |none=>
    rw [e2] at eq
    by_cases hq:p=q
    ·simp only [hq,if_true] at eq;cases eq;subst hq;refine⟨by simp,λm=> ?_⟩;rw [List.mem_singleton];constructor
     ·exact λz=> .inr ⟨z,rfl⟩
     ·rintro (z|⟨z,_⟩)
      ·have:=h.all m p z;rw [e] at this;cases this
      ·exact z
    ·simp only [hq,if_false] at eq;cases eq
  ·simp only [bx_2];rcases z with z|⟨_,z⟩
   ·have:=h.all n' p' z;cases e2:Bw st p' with
    |some ns=>rfl
    |none=>rw [e2] at this;cases this
   ·subst z;rw [e];simp
def dw_7(st:Cv)(p n:Nat):(addS st p n).length<=st.length + 1:=by
 unfold addS
 split
 ·have:=congrArg List.length (bx_1 st p (if n∈(by assumption:List Nat) then(by assumption:List Nat) else(by assumption:List Nat) ++ [n]));rw [List.length_map,List.length_map] at this;omega
 ·simp
def Gr(st:Cv)(n:Nat)(ps:List Nat):Cv:=ps.foldl (λst p=>rpS st p (((Bw st p).getD []).filter λm=>decide (m≠n))) st
theorem al_4(n:Nat):∀(ps:List Nat) (st:Cv),(Gr st n ps).map (·.1)=st.map (·.1)
 | [],_=>rfl
 |p::ps,st=>by
  show(Gr (rpS st p _) n ps).map (·.1)=_;rw [al_4 n ps,bx_1]
theorem bd_4(n:Nat):∀(ps:List Nat) (st:Cv) (q:Nat),Bw (Gr st n ps) q=if q∈ps then(Bw st q).map (λns=>ns.filter λm=>decide (m≠n)) else Bw st q
 | [],st,q=>by simp [Gr]
 |p::ps,st,q=>by
  show Bw (Gr (rpS st p _) n ps) q=_;rw [bd_4 n ps,cu_2]
  by_cases h:q=p
  ·subst h;rw [if_pos rfl,if_pos (List.mem_cons_self ..)];cases e:Bw st q with
   |none=>simp
   |some ns=>
    simp only [Option.map_some,Option.getD_some]
    split
    ·rw [List.filter_filter];simp
    ·rfl
  ·rw [if_neg h]
   by_cases h2:q∈ps
   ·rw [if_pos h2,if_pos (List.mem_cons_of_mem _ h2)]
   ·rw [if_neg h2,if_neg (by simp [h,h2])]
def Rep.away{st:Cv}{R:Nat->Nat->Prop}(h:Rep st R)(n:Nat)(ps:List Nat)(hp:∀p,R n p->p∈ps):Rep (Gr st n ps) (λn' p'=>R n' p'/\n'≠n):=by
 refine⟨λq ms e=> ?_,λn' p' ⟨z,_⟩=> ?_⟩
 ·rw [bd_4] at e
  by_cases hq:q∈ps
  ·rw [if_pos hq] at e;obtain⟨ns,e1,rfl⟩:=Option.map_eq_some_iff.mp e;obtain⟨k1,k2⟩:=h.at_ q ns e1;refine⟨k1.filter _,λm=> ?_⟩;rw [List.mem_filter,k2 m];simp
  ·rw [if_neg hq] at e;obtain⟨k1,k2⟩:=h.at_ q ms e;refine⟨k1,λm=>⟨λz=>⟨(k2 m).mp z, ?_⟩,λz=>(k2 m).mpr z.1⟩⟩
   rintro rfl
   exact hq (hp q ((k2 m).mp z))
 ·rw [bd_4];have:=h.all n' p' z
  split
  ·rw [Option.isSome_map];exact this
  ·exact this
def zi(ps:List Nat):List D:=ps.map λp=>D.int ((p:Nat):Int)
def eT(ps:List Nat):D:=.tup (zi ps)
def eL(E:List (List Nat)):List D:=E.map eT
def z_4(l:List Nat):(zi l).length=l.length:=by unfold zi;rw [List.length_map]
def dl_8{l:List Nat}{i:Nat}{d:D}(h:(zi l)[i]? =some d):∃p,l[i]? =some p/\d=.int (p:Int):=by
 unfold zi at h;rw [List.getElem?_map] at h;obtain⟨p,e1,e2⟩:=Option.map_eq_some_iff.mp h;exact⟨p,e1,e2.symm⟩
def eg_5{E:List (List Nat)}{i:Nat}{d:D}(h:(eL E)[i]? =some d):∃ps,E[i]? =some ps/\d=eT ps:=by
 unfold eL at h;rw [List.getElem?_map] at h;obtain⟨p,e1,e2⟩:=Option.map_eq_some_iff.mp h;exact⟨p,e1,e2.symm⟩
def dz_4{E:List (List Nat)}{i:Nat}{ps:List Nat}(h:E[i]? =some ps):(eL E)[i]? =some (eT ps):=by
 unfold eL;rw [List.getElem?_map,h];rfl
def stSl(st:Cv)(a:Sl):Prop:=a=.tr (.dic (Cb st))\/(st= []/\a=.ow (.dic []))
theorem stSl.any{st:Cv}{a:Sl}(h:stSl st a):Sl.any a=some (.dic (Tn.ks (Cb st))):=by
 rcases h with rfl|⟨rfl,rfl⟩ <;> rfl
theorem stSl.tree{st:Cv}{a:Sl}(h:stSl st a):Sl.tree a=some (.dic (Cb st),false):=by
 rcases h with rfl|⟨rfl,rfl⟩ <;> rfl
def da_3{st:Cv}{a1:Sl}(h:stSl st a1)(a0:Sl)(n p:Nat)(a3:Sl)(hl:st.length < 1000)(hi:∀q ns,Bw st q=some ns->ns.length < 1000):
  n_8 [a0,a1,.sh (.int (n:Int)),a3,.sh (.int (p:Int))]=.nx [a0,.tr (.dic (Cb (addS st p n))),.sh (.int (n:Int)),a3,.sh (.int (p:Int))]:=by
 have hk:∀k:Nat,Dl (.int (k:Int))=some (kp k):=λ_=>rfl;unfold addS;cases e:Bw st p with
 |some ns=>
  have e1:inK true (.int (p:Int)) (.dic (Tn.ks (Cb st)))=.ok (.sh (.bl false)):=by
   simp only [inK,hk,cu_1,e];rfl
  have e2:Dy (Cb st) (kp p)=some (.dic ((inner ns).map λp=>(p.1,Tn.sh p.2))):=by rw [ak_1,e];rfl
  have e3:=cm_4 (inner ns);have e4:(inner ns).length < 16777216:=by rw [aw_8];have:=hi p ns e;omega
  have e5:Et (Cb st) (kp p) (Tn.of (.dic (inner (if n∈ns then ns else ns ++ [n]))))=Cb (rpS st p (if n∈ns then ns else ns ++ [n])):=at_1 _ st p
  simp_arith [n_8,Am,h.any,e1,bp_4,Option.bind_some,h.tree,hk,e2,e3,e4,bq_9,e5,Sl.mk]
 |none=>
  have e1:inK true (.int (p:Int)) (.dic (Tn.ks (Cb st)))=.ok (.sh (.bl true)):=by
   simp only [inK,hk,cu_1,e];rfl
  have e0:(Dy (Cb st) (kp p)).isSome=false:=by rw [ak_1,e];rfl
  have el:(Cb st).length < 16777216:=by rw [dw_6];omega
  have ea:Cb st ++ [(kp p,Tn.dic [])]=Cb (st ++ [(p,[])]):=by rw [dw_5];rfl
  have e2:Dy (Cb (st ++ [(p,[])])) (kp p)=some (.dic []):=by
   rw [ak_1,bx_2,e];simp only [if_true];rfl
  have e5:Et (Cb (st ++ [(p,[])])) (kp p) (Tn.of (.dic (inner [n])))=Cb (st ++ [(p,[n])]):=by
   have:=at_1 [n] (st ++ [(p,[])]) p;rw [dl_7 st p [] [n] e] at this;exact this
  have e6:unS []=some []:=rfl;have e7:Eb ([]:List (Au×D)) (kp n) (.bl true)=inner [n]:=rfl;have e8:(0:Nat) < 16777216:=by decide
  have t1:bp_5 1 (Ab 4) [a0,a1,.sh (.int (n:Int)),a3,.sh (.int (p:Int))]=.nx [a0,.tr (.dic (Cb (st ++ [(p,[])]))),.sh (.int (n:Int)),a3,.sh (.int (p:Int))]:=by
   simp_arith [bp_5,Am,Option.bind_some,h.tree,hk,e0,el,ea,Sl.mk]
  have t2:bp_4 1 (Ab 4) (Ab 2) (eC (.bl true)) [a0,.tr (.dic (Cb (st ++ [(p,[])]))),.sh (.int (n:Int)),a3,.sh (.int (p:Int))]=.nx [a0,.tr (.dic (Cb (st ++ [(p,[n])]))),.sh (.int (n:Int)),a3,.sh (.int (p:Int))]:=by
   simp_arith [bp_4,Am,Option.bind_some,Sl.tree,hk,e2,e6,e7,e8,e5,Sl.mk]
  have t0:Bv [1,4] (An (Aj (inK true) (Ab 4) (Ab 1))) (bp_5 1 (Ab 4)) Bf [a0,a1,.sh (.int (n:Int)),a3,.sh (.int (p:Int))]=.nx [a0,.tr (.dic (Cb (st ++ [(p,[])]))),.sh (.int (n:Int)),a3,.sh (.int (p:Int))]:=by
   rw [<-t1];simp only [Bv,Ar,List.map_cons,List.map_nil,cm_8,h.any,An,Aj,Ab,List.getElem?_cons_succ,List.getElem?_cons_zero,R.bind_ok,W.d_sh,e1,Dt,if_true]
  unfold n_8;rw [Bl t0,t2]
def few{l:List Nat}{n:Nat}(h:l.Nodup)(hb:∀x∈l,x < n):l.length<=n:=by
 have:=List.Nodup.length_le_of_subset (l₂:=List.range n) h λx hx=>List.mem_range.mpr (hb x hx)
 rwa [List.length_range] at this
def tot(E:List (List Nat)):Nat:=(E.map List.length).sum
def dl_9{E:List (List Nat)}{k:Nat}{ps:List Nat}(h:E[k]? =some ps):tot (E.take (k + 1))=tot (E.take k) + ps.length:=by
 unfold tot;rw [List.take_add_one,h,List.map_append,List.sum_append];simp
theorem az_7:∀(l:List Nat) (k:Nat),(l.take k).sum<=l.sum
 | [],k=>by simp
 |a::l,0=>by simp
 |a::l,k + 1=>by
  have:=az_7 l k;simp only [List.take_succ_cons,List.sum_cons];omega
def eg_6(E:List (List Nat))(k:Nat):tot (E.take k)<=tot E:=by
 unfold tot;rw [List.map_take];exact az_7 _ k
def RE(E:List (List Nat))(n p:Nat):Prop:=∃e,E[n]? =some e/\p∈e
def Rep.imp{st:Cv}{R R':Nat->Nat->Prop}(h:Rep st R)(i:∀n p,R n p↔R' n p):Rep st R':=
 ⟨λp ns e=>⟨(h.at_ p ns e).1,λn=>((h.at_ p ns e).2 n).trans (i n p)⟩,λn p z=>h.all n p ((i n p).mpr z)⟩
def Rep.small{st:Cv}{R:Nat->Nat->Prop}(h:Rep st R){N:Nat}(hb:∀n p,R n p->n < N){q:Nat}{ns:List Nat}(e:Bw st q=some ns):ns.length<=N:=by
 obtain⟨h1,h2⟩:=h.at_ q ns e;exact few h1 λx hx=>hb x q ((h2 x).mp hx)
def co_1{st:Cv}{a1:Sl}(h:stSl st a1)(a0:Sl)(n:Nat)(ps:List Nat)(a4:Sl){R:Nat->Nat->Prop}(hR:Rep st R){N:Nat}(hb:∀m p,R m p->m < N)(hn:n < N)(hN:N<=900)(hl:st.length + ps.length<=900):
  ∃st' a1' a4',Rep st' (λm p=>R m p\/(m=n/\p∈ps))/\stSl st' a1'/\st'.length<=st.length + ps.length/\n_9 [a0,a1,.sh (.int (n:Int)),.sh (eT ps),a4]=.nx [a0,a1',.sh (.int (n:Int)),.sh (eT ps),a4']:=by
 obtain⟨Δ',e,st',a1',a4',r',s',l',rfl⟩:=h_3 (gV 4) n_8 (λk Δ=>∃st' a1' a4',Rep st' (λm p=>R m p\/(m=n/\p∈ps.take k))/\stSl st' a1'/\st'.length<=st.length + k/\Δ= [a0,a1',.sh (.int (n:Int)),.sh (eT ps),a4']) (ds:=zi ps) (Δ:=[a0,a1,.sh (.int (n:Int)),.sh (eT ps),a4])
  ⟨st,a1,a4,hR.imp λm p=>by simp,h,by omega,rfl⟩ (λk d Δ hd hI=>by
   obtain⟨st',a1',a4',r',s',l',rfl⟩:=hI;obtain⟨p,hp,rfl⟩:=dl_8 hd;have hk:k < ps.length:=(List.getElem?_eq_some_iff.mp hp).1;have bd:∀m q,(R m q\/(m=n/\q∈ps.take k))->m < N:=λm q z=>by
    rcases z with z|⟨z,_⟩
    ·exact hb m q z
    ·omega
   refine⟨_,rfl,_,.inl (da_3 s' a0 n p (.sh (eT ps)) (by omega) λq ns e=> ?_),addS st' p n,_,_,(r'.add p n).imp λm q=> ?_,.inl rfl, ?_,rfl⟩
   ·have:=r'.small bd e;omega
   ·rw [List.take_add_one,hp];simp only [Option.toList_some,List.mem_append,List.mem_singleton];constructor
    ·rintro ((z|⟨z1,z2⟩)|⟨z1,z2⟩)
     ·exact .inl z
     ·exact .inr ⟨z1,.inl z2⟩
     ·exact .inr ⟨z1,.inr z2⟩
    ·rintro (z|⟨z1,z2|z2⟩)
     ·exact .inl (.inl z)
     ·exact .inl (.inr ⟨z1,z2⟩)
     ·exact .inr ⟨z1,z2⟩
   ·have:=dw_7 st' p n;omega)
 rw [z_4,List.take_length] at r';rw [z_4] at l';refine⟨st',a1',a4',r',s',l', ?_⟩;have hi:∀δ:List (Option D),Db (Ab 3) (some (D.non)::none::none::some (eT ps)::δ)=.ok (zi ps):=λ_=>rfl;simp only [n_9,Bu];have e1:Db (Ab 3) (Bb [a0,a1,.sh (.int (n:Int)),.sh (eT ps),a4])=.ok (zi ps):=rfl;rw [e1];exact e
def da_4(E:List (List Nat))(hE:E.length<=900)(hT:tot E<=900):∃st a1,Rep st (RE E)/\stSl st a1/\st.length<=tot E/\∃w,q_4 [.lst (eL E)]=.ok w/\((a1=.tr (.dic (Cb st))/\w=.tr (.dic (Cb st)))\/(st= []/\a1=.ow (.dic [])/\w=.ow (.dic []))):=by
 obtain⟨Δ',e,st,a1,a2,a3,a4,r,s,l,rfl⟩:=h_3 (Gb 2 3) n_9 (λk Δ=>∃st a1 a2 a3 a4,Rep st (λn p=>RE E n p/\n < k)/\stSl st a1/\st.length<=tot (E.take k)/\Δ= [.sh (.lst (eL E)),a1,a2,a3,a4]) (ds:=Gc 0 (eL E)) (Δ:=[.sh (.lst (eL E)),.ow (.dic []),.no,.no,.no])
  ⟨[],_,_,_,_,⟨λp ns e=>(by cases e),λn p z=>(by omega)⟩,.inr ⟨rfl,rfl⟩,Nat.zero_le _,rfl⟩ (λk d Δ hd hI=>by
   obtain⟨st,a1,a2,a3,a4,r,s,l,rfl⟩:=hI;obtain⟨d',e1,rfl⟩:=p_5 hd;obtain⟨ps,e2,rfl⟩:=eg_5 e1;have hk:k < E.length:=(List.getElem?_eq_some_iff.mp e2).1;have t1:=dl_9 e2;have t2:=eg_6 E (k + 1);rw [Nat.zero_add];obtain⟨st',a1',a4',r',s',l',e3⟩:=co_1 s (.sh (.lst (eL E))) k ps a4 r (N:=E.length) (λm p z=>by omega) hk hE (by omega);refine⟨_,rfl,_,.inl e3,st',a1',_,_,a4',r'.imp λm p=> ?_,s',by omega,rfl⟩;constructor
   ·rintro (⟨z1,z2⟩|⟨rfl,z⟩)
    ·exact⟨z1,by omega⟩
    ·exact⟨⟨ps,e2,z⟩,by omega⟩
   ·rintro ⟨⟨e,z1,z2⟩,z3⟩
    by_cases h:m=k
    ·subst h;rw [e2] at z1;cases z1;exact .inr ⟨rfl,z2⟩
    ·exact .inl ⟨⟨e,z1,z2⟩,by omega⟩)
 have hle:(Gc 0 (eL E)).length=E.length:=by
  have:∀(l:List D) (k:Nat),(Gc k l).length=l.length:=λl=>by
   induction l with
   |nil=>intro k;rfl
   |cons d l ih=>intro k;show(Gc (k + 1) l).length + 1=l.length + 1;rw [ih]
  rw [this];unfold eL;rw [List.length_map]
 rw [hle] at r l;rw [List.take_length] at l;refine⟨st,a1,r.imp λn p=>⟨λz=>z.1,λz=>⟨z, ?_⟩⟩,s,l, ?_⟩
 ·obtain⟨e,z1,_⟩:=z;exact(List.getElem?_eq_some_iff.mp z1).1
 ·have e1:u_5 (Ab 0) (Bb [.sh (.lst (eL E)),.ow (.dic []),.no,.no,.no])=.ok (Gc 0 (eL E)):=rfl;have t1:Bu [0] (u_5 (Ab 0)) (Gb 2 3) n_9 [.sh (.lst (eL E)),.ow (.dic []),.no,.no,.no]=.nx [.sh (.lst (eL E)),a1,a2,a3,a4]:=by
   simp only [Bu];rw [e1];exact e
  have t0:Ag 1 [] as_2 (Ay 5 [.lst (eL E)])=.nx [.sh (.lst (eL E)),.ow (.dic []),.no,.no,.no]:=rfl;rcases s with rfl|⟨rfl,rfl⟩
  ·refine⟨_,r_4 ?_,.inl ⟨rfl,rfl⟩⟩;unfold ab_1;rw [Bl t0,Bl t1];rfl
  ·refine⟨_,r_4 ?_,.inr ⟨rfl,rfl,rfl⟩⟩;unfold ab_1;rw [Bl t0,Bl t1];rfl
def da_5(st:Cv)(n:Nat){ps:List Nat}{k p:Nat}(h:ps[k]? =some p):Gr st n (ps.take (k + 1))=rpS (Gr st n (ps.take k)) p (((Bw (Gr st n (ps.take k)) p).getD []).filter λm=>decide (m≠n)):=by
 unfold Gr;rw [List.take_add_one,h,List.foldl_append];rfl
def dw_8(st:Cv)(n:Nat)(ps:List Nat)(hp:∀p∈ps,(Bw st p).isSome=true):o_9 [.int (n:Int),eT ps] (.dic (Cb st))=some (.dic (Cb (Gr st n ps))):=by
 obtain⟨Δ',e,a3,rfl⟩:=h_3 (gV 3) ab_2 (λk Δ=>∃a3,Δ= [.sh (.int (n:Int)),.sh (eT ps),.lt (.dic (Cb (Gr st n (ps.take k)))),a3]) (ds:=zi ps) (Δ:=[.sh (.int (n:Int)),.sh (eT ps),.lt (.dic (Cb st)),.no])
  ⟨_,rfl⟩ (λk d Δ hd hI=>by
   obtain⟨a3,rfl⟩:=hI;obtain⟨p,hk,rfl⟩:=dl_8 hd;have hs:(Bw (Gr st n (ps.take k)) p).isSome=true:=by
    rw [<-lk_mem,al_4,lk_mem];exact hp p (List.mem_of_getElem? hk)
   cases e1:Bw (Gr st n (ps.take k)) p with
   |none=>rw [e1] at hs;cases hs
   |some ns=>
    have kk:∀k:Nat,Dl (.int (k:Int))=some (kp k):=λ_=>rfl;have e2:Dy (Cb (Gr st n (ps.take k))) (kp p)=some (.dic ((inner ns).map λp=>(p.1,Tn.sh p.2))):=by rw [ak_1,e1];rfl
    have e3:=cm_4 (inner ns);have e5:=at_1 (ns.filter λm=>decide (m≠n)) (Gr st n (ps.take k)) p;unfold inT at e5;refine⟨_,rfl,[.sh (.int (n:Int)),.sh (eT ps),.lt (.dic (Cb (Gr st n (ps.take (k + 1))))),.sh (.int (p:Int))],.inl ?_,_,rfl⟩;rw [da_5 st n hk,e1,Option.getD_some]
    simp_arith [ab_2,cs_0,Am,Option.bind_some,Sl.tree,ee_7,kk,e2,e3,cn_9,e5,Sl.mk])
 rw [z_4,List.take_length] at e;unfold o_9 cd_1;have e1:az_0 (bu_6 4 [.int (n:Int),eT ps] (.dic (Cb st)))=.nx [.sh (.int (n:Int)),.sh (eT ps),.lt (.dic (Cb (Gr st n ps))),a3]:=e;rw [e1];rfl
def Ch(ord:List (Nat×Nat)):List D:=ord.map λx=> .tup [.int (x.1:Int),.int (x.2:Int)]
abbrev Qd(E:List (List Nat))(a1 s2:Sl)(w:List Nat)(ord:List (Nat×Nat))(a6:Sl)(p:Nat)(x0:Sl):SE:=[.sh (.lst (eL E)),a1,s2,.ow (.lst (zi w)),.ow (.lst (Ch ord)),.ow (.dic (inner (ord.map (·.1)))),a6,.sh (.int (p:Int)),x0]
def Ew(E:List (List Nat))(T:List Nat):Nat:=(((List.range E.length).filter λn=>decide (n∉T)).map λn=>(E.getD n []).length).sum
structure Peel(E:List (List Nat))(st:Cv)(ord:List (Nat×Nat)):Prop where
 rep:Rep st (λn p=>RE E n p/\n∉ord.map (·.1))
 nd:(ord.map (·.1)).Nodup
 ok:∀x∈ord,RE E x.1 x.2
 alone:∀x∈ord,∀m,m∉ord.map (·.1)->¬RE E m x.2
 pw:ord.Pairwise λx y=>¬RE E y.1 x.2
 keys:∀n p,RE E n p->(Bw st p).isSome=true
def RE.lt{E:List (List Nat)}{n p:Nat}(h:RE E n p):n < E.length:=by
 obtain⟨e,h1,_⟩:=h;exact(List.getElem?_eq_some_iff.mp h1).1
def Peel.next{E:List (List Nat)}{st:Cv}{ord:List (Nat×Nat)}(h:Peel E st ord){p n:Nat}{ps:List Nat}(hl:Bw st p=some [n])(he:E[n]? =some ps):Peel E (Gr st n ps) (ord ++ [(n,p)])/\n∉ord.map (·.1):=by
 obtain⟨_,h2⟩:=h.rep.at_ p [n] hl;have hn:=(h2 n).mp (by simp);have only:∀m,RE E m p->m∉ord.map (·.1)->m=n:=λm z1 z2=>by
  have:=(h2 m).mpr ⟨z1,z2⟩;simpa using this
 refine⟨⟨?_, ?_, ?_, ?_, ?_, ?_⟩,hn.2⟩
 ·refine(h.rep.away n ps λq z=> ?_).imp λm q=> ?_
  ·obtain⟨⟨e,z1,z2⟩,_⟩:=z;rw [he] at z1;cases z1;exact z2
  ·simp only [List.map_append,List.map_cons,List.map_nil,List.mem_append,List.mem_singleton];constructor
   ·rintro ⟨⟨z1,z2⟩,z3⟩
    exact⟨z1,λz=>z.elim z2 z3⟩
   ·rintro ⟨z1,z2⟩
    exact⟨⟨z1,λz=>z2 (.inl z)⟩,λz=>z2 (.inr z)⟩
 ·rw [List.map_append];refine List.nodup_append.mpr ⟨h.nd,by simp,λa ha b hb=> ?_⟩;have:b=n:=by simpa using hb
  rintro rfl
  exact hn.2 (this▸ha)
 ·intro x hx;rcases List.mem_append.mp hx with hx|hx
  ·exact h.ok x hx
  ·have:x=(n,p):=by simpa using hx
   rw [this];exact hn.1
 ·intro x hx m hm;have hm':m∉ord.map (·.1):=λz=>hm (by rw [List.map_append];exact List.mem_append_left _ z);rcases List.mem_append.mp hx with hx|hx
  ·exact h.alone x hx m hm'
  ·have:x=(n,p):=by simpa using hx
   subst this;intro z;have:=only m z hm';exact hm (by rw [this];simp)
 ·refine List.pairwise_append.mpr ⟨h.pw,by simp,λx hx y hy=> ?_⟩;have:y=(n,p):=by simpa using hy
  subst this;exact h.alone x hx n hn.2
 ·intro m q z;rw [<-lk_mem,al_4,lk_mem];exact h.keys m q z
theorem ag_8{f:Nat->Nat}{n:Nat}:∀{l:List Nat} {P Q:Nat->Bool},l.Nodup->n∈l->P n=true->Q n=false->(∀m,m≠n->Q m=P m)->((l.filter P).map f).sum=((l.filter Q).map f).sum + f n
 | [],_,_,_,h,_,_,_=>by cases h
 |a::l,P,Q,nd,h,h1,h2,h3=>by
  rw [List.nodup_cons] at nd
  by_cases ha:a=n
  ·subst ha;have:l.filter P=l.filter Q:=List.filter_congr λm hm=>(h3 m λz=>nd.1 (z▸hm)).symm;rw [List.filter_cons_of_pos h1,List.filter_cons_of_neg (by rw [h2];decide),this,List.map_cons,List.sum_cons];omega
  ·have hm:n∈l:=by
    rcases List.mem_cons.mp h with z|z
    ·exact absurd z.symm ha
    ·exact z
   have ih:=ag_8 (f:=f) nd.2 hm h1 h2 h3;have e:=h3 a ha;cases hp:P a with
   |true=>
    rw [List.filter_cons_of_pos hp,List.filter_cons_of_pos (by rw [e];exact hp),List.map_cons,List.sum_cons,List.map_cons,List.sum_cons,ih];omega
   |false=>rw [List.filter_cons_of_neg (by rw [hp];decide),List.filter_cons_of_neg (by rw [e,hp];decide),ih]
def da_6{E:List (List Nat)}{T:List Nat}{n:Nat}{ps:List Nat}(he:E[n]? =some ps)(hn:n∉T):Ew E T=Ew E (T ++ [n]) + ps.length:=by
 have hlt:n < E.length:=(List.getElem?_eq_some_iff.mp he).1;unfold Ew;rw [ag_8 (f:=λn=>(E.getD n []).length) (n:=n) (Q:=λm=>decide (m∉T ++ [n])) List.nodup_range (List.mem_range.mpr hlt) (by simpa using hn) (by simp) λm hm=>by simp [hm]];simp only [List.getD_eq_getElem?_getD,he,Option.getD_some]
def dw_9(E:List (List Nat)):Ew E []=tot E:=by
 unfold Ew tot;have:(List.range E.length).filter (λn=>decide (n∉([]:List Nat)))=List.range E.length:=by
  rw [List.filter_eq_self];simp
 rw [this]
 congr 1
 apply List.ext_getElem
 ·simp
 ·intro i h1 h2;simp only [List.getElem_map,List.getElem_range];have hi:i < E.length:=by simpa using h2
  rw [List.getD_eq_getElem?_getD,List.getElem?_eq_getElem hi,Option.getD_some]
theorem dm_0:∀{l:List Nat} {x:Nat},x∈l->x<=l.sum
 |a::l,x,h=>by
  rw [List.sum_cons];rcases List.mem_cons.mp h with z|z
  ·omega
  ·have:=dm_0 z;omega
def turn{E:List (List Nat)}{st:Cv}{ord:List (Nat×Nat)}(h:Peel E st ord)(hE:E.length<=900)(a1 a6 a7 a8:Sl){s2:Sl}(hs:stSl st s2){w:List Nat}{p:Nat}(hp:(Bw st p).isSome=true)(hW:w.length + tot E<=100000)(ho:ord.length<=900):
  ∃st' ai w' s2' a8',Peel E st' ai/\stSl st' s2'/\(∀q∈w',q∈w\/∃m,RE E m q)/\ai.length<=ord.length + 1/\w'.length + Ew E (ai.map (·.1))=w.length + Ew E (ord.map (·.1))/\st'.map (·.1)=st.map (·.1)/\((∀q m,Bw st q=some [m]->q∈w ++ [p])->∀q m,Bw st' q=some [m]->q∈w')/\
   v_0 [.sh (.lst (eL E)),a1,s2,.ow (.lst (zi (w ++ [p]))),.ow (.lst (Ch ord)),.ow (.dic (inner (ord.map (·.1)))),a6,a7,a8]=.nx [.sh (.lst (eL E)),a1,s2',.ow (.lst (zi w')),.ow (.lst (Ch ai)),.ow (.dic (inner (ai.map (·.1)))),a6,.sh (.int (p:Int)),a8']:=by
 have kk:∀k:Nat,Dl (.int (k:Int))=some (kp k):=λ_=>rfl;have z1:(zi (w ++ [p]))[(zi (w ++ [p])).length - 1]? =some (.int (p:Int)):=by
  rw [z_4];unfold zi;rw [List.getElem?_map,List.length_append];simp
 have z2:(zi (w ++ [p])).dropLast=zi w:=by unfold zi;rw [List.map_append];simp
 have t1:cd_0 7 3 [.sh (.lst (eL E)),a1,s2,.ow (.lst (zi (w ++ [p]))),.ow (.lst (Ch ord)),.ow (.dic (inner (ord.map (·.1)))),a6,a7,a8]=.nx (Qd E a1 s2 w ord a6 p a8):=by
  simp only [cd_0,List.getElem?_cons_succ,List.getElem?_cons_zero,z1,z2,List.set_cons_succ,List.set_cons_zero]
 cases e:Bw st p with
 |none=>rw [e] at hp;cases hp
 |some ns=>
  have g1:Eu (.dic (Tn.ks (Cb st))) (.int (p:Int))=.ok (.sh (.dic (inner ns))):=by
   simp only [Eu,kk,bx_0,e,Option.map_some]
  have g2:lenK [.dic (inner ns)]=.ok (.sh (.int (ns.length:Int))):=by simp only [lenK,aw_8]
  have an:=hs.any
  by_cases hl:(ns.length:Int)=1
  ·obtain⟨n,rfl⟩:=List.length_eq_one_iff.mp (show ns.length=1 by omega);obtain⟨⟨ps,he,hpp⟩,_⟩:=((h.rep.at_ p [n] e).2 n).mp (by simp);obtain⟨h',hn⟩:=h.next e he;have m1:minK [.dic (inner [n])]=.ok (.sh (.int (n:Int))):=rfl;have hT:=dw_8 st n ps λq hq=>h.keys n q ⟨ps,he,hq⟩;have hI:Bn (.lst (eL E)) (.int (n:Int))=.ok (.sh (eT ps)):=aw_2 (Fx (dz_4 he));have fm:Eb (inner (ord.map (·.1))) (kp n) (.bl true)=inner ((ord ++ [(n,p)]).map (·.1)):=by
    rw [bq_9,if_neg hn,List.map_append];rfl
   have hlo:(Ch ord).length < 16777216:=by unfold Ch;rw [List.length_map];omega
   have hli:(inner (ord.map (·.1))).length < 16777216:=by rw [aw_8,List.length_map];omega
   have hps:ps.length<=tot E:=by
    unfold tot;have hm:ps.length∈E.map List.length:=List.mem_map.mpr ⟨ps,List.mem_of_getElem? he,rfl⟩;exact dm_0 hm
   have hlw:(zi w).length + (zi ps).length<=16777216:=by rw [z_4,z_4];omega
   refine⟨Gr st n ps,ord ++ [(n,p)],w ++ ps,.tr (.dic (Cb (Gr st n ps))),.sh (.int (n:Int)),h',.inl rfl,λq hq=> ?_,by simp, ?_,al_4 n ps st,λhc q m eq=> ?_, ?_⟩
   ·rcases List.mem_append.mp hq with z|z
    ·exact .inl z
    ·exact .inr ⟨n,ps,he,z⟩
   ·rw [List.length_append,da_6 he hn,List.map_append];show w.length + ps.length + Ew E (ord.map (·.1) ++ [n])=_;omega
   ·rw [bd_4] at eq
    by_cases hq:q∈ps
    ·exact List.mem_append_right _ hq
    ·rw [if_neg hq] at eq;rcases List.mem_append.mp (hc q m eq) with z|z
     ·exact List.mem_append_left _ z
     ·have:q=p:=by simpa using z
      subst this;exact absurd hpp hq
   ·unfold v_0;rw [Bl t1];have hz:zi w ++ zi ps=zi (w ++ ps):=by unfold zi;rw [List.map_append]
    have ho2:Ch ord ++ [.tup [.int (n:Int),.int (p:Int)]]=Ch (ord ++ [(n,p)]):=by unfold Ch;rw [List.map_append];rfl
    have ht:=hs.tree;have u1:Ag 8 [2,7] (Ah minK (Aa (Aj Eu (Ab 2) (Ab 7)) Ac)) (Qd E a1 s2 w ord a6 p a8)=.nx (Qd E a1 s2 w ord a6 p (.sh (.int (n:Int)))):=by
     have v1:Ah minK (Aa (Aj Eu (Ab 2) (Ab 7)) Ac) (Bb (Qd E a1 s2 w ord a6 p a8))=.no:=by
      rcases hs with rfl|⟨_,rfl⟩ <;> rfl
     have v2:Ah minK (Aa (Aj Eu (Ab 2) (Ab 7)) Ac) (Ar (Qd E a1 s2 w ord a6 p a8))=.ok (.sh (.int (n:Int))):=by
      simp_arith [Am,an,g1,m1]
     unfold Ag;rw [v1,v2];rfl
    have u5:bg_0 2 o_9 (Ab 8) (Aj Bn (Ab 0) (Ab 8)) [.sh (.lst (eL E)),a1,s2,.ow (.lst (zi w)),.ow (.lst (Ch (ord ++ [(n,p)]))),.ow (.dic (inner ((ord ++ [(n,p)]).map (·.1)))),a6,.sh (.int (p:Int)),.sh (.int (n:Int))]=.nx [.sh (.lst (eL E)),a1,.tr (.dic (Cb (Gr st n ps))),.ow (.lst (zi w)),.ow (.lst (Ch (ord ++ [(n,p)]))),.ow (.dic (inner ((ord ++ [(n,p)]).map (·.1)))),a6,.sh (.int (p:Int)),.sh (.int (n:Int))]:=by
     simp_arith [bg_0,Am,Option.bind_some,ht,hI,hT,Sl.mk]
    have test:An (Aj Ck (Ah lenK (Aa (Aj Eu (Ab 2) (Ab 7)) Ac)) (eC (.int 1))) (Ar (Qd E a1 s2 w ord a6 p a8))=.ok true:=by
     have g3:lenK [.dic (inner [n])]=.ok (.sh (.int 1)):=rfl
     simp_arith [Am,an,g1,g3,Fq]
    unfold Bv;rw [test];show Af _ _ _=_;rw [Bl u1];have u2:∀g:FS,Af (Ea 4 (eTup (Aa (Ab 8) (Aa (Ab 7) Ac)))) g (Qd E a1 s2 w ord a6 p (.sh (.int (n:Int))))=g [.sh (.lst (eL E)),a1,s2,.ow (.lst (zi w)),.ow (.lst (Ch (ord ++ [(n,p)]))),.ow (.dic (inner (ord.map (·.1)))),a6,.sh (.int (p:Int)),.sh (.int (n:Int))]:=λg=>Bl (by simp_arith [Ea,Am,hlo,ho2]);have u3:∀g:FS,Af (as_3 5 [] (Ab 8) (eC (.bl true))) g [.sh (.lst (eL E)),a1,s2,.ow (.lst (zi w)),.ow (.lst (Ch (ord ++ [(n,p)]))),.ow (.dic (inner (ord.map (·.1)))),a6,.sh (.int (p:Int)),.sh (.int (n:Int))]=g [.sh (.lst (eL E)),a1,s2,.ow (.lst (zi w)),.ow (.lst (Ch (ord ++ [(n,p)]))),.ow (.dic (inner ((ord ++ [(n,p)]).map (·.1)))),a6,.sh (.int (p:Int)),.sh (.int (n:Int))]:=λg=>Bl (by simp_arith [as_3,Am,kk,hli,fm]);rw [u2,u3,Bl u5]
    simp_arith [sExt,Am,hI,eT,hlw,hz]
  ·refine⟨st,ord,w,s2,a8,h,hs,λq hq=> .inl hq,by omega,rfl,rfl,λhc q m eq=> ?_, ?_⟩
   ·rcases List.mem_append.mp (hc q m eq) with z|z
    ·exact z
    ·have:q=p:=by simpa using z
     subst this;rw [e] at eq;cases eq;exact absurd rfl hl
   unfold v_0;rw [Bl t1];have test:An (Aj Ck (Ah lenK (Aa (Aj Eu (Ab 2) (Ab 7)) Ac)) (eC (.int 1))) (Ar (Qd E a1 s2 w ord a6 p a8))=.ok false:=by
    simp_arith [Am,an,g1,g2,Fq,hl]
   unfold Bv;rw [test];rfl
abbrev Qe(E:List (List Nat))(ik:Int)(s2':Sl)(ord:List (Nat×Nat))(x0 x1 x2 x3:Sl):SE:=[.sh (.lst (eL E)),.sh (.int ik),s2',.ow (.lst []),.ow (.lst (Ch ord)),x0,x1,x2,x3]
def da_7(E:List (List Nat))(hE:E.length<=900)(hT:tot E<=900)(a1 a6:Sl):∀(k:Nat) (st:Cv) (ord:List (Nat×Nat)) (w:List Nat) (s2 a7 a8:Sl) (fuel:Nat),Peel E st ord->stSl st s2->(∀q∈w,(Bw st q).isSome=true)->w.length + Ew E (ord.map (·.1))=k->k < fuel->k<=1800->(∀q m,Bw st q=some [m]->q∈w)->
  ∃st' ai s2' a7' a8',Peel E st' ai/\stSl st' s2'/\(∀q m,Bw st' q≠some [m])/\
   Gy [3] af_2 v_0 fuel [.sh (.lst (eL E)),a1,s2,.ow (.lst (zi w)),.ow (.lst (Ch ord)),.ow (.dic (inner (ord.map (·.1)))),a6,a7,a8]=.nx [.sh (.lst (eL E)),a1,s2',.ow (.lst []),.ow (.lst (Ch ai)),.ow (.dic (inner (ai.map (·.1)))),a6,a7',a8']:=by
 intro k
 induction k with
 |zero=>
  intro st ord w s2 a7 a8 fuel h hs hw hk hf _ hc;have hw0:w= []:=List.eq_nil_of_length_eq_zero (by omega);subst hw0;obtain⟨f,rfl⟩:∃f,fuel=f + 1:=⟨fuel - 1,by omega⟩;refine⟨st,ord,s2,a7,a8,h,hs,λq m eq=> ?_,aw_3 ?_⟩
  ·have:=hc q m eq;simp at this
  ·rcases hs with rfl|⟨_,rfl⟩ <;> rfl
 |succ k ih=>
  intro st ord w s2 a7 a8 fuel h hs hw hk hf hb hc;obtain⟨f,rfl⟩:∃f,fuel=f + 1:=⟨fuel - 1,by omega⟩;rcases List.eq_nil_or_concat w with rfl|⟨w0,p,rfl⟩
  ·refine⟨st,ord,s2,a7,a8,h,hs,λq m eq=> ?_,aw_3 ?_⟩
   ·have:=hc q m eq;simp at this
   ·rcases hs with rfl|⟨_,rfl⟩ <;> rfl
  ·have ho:ord.length<=900:=by
    have:=few h.nd (n:=E.length) λx hx=>by
     obtain⟨y,hy,rfl⟩:=List.mem_map.mp hx;exact(h.ok y hy).lt
    rw [List.length_map] at this;omega
   rw [List.concat_eq_append] at *
   obtain⟨st',ai,w',s2',a8',h',hs',hw',_,hm',hk',hc',e⟩:=turn h hE a1 a6 a7 a8 hs (w:=w0) (p:=p) (hw p (by simp)) (by rw [List.length_append] at hk;simp at hk;omega) ho;have bt:∀q,(Bw st q).isSome=true->(Bw st' q).isSome=true:=λq z=>by
    rw [<-lk_mem,hk',lk_mem];exact z
   obtain⟨st2,fb,s3,a7',dz,h2,hs2,hc2,e2⟩:=ih st' ai w' s2' (.sh (.int (p:Int))) a8' f h' hs' (λq hq=>by
    rcases hw' q hq with z|⟨m,z⟩
    ·exact bt q (hw q (by simp [z]))
    ·exact h'.keys m q z) (by rw [hm'];rw [List.length_append] at hk;simp at hk;omega) (by omega) (by omega) (hc' hc)
   refine⟨st2,fb,s3,a7',dz,h2,hs2,hc2, ?_⟩;rw [cd_5 (Δ':=[.sh (.lst (eL E)),a1,s2',.ow (.lst (zi w')),.ow (.lst (Ch ai)),.ow (.dic (inner (ai.map (·.1)))),a6,.sh (.int (p:Int)),a8']) ?_ e]
   ·exact e2
   ·have hz:(0:Int) < ((zi (w0 ++ [p])).length:Int):=by rw [z_4,List.length_append];simp
    simp_arith [af_2,Am,cm_8,Hl,di_6,hz]
def Ep(E:List (List Nat))(ord:List (Nat×Nat)):List Nat:=(List.range E.length).filter λn=>decide (n∉ord.map (·.1))
def br_0(n:Nat):Cc 0 n=zi (List.range n):=by
 unfold Cc zi;apply List.map_congr_left;intro k _;rw [Int.zero_add]
def da_8(E:List (List Nat))(ik:Int)(hE:E.length<=900)(hT:tot E<=900):∃(st:Cv) (ord:List (Nat×Nat)),Peel E st ord/\(∀q m,Bw st q≠some [m])/\
  as_7 [.lst (eL E),.int ik]=.ok (.tr (.tup [Tn.of (.lst (Ch ord)),Tn.of (.lst (zi (Ep E ord)))])):=by
 obtain⟨st,s2,r,hs,hl,w,ew,hw⟩:=da_4 E hE hT;have P0:Peel E st []:=⟨r.imp λn p=>by simp,by simp,λx h=>by simp at h,λx h=>by simp at h,by simp,λn p z=>r.all n p z⟩;have bx:(Tn.ks (Cb st)).map (λp=>kD p.1)=zi (st.map (·.1)):=by
  rw [cn_8,List.map_map];unfold zi;rw [List.map_map];rfl
 obtain⟨st',ord,s2',a7,a8,h',hs',hc',e⟩:=da_7 E hE hT (.sh (.int ik)) .no (st.length + tot E) st [] (st.map (·.1)) s2 .no .no 3000 P0 hs (λq hq=>lk_mem.mp hq) (by rw [List.length_map,List.map_nil,dw_9]) (by omega) (by omega) (λq m eq=>lk_mem.mpr (by rw [eq];rfl));refine⟨st',ord,h',hc', ?_⟩;have t1:Ag 2 [0] (At 1 q_4 (Aa (Ab 0) Ac)) (Ay 9 [.lst (eL E),.int ik])=.nx [.sh (.lst (eL E)),.sh (.int ik),s2,.no,.no,.no,.no,.no,.no]:=by
  rcases hw with⟨rfl,rfl⟩|⟨_,rfl,rfl⟩
  ·simp_arith [Am,ew]
  ·simp_arith [Am,ew]
 have t2:ay_6 3 (Ah cs_2 (Aa (Ab 2) Ac)) [.sh (.lst (eL E)),.sh (.int ik),s2,.no,.no,.no,.no,.no,.no]=.nx [.sh (.lst (eL E)),.sh (.int ik),s2,.ow (.lst (zi (st.map (·.1)))),.no,.no,.no,.no,.no]:=by
  have hf:(zi (st.map (·.1))).all Ba=true:=by
   unfold zi;rw [List.all_map,List.all_eq_true];intro x _;rfl
  simp_arith [ay_6,Am,hs.any,cs_2,bx,hf]
 have ef:∀b2 b3 b4 b7 b8:Option D,Bx 1 (Ax Co (Aa (Ah Bs (Aa (Ab 0) Ac)) Ac)) (gC 9) n_4 (Ab 9) [some (.lst (eL E)),some (.int ik),b2,b3,b4,some (.dic (inner (ord.map (·.1)))),none,b7,b8]=.ok (.ow (.lst (zi (Ep E ord)))):=λb2 b3 b4 b7 b8=>by
  have hr:Ax Co (Aa (Ah Bs (Aa (Ab 0) Ac)) Ac) [some (.lst (eL E)),some (.int ik),b2,b3,b4,some (.dic (inner (ord.map (·.1)))),none,b7,b8]=.ok (zi (List.range E.length)):=by
   have zj:(eL E).length=E.length:=by unfold eL;rw [List.length_map]
   simp_arith [Am,Hl,zj,m_0 (show -4611686018427387903<=(E.length:Int) by omega) (by omega),Int.toNat_natCast,br_0]
  refine k_2 (m:=1) hr (by rw [z_4,List.length_range];omega) ?_;have hc:=ac_6 (fg:=gC 9) (p:=n_4) (f:=Ab 9) (δ:=[some (.lst (eL E)),some (.int ik),b2,b3,b4,some (.dic (inner (ord.map (·.1)))),none,b7,b8,none]) (λd=>match d with| .int i=>decide (i.toNat∉ord.map (·.1))|_=>false) (λd=>d) (zi (List.range E.length)) (λd hd=>by
   obtain⟨n,hn,rfl⟩:=List.mem_map.mp hd;refine⟨[some (.lst (eL E)),some (.int ik),b2,b3,b4,some (.dic (inner (ord.map (·.1)))),none,b7,b8,some (.int (n:Int))],rfl, ?_,λ_=>⟨.sh (.int (n:Int)),rfl,rfl⟩⟩;have hk:Dl (.int (n:Int))=some (kp n):=rfl
   simp_arith [n_4,Am,inK,hk,bh_3,Int.toNat_natCast]
   by_cases h:n∈ord.map (·.1)
   ·simp only [h,decide_true,Bool.not_true,not_true,decide_false]
   ·simp only [h,decide_false,Bool.not_false,not_false_eq_true,decide_true])
  rw [List.map_id'] at hc;show Fh _ _ _ _ _=_;refine hc.trans ?_;unfold zi Ep;rw [List.filter_map]
  congr 1
 obtain⟨a5,t6⟩:∃a5,Ag 6 [0,5] (Bx 1 (Ax Co (Aa (Ah Bs (Aa (Ab 0) Ac)) Ac)) (gC 9) n_4 (Ab 9)) (Qe E ik s2' ord (.ow (.dic (inner (ord.map (·.1))))) .no a7 a8)=.nx (Qe E ik s2' ord a5 (.ow (.lst (zi (Ep E ord)))) a7 a8):=by
  cases hn:E.length with
  |zero=>
   have e0:E= []:=List.eq_nil_of_length_eq_zero hn;subst e0;refine⟨.ow (.dic (inner (ord.map (·.1)))), ?_⟩;have v1:Bx 1 (Ax Co (Aa (Ah Bs (Aa (Ab 0) Ac)) Ac)) (gC 9) n_4 (Ab 9) (Bb [.sh (.lst (eL [])),.sh (.int ik),s2',.ow (.lst []),.ow (.lst (Ch ord)),.ow (.dic (inner (ord.map (·.1)))),.no,a7,a8])=.ok (.ow (.lst [])):=rfl;unfold Ag;rw [v1];rfl
  |succ n=>
   refine⟨.sh (.dic (inner (ord.map (·.1)))), ?_⟩;have v1:Bx 1 (Ax Co (Aa (Ah Bs (Aa (Ab 0) Ac)) Ac)) (gC 9) n_4 (Ab 9) (Bb (Qe E ik s2' ord (.ow (.dic (inner (ord.map (·.1))))) .no a7 a8))=.no:=by
    have hr:Ax Co (Aa (Ah Bs (Aa (Ab 0) Ac)) Ac) (Bb (Qe E ik s2' ord (.ow (.dic (inner (ord.map (·.1))))) .no a7 a8))=.ok (zi (List.range (n + 1))):=by
     have zj:(eL E).length=n + 1:=by unfold eL;rw [List.length_map,hn]
     simp_arith [Am,Hl,zj,m_0 (show -4611686018427387903<=((n + 1:Nat):Int) by omega) (by omega),Int.toNat_natCast,br_0]
    have hz:zi (List.range (n + 1))=.int 0::zi ((List.range n).map Nat.succ):=by rw [List.range_succ_eq_map];rfl
    unfold Bx;rw [hr,R.bind_ok,if_pos (by rw [z_4,List.length_range];omega),hz];rfl
   have v2:=ef (Sl.any s2') (some (.lst [])) (some (.lst (Ch ord))) (Sl.any a7) (Sl.any a8);have v3:=ef (Sl.pub s2') none none (Sl.pub a7) (Sl.pub a8);unfold Ag;rw [v1];have v2':Bx 1 (Ax Co (Aa (Ah Bs (Aa (Ab 0) Ac)) Ac)) (gC 9) n_4 (Ab 9) (Ar (Qe E ik s2' ord (.ow (.dic (inner (ord.map (·.1))))) .no a7 a8))=.ok (.ow (.lst (zi (Ep E ord)))):=v2;have g1:gsome [0,5] (Qe E ik s2' ord (.ow (.dic (inner (ord.map (·.1))))) .no a7 a8)=(Qe E ik s2' ord (.sh (.dic (inner (ord.map (·.1))))) .no a7 a8):=rfl;have v3':Bx 1 (Ax Co (Aa (Ah Bs (Aa (Ab 0) Ac)) Ac)) (gC 9) n_4 (Ab 9) (Bb (Qe E ik s2' ord (.sh (.dic (inner (ord.map (·.1))))) .no a7 a8))=.ok (.ow (.lst (zi (Ep E ord)))):=v3;simp only [v2',W.d_ow,Ba,Bool.false_eq_true,if_false,g1,v3',Ei,List.set_cons_succ,List.set_cons_zero]
 refine r_4 ?_;unfold cf_7;rw [Bl t1,Bl t2];have t3:Ag 4 [] (Ci Ac) [.sh (.lst (eL E)),.sh (.int ik),s2,.ow (.lst (zi (st.map (·.1)))),.no,.no,.no,.no,.no]=.nx [.sh (.lst (eL E)),.sh (.int ik),s2,.ow (.lst (zi (st.map (·.1)))),.ow (.lst []),.no,.no,.no,.no]:=rfl;have t4:Ag 5 [] as_2 [.sh (.lst (eL E)),.sh (.int ik),s2,.ow (.lst (zi (st.map (·.1)))),.ow (.lst []),.no,.no,.no,.no]=.nx [.sh (.lst (eL E)),.sh (.int ik),s2,.ow (.lst (zi (st.map (·.1)))),.ow (.lst []),.ow (.dic []),.no,.no,.no]:=rfl;rw [Bl t3,Bl t4];have e':Gy [3] af_2 v_0 3000 [.sh (.lst (eL E)),.sh (.int ik),s2,.ow (.lst (zi (st.map (·.1)))),.ow (.lst []),.ow (.dic []),.no,.no,.no]=_:=e;rw [Bl e',Bl t6];rfl
def az_8(p n:Nat):l_7 [.int (p:Int),.int (n:Int)]=.ok (.sh (.bl (decide (p < n)))):=by
 simp_arith [l_7,ap_7,Am,ap_3,cs_4,Ge,show(0:Int)<=(p:Int) by omega]
 rw [show decide ((p:Int) < (n:Int))=decide (p < n) by simp]
def at_2(z m:Int)(h:0 < m):t_0 [.int z,.int m]=.ok (.sh (.int (z % m))):=by
 simp_arith [t_0,az_1,Am,Fq,show¬m=0 by omega,Fp h]
def Fk(ts:List Int)(p:Nat):Int:=ts.getD p 0
def Df(ts:List Int)(ps:List Nat):Int:=(ps.map (Fk ts)).sum
def eg_7{ts:List Int}{p:Nat}(h:p < ts.length):atI (ts.map D.int) (p:Int)=some (.int (Fk ts p)):=by
 refine Fx ?_;rw [List.getElem?_map];simp [Fk,List.getD,h]
def dx_0(ts:List Int)(a1 a2 a3:Option D)(ps:List Nat)(h:∀p∈ps,p < ts.length):
  Fh (gC 4) z_0 y_9 [some (.lst (ts.map .int)),a1,a2,a3,none] (zi ps)=.ok ((ps.map λp=>D.int (Fk ts p))):=by
 have:=ac_6 (fg:=gC 4) (p:=z_0) (f:=y_9) (δ:=[some (.lst (ts.map .int)),a1,a2,a3,none]) (λ_=>true) (λd=>match d with| .int i=> .int (Fk ts i.toNat)|d=>d) (zi ps) λd hd=>by
  obtain⟨p,hp,rfl⟩:=List.mem_map.mp hd;have hl:=h p hp;refine⟨[some (.lst (ts.map .int)),a1,a2,a3,some (.int (p:Int))],rfl, ?_,λ_=>⟨.sh (.int (Fk ts p)), ?_,by simp⟩⟩
  ·simp_arith [z_0,Am,Hl,List.length_map,az_8,hl]
  ·simp_arith [y_9,Am,aw_2 (eg_7 hl)]
 rw [this,List.filter_eq_self.mpr λ_ _=>rfl]
 congr 1
 unfold zi;rw [List.map_map];refine List.map_congr_left λp _=> ?_;simp
def br_1(ts:List Int)(ps:List Nat)(m:Int)(hm:0 < m)(h:∀p∈ps,p < ts.length)(hl:ps.length<=1000):p_0 [.lst (ts.map .int),.tup (zi ps),.int m]=.ok (.sh (.int (Df ts ps % m))):=by
 have ec:=k_2 (m:=1) (fi:=Db (Ab 1)) (fg:=gC 4) (p:=z_0) (f:=y_9) (δ:=[some (.lst (ts.map .int)),some (.tup (zi ps)),some (.int m),none]) (ds:=zi ps) (by simp_arith [Am]) (by unfold zi;rw [List.length_map];omega) (dx_0 ts _ _ _ ps h)
 simp_arith [p_0,cf_8,Am,ec,eg_0,at_2 _ m hm]
 rfl
def al_5(l:List Int)(i p:Nat)(v:Int):Fk (l.set i v) p=if p=i/\i < l.length then v else Fk l p:=by
 unfold Fk;rw [List.getD_eq_getElem?_getD,List.getElem?_set]
 by_cases h:i=p
 ·subst h
  by_cases h2:i < l.length
  ·simp [h2]
  ·simp [h2,List.getD]
 ·have:¬p=i:=λz=>h z.symm;simp [h,this]
def az_9{ts us:List Int}:∀{ps:List Nat},(∀p∈ps,Fk ts p=Fk us p)->Df ts ps=Df us ps:=by
 intro ps h;unfold Df;rw [List.map_congr_left h]
def dm_1(S w m:Int)(h0:0<=w)(h1:w < m):(S + (w - S % m) % m) % m=w:=by
 have e:(S + (w - S % m) % m) % m=(S + (w - S % m)) % m:=by
  rw [Int.add_emod,Int.emod_emod_of_dvd _ (Int.dvd_refl m),<-Int.add_emod]
 rw [e];have h2:=Int.mul_ediv_add_emod S m;have e2:S + (w - S % m)=w + m * (S / m):=by omega
 rw [e2,Int.add_mul_emod_self_left];exact Int.emod_eq_of_lt h0 h1
def Ef(E:List (List Nat))(w:List Int)(m:Int)(ts:List Int)(x:Nat×Nat):List Int:=ts.set x.2 ((w.getD x.1 0 - Df ts (E.getD x.1 []) % m) % m)
def Ds(E:List (List Nat))(w:List Int)(m:Int)(ik:Nat)(L:List (Nat×Nat)):List Int:=L.foldl (Ef E w m) (List.replicate ik 0)
def aw_9(E:List (List Nat))(w:List Int)(m:Int)(ik:Nat)(L:List (Nat×Nat)):(Ds E w m ik L).length=ik:=by
 unfold Ds;have:∀(L:List (Nat×Nat)) (ts:List Int),(L.foldl (Ef E w m) ts).length=ts.length:=λL=>by
  induction L with
  |nil=>intro ts;rfl
  |cons x L ih=>intro ts;show(L.foldl (Ef E w m) (Ef E w m ts x)).length=_;rw [ih];unfold Ef;rw [List.length_set]
 rw [this,List.length_replicate]
def bh_4(E:List (List Nat))(w:List Int)(m:Int)(ik:Nat)(L:List (Nat×Nat))(x:Nat×Nat):Ds E w m ik (L ++ [x])=Ef E w m (Ds E w m ik L) x:=by
 unfold Ds;rw [List.foldl_append];rfl
def ch_3{ord:List (Nat×Nat)}{i:Nat}{d:D}(h:(Ch ord)[i]? =some d):∃x,ord[i]? =some x/\d=.tup [.int (x.1:Int),.int (x.2:Int)]:=by
 unfold Ch at h;rw [List.getElem?_map] at h;obtain⟨x,e1,e2⟩:=Option.map_eq_some_iff.mp h;exact⟨x,e1,e2.symm⟩
def co_3(E:List (List Nat))(w:List Int)(m:Int)(ik:Nat)(ord:List (Nat×Nat))(hm:0 < m)(hz:ik<=100000)(ho:∀x∈ord,∃ps,E[x.1]? =some ps/\(∀p∈ps,p < ik)/\ps.length<=1000/\x.2 < ik/\x.1 < w.length):
  aj_2 [.lst (eL E),.int (ik:Int),.lst (Ch ord),.lst (w.map .int),.int m]=.ok (.ow (.lst ((Ds E w m ik ord.reverse).map .int))):=by
 have df:(Ch ord).reverse=Ch ord.reverse:=by unfold Ch;rw [List.map_reverse]
 obtain⟨Δ',e,a6,a7,a8,rfl⟩:=h_3 (Gb 6 7) ap_8 (λk Δ=>∃a6 a7 a8,Δ= [.sh (.lst (eL E)),.sh (.int (ik:Int)),.sh (.lst (Ch ord)),.sh (.lst (w.map .int)),.sh (.int m),.ow (.lst ((Ds E w m ik (ord.reverse.take k)).map .int)),a6,a7,a8]) (ds:=(Ch ord).reverse)
  (Δ:=[.sh (.lst (eL E)),.sh (.int (ik:Int)),.sh (.lst (Ch ord)),.sh (.lst (w.map .int)),.sh (.int m),.ow (.lst ((Ds E w m ik []).map .int)),.no,.no,.no]) ⟨_,_,_,rfl⟩ (λk d Δ hk hI=>by
   obtain⟨a6,a7,a8,rfl⟩:=hI;rw [df] at hk;obtain⟨⟨n,p⟩,hx,rfl⟩:=ch_3 hk;obtain⟨ps,he,hp1,hp2,hp3,hw⟩:=ho (n,p) (List.mem_reverse.mp (List.mem_of_getElem? hx));simp only at he hp3 hw;have hl:=aw_9 E w m ik (ord.reverse.take k);have hs:=br_1 (Ds E w m ik (ord.reverse.take k)) ps m hm (λq hq=>by rw [hl];exact hp1 q hq) hp2;have hxn:=cg_4 (n:=((Ds E w m ik (ord.reverse.take k)).map D.int).length) (i:=p) (by rw [List.length_map,hl];exact hp3);have hI:Bn (.lst (eL E)) (.int (n:Int))=.ok (.sh (eT ps)):=aw_2 (Fx (dz_4 he));have hW:Bn (.lst (w.map .int)) (.int (n:Int))=.ok (.sh (.int (w.getD n 0))):=aw_2 (Fx (by rw [List.getElem?_map,List.getElem?_eq_getElem hw,List.getD_eq_getElem?_getD,List.getElem?_eq_getElem hw];rfl));have hs':p_0 [.lst ((Ds E w m ik (ord.reverse.take k)).map .int),eT ps,.int m]=.ok (.sh (.int (Df (Ds E w m ik (ord.reverse.take k)) ps % m))):=hs;refine⟨_,rfl,[.sh (.lst (eL E)),.sh (.int (ik:Int)),.sh (.lst (Ch ord)),.sh (.lst (w.map .int)),.sh (.int m),.ow (.lst ((Ds E w m ik (ord.reverse.take (k + 1))).map .int)),.sh (.int (n:Int)),.sh (.int (p:Int)),.sh (.int (w.getD n 0 - Df (Ds E w m ik (ord.reverse.take k)) ps % m))],.inl ?_,_,_,_,rfl⟩;have hsn:Ds E w m ik (ord.reverse.take (k + 1))=(Ds E w m ik (ord.reverse.take k)).set p ((w.getD n 0 - Df (Ds E w m ik (ord.reverse.take k)) ps % m) % m):=by
    rw [List.take_add_one,hx];show Ds E w m ik (ord.reverse.take k ++ [(n,p)])=_;rw [bh_4];unfold Ef;simp only [List.getD_eq_getElem?_getD,he,Option.getD_some]
   rw [hsn]
   simp_arith [ap_8,Am,Gb,hI,hW,hs',bg_2,az_8,hp3,cr_7,at_2 _ m hm,hxn]
   rw [List.map_set])
 have e0:(List.replicate (ik:Int).toNat [D.int 0]).flatten=(Ds E w m ik []).map .int:=by
  unfold Ds;rw [List.foldl_nil,List.map_replicate,Int.toNat_natCast];generalize ik=n
  induction n with
  |zero=>rfl
  |succ n ih=>rw [List.replicate_succ,List.flatten_cons,ih,List.replicate_succ];rfl
 have hr:repD [D.int 0] (.int (ik:Int))=.ok (.ow (.lst ((Ds E w m ik []).map .int))):=by
  unfold repD;simp only [List.length_cons,List.length_nil];rw [if_pos ⟨by omega,by omega⟩,e0]
 have hle:(Ch ord).reverse.length=ord.reverse.length:=by rw [df];unfold Ch;rw [List.length_map]
 rw [hle,List.take_length] at e;have er:iRev (Ab 2) (Bb [.sh (.lst (eL E)),.sh (.int (ik:Int)),.sh (.lst (Ch ord)),.sh (.lst (w.map .int)),.sh (.int m),.ow (.lst ((Ds E w m ik []).map .int)),.no,.no,.no])=.ok (Ch ord).reverse:=by
  simp_arith [iRev,dy_9,Am]
 simp only [Bb,List.map_cons,List.map_nil,di_9,dj_0,dj_1] at er
 simp_arith [aj_2,cf_9,Am,eRep,hr,Bu,er,e]
def dm_2(E:List (List Nat))(w:List Int){m:Int}(hm:0 < m)(ik:Nat)(L:List (Nat×Nat))(p:Nat):0<=Fk (Ds E w m ik L) p/\Fk (Ds E w m ik L) p < m:=by
 unfold Ds;have:∀(L:List (Nat×Nat)) (ts:List Int),(∀p,0<=Fk ts p/\Fk ts p < m)->∀p,0<=Fk (L.foldl (Ef E w m) ts) p/\Fk (L.foldl (Ef E w m) ts) p < m:=λL=>by
  induction L with
  |nil=>intro ts h p;exact h p
  |cons x L ih=>
   intro ts h p;refine ih _ (λq=> ?_) p;unfold Ef;rw [al_5]
   split
   ·exact⟨Int.emod_nonneg _ (by omega),Int.emod_lt_of_pos _ hm⟩
   ·exact h q
 refine this L _ (λq=> ?_) p;unfold Fk;rw [List.getD_eq_getElem?_getD,List.getElem?_replicate]
 split
 ·exact⟨Int.le_refl _,hm⟩
 ·exact⟨Int.le_refl _,hm⟩
theorem br_2{ts:List Int}{p:Nat}{v:Int}(hp:p < ts.length):∀{ps:List Nat},ps.Nodup->p∈ps->Df (ts.set p v) ps=Df ts ps - Fk ts p + v
 |a::ps,nd,h=>by
  rw [List.nodup_cons] at nd;have c1:Df (ts.set p v) (a::ps)=Fk (ts.set p v) a + Df (ts.set p v) ps:=by unfold Df;rw [List.map_cons,List.sum_cons]
  have c2:Df ts (a::ps)=Fk ts a + Df ts ps:=by unfold Df;rw [List.map_cons,List.sum_cons]
  rw [c1,c2]
  by_cases ha:a=p
  ·subst ha;rw [al_5,if_pos ⟨rfl,hp⟩,az_9 (us:=ts) λq hq=>by
    rw [al_5,if_neg]
    rintro ⟨rfl,_⟩
    exact nd.1 hq]
   omega
  ·have hm:p∈ps:=by
    rcases List.mem_cons.mp h with z|z
    ·exact absurd z.symm ha
    ·exact z
   rw [al_5,if_neg (λz=>ha z.1),br_2 hp nd.2 hm];omega
theorem br_3{E:List (List Nat)}{w:List Int}{m:Int}{ik:Nat}(hm:0 < m):∀(ord:List (Nat×Nat)),(∀x∈ord,∃ps,E[x.1]? =some ps/\ps.Nodup/\x.2∈ps/\x.2 < ik/\0<=w.getD x.1 0/\w.getD x.1 0 < m)->(ord.Pairwise λx y=>¬RE E y.1 x.2)->
  (∀x∈ord,Df (Ds E w m ik ord.reverse) (E.getD x.1 []) % m=w.getD x.1 0)/\∀p,(∀x∈ord,x.2≠p)->Fk (Ds E w m ik ord.reverse) p=0
 | [],_,_=>⟨λx h=>by simp at h,λp _=>by
   unfold Ds Fk;simp only [List.reverse_nil,List.foldl_nil,List.getD_eq_getElem?_getD,List.getElem?_replicate]
   split <;> rfl⟩
 |(n,p)::ord,h,pw=>by
  rw [List.pairwise_cons] at pw;obtain⟨i1,i2⟩:=br_3 hm ord (λx hx=>h x (List.mem_cons_of_mem _ hx)) pw.2;obtain⟨ps,he,nd,hp,hlt,w0,w1⟩:=h (n,p) (by simp);simp only at he hp hlt w0 w1;have er:Ds E w m ik ((n,p)::ord).reverse=Ef E w m (Ds E w m ik ord.reverse) (n,p):=by rw [List.reverse_cons,bh_4]
  have hg:E.getD n []=ps:=by rw [List.getD_eq_getElem?_getD,he];rfl
  have z0:Fk (Ds E w m ik ord.reverse) p=0:=i2 p λx hx z=>by
   obtain⟨qs,e1,_,e2,_⟩:=h x (List.mem_cons_of_mem _ hx);exact pw.1 x hx ⟨qs,e1,z▸e2⟩
  have hl:=aw_9 E w m ik ord.reverse;rw [er];refine⟨λx hx=> ?_,λq hq=> ?_⟩
  ·rcases List.mem_cons.mp hx with rfl|hx
   ·simp only;unfold Ef;simp only;rw [hg,br_2 (by rw [hl];exact hlt) nd hp,z0,Int.sub_zero];exact dm_1 _ _ _ w0 w1
   ·obtain⟨qs,e1,_,_,_⟩:=h x (List.mem_cons_of_mem _ hx);have hn:p∉qs:=λz=>pw.1 x hx ⟨qs,e1,z⟩;have hg2:E.getD x.1 []=qs:=by rw [List.getD_eq_getElem?_getD,e1];rfl
    rw [<-i1 x hx];unfold Ef;rw [hg2]
    congr 1
    refine az_9 λq hq=> ?_;rw [al_5,if_neg]
    rintro ⟨rfl,_⟩
    exact hn hq
  ·unfold Ef;rw [al_5,if_neg (λz=>hq (n,p) (by simp) z.1.symm)];exact i2 q λx hx=>hq x (List.mem_cons_of_mem _ hx)
def br_4(n s z:Int)(hz:0 < z):0<=z_3 n s z/\z_3 n s z < z:=⟨Int.emod_nonneg _ (by omega),Int.emod_lt_of_pos _ hz⟩
def Dk(d:D)(salt ib ig:Int):List Nat:=(List.range ib.toNat).map λ(k:Nat)=>(w_9 d salt ig (k:Int)).toNat
def ad_3(d:D)(salt ig:Int)(hp:0 < ig)(j:Int)(hj:0<=j):0<=w_9 d salt ig j/\j * ig<=w_9 d salt ig j/\w_9 d salt ig j < (j + 1) * ig:=by
 obtain⟨h0,h1⟩:=br_4 (p_3 d) (4 * salt + j) ig hp;have e:(j + 1) * ig=j * ig + ig:=by rw [Int.add_mul,Int.one_mul]
 have h2:0<=j * ig:=Int.mul_nonneg hj (by omega);unfold w_9;omega
def bh_5(d:D)(salt ib ig:Int)(hp:0 < ig):al_3 d salt ib ig=zi (Dk d salt ib ig):=by
 unfold al_3 zi Dk;rw [List.map_map];apply List.map_congr_left;intro k _;show D.int (w_9 d salt ig (0 + (k:Int)))=.int (((w_9 d salt ig (k:Int)).toNat:Nat):Int);rw [Int.zero_add,Int.toNat_of_nonneg (ad_3 d salt ig hp k (by omega)).1]
def co_4(d:D)(salt ib ig:Int)(hp:0 < ig):(Dk d salt ib ig).Nodup:=by
 unfold Dk;rw [List.nodup_iff_pairwise_ne,List.pairwise_map];refine List.Pairwise.imp (R:=λa b:Nat=>a < b) (λ{a b} h=> ?_) (List.pairwise_lt_range);obtain⟨a0,a1,a2⟩:=ad_3 d salt ig hp a (by omega);obtain⟨b0,b1,b2⟩:=ad_3 d salt ig hp b (by omega);have:((a:Int) + 1) * ig<=(b:Int) * ig:=Int.mul_le_mul_of_nonneg_right (by omega) (by omega);omega
def af_6(d:D)(salt ib ig:Int)(hp:0 < ig)(hk:0<=ib):∀p∈Dk d salt ib ig,p < (ib * ig).toNat:=by
 intro p h;obtain⟨k,hk',rfl⟩:=List.mem_map.mp h;have hk':=List.mem_range.mp hk';obtain⟨a0,a1,a2⟩:=ad_3 d salt ig hp k (by omega);have:((k:Int) + 1) * ig<=ib * ig:=Int.mul_le_mul_of_nonneg_right (by omega) (by omega);omega
def aa_7(d:D)(salt ib ig:Int):(Dk d salt ib ig).length=ib.toNat:=by unfold Dk;simp
def En(ks:List D)(salt ib:Int):List (List Nat):=ks.map λd=>Dk d salt ib (Aw (ks.length:Int) ib)
def br_5(ks:List D)(salt ib:Int)(hp:0 < Aw (ks.length:Int) ib):cn_7 ks salt ib=eL (En ks salt ib):=by
 unfold cn_7 eL En;rw [List.map_map];apply List.map_congr_left;intro d _;show D.tup _=D.tup _;rw [bh_5 d salt ib _ hp]
theorem br_6{α:Type}(c:Nat):∀(l:List α) (f:α->Nat),(∀a∈l,f a=c)->(l.map f).sum=l.length * c
 | [],f,_=>by simp
 |a::l,f,h=>by
  rw [List.map_cons,List.sum_cons,br_6 c l f λb hb=>h b (List.mem_cons_of_mem _ hb),h a (by simp),List.length_cons,Nat.add_mul,Nat.one_mul,Nat.add_comm]
def co_5(ks:List D)(salt ib:Int):tot (En ks salt ib)=ks.length * ib.toNat:=by
 unfold tot En;rw [List.map_map];exact br_6 ib.toNat ks _ λd _=>aa_7 d salt ib _
def co_6(a b:D):(W.tr (.tup [Tn.of a,Tn.of b])).d=.tup [a,b]:=by
 show D.tup [(Tn.of a).d,(Tn.of b).d]=_;rw [Tn.of_d,Tn.of_d]
structure Ks(ks:List D)(salt ib:Int):Prop where
 k:∀k∈ks,isKey k
 nd:ks.Nodup
 h1:1<=ks.length
 h2:ks.length<=200
 s0:0<=salt
 s1:salt<=1000000000000
 kd:ib=2\/ib=3
def dx_1{ks:List D}{salt ib:Int}(h:Ks ks salt ib):∃st ord,Peel (En ks salt ib) st ord/\(∀q m,Bw st q≠some [m])/\
  Gv [.lst ks,.int salt,.int ib]=.ok (.tr (.tup [Tn.of (.lst (Ch ord)),Tn.of (.lst (zi (Ep (En ks salt ib) ord)))])):=by
 obtain⟨p1,_,p3,p4⟩:=r_8 (ks.length:Int) ib (by have:=h.h1;omega) (by have:=h.h2;omega) h.kd;have h2:=h.h2;have gv:=co_5 ks salt ib;have hk3:ib.toNat<=3:=by have:=h.kd;omega
 have hle:ks.length * ib.toNat<=200 * 3:=Nat.mul_le_mul h2 hk3;obtain⟨st,ord,hP,hC,e⟩:=da_8 (En ks salt ib) (ib * Aw (ks.length:Int) ib) (by unfold En;rw [List.length_map];omega) (by omega);refine⟨st,ord,hP,hC, ?_⟩;have ee:=ch_2 h.k h.nd h.h1 h.h2 salt ib h.s0 h.s1 h.kd;rw [br_5 ks salt ib p3] at ee;have mm:Ca (.int ib) (.int (Aw (ks.length:Int) ib))=.ok (.sh (.int (ib * Aw (ks.length:Int) ib))):=Do (Es (by have:=h.kd;omega) (by have:=h.kd;omega))
 simp_arith [Gv,dk_1,Am,ee,Hl,p1,mm,e]
def al_6{ks:List D}{salt ib:Int}(h:Ks ks salt ib):∃b:Bool,g_0 [.lst ks,.int salt,.int ib]=.ok (.sh (.bl b))/\(b=true->∃ord:List (Nat×Nat),(∀n,n < ks.length->n∈ord.map (·.1))/\(∃st,Peel (En ks salt ib) st ord)/\
  Gv [.lst ks,.int salt,.int ib]=.ok (.tr (.tup [Tn.of (.lst (Ch ord)),Tn.of (.lst [])]))):=by
 obtain⟨st,ord,hP,hC,e⟩:=dx_1 h;have hx:Bn (.tup [.lst (Ch ord),.lst (zi (Ep (En ks salt ib) ord))]) (.int 1)=.ok (.sh (.lst (zi (Ep (En ks salt ib) ord)))):=bd_0 (Fx (i:=1) rfl);refine⟨decide (((zi (Ep (En ks salt ib) ord)).length:Int)=0), ?_,λhb=> ?_⟩
 ·simp_arith [g_0,bg_8,Am,e,co_6,hx,Hl,Fq]
 ·have hb:=of_decide_eq_true hb;have hz:Ep (En ks salt ib) ord= []:=by
   apply List.eq_nil_of_length_eq_zero;rw [z_4] at hb;omega
  refine⟨ord,λn hn=> ?_,⟨st,hP⟩,by rw [e,hz];rfl⟩
  by_cases hm:n∈ord.map (·.1)
  ·exact hm
  ·exfalso;have:n∈Ep (En ks salt ib) ord:=by
    unfold Ep;rw [List.mem_filter];exact⟨List.mem_range.mpr (by unfold En;rw [List.length_map];exact hn),decide_eq_true hm⟩
   rw [hz] at this;simp at this
theorem dz_5{P:Nat->Prop}:∀n,(∃k,k < n/\P k)->∃k,k < n/\P k/\∀j,j < k->¬P j
 |0,⟨k,h,_⟩=>by omega
 |n + 1,⟨k,hk,hp⟩=>by
  by_cases h:∃j,j < n/\P j
  ·obtain⟨j,h1,h2,h3⟩:=dz_5 n h;exact⟨j,by omega,h2,h3⟩
  ·exact⟨k,hk,hp,λj hj z=>h ⟨j,by omega,z⟩⟩
def xNoTry:Xn:=⟨"NoTry",[],[]⟩
def at_3{ks:List D}{ib:Int}(h:Ks ks 0 ib)(ii:Int)(m0:0<=ii)(m1:ii<=1000):(Dq [.lst ks,.int ib,.int ii]=.ex xNoTry/\∀j:Nat,(j:Int) < ii->g_0 [.lst ks,.int (j:Int),.int ib]=.ok (.sh (.bl false)))\/
  ∃s:Nat,(s:Int) < ii/\Dq [.lst ks,.int ib,.int ii]=.ok (.sh (.int (s:Int)))/\g_0 [.lst ks,.int (s:Int),.int ib]=.ok (.sh (.bl true))/\∀j:Nat,j < s->g_0 [.lst ks,.int (j:Int),.int ib]=.ok (.sh (.bl false)):=by
 have hS:∀s:Nat,s<=1000->Ks ks (s:Int) ib:=λs hs=>⟨h.k,h.nd,h.h1,h.h2,by omega,by omega,h.kd⟩;have hr:Ax Co (Aa (Ab 2) Ac) (Bb [.sh (.lst ks),.sh (.int ib),.sh (.int ii),.no])=.ok (Cc 0 ii.toNat):=by
  simp_arith [Am,m_0 (show -4611686018427387903<=ii by omega) (by omega)]
 have t0:Cl [0] (At 1 j_6 (Aa (Ab 0) Ac)) (Ay 4 [.lst ks,.int ib,.int ii])=.nx [.sh (.lst ks),.sh (.int ib),.sh (.int ii),.no]:=by
  simp_arith [Am,bw_9 h.k h.nd h.h1 h.h2]
 have body:∀(k:Nat) (a3:Sl),k<=1000->∀b:Bool,g_0 [.lst ks,.int (k:Int),.int ib]=.ok (.sh (.bl b))->o_3 [.sh (.lst ks),.sh (.int ib),.sh (.int ii),.sh (.int (k:Int))]=if b then .rt (.sh (.int (k:Int))) else .nx [.sh (.lst ks),.sh (.int ib),.sh (.int ii),.sh (.int (k:Int))]:=λk a3 _ b e=>by
  cases b <;> simp_arith [o_3,Am,e]
 by_cases hx:∃k,k < ii.toNat/\g_0 [.lst ks,.int ((k:Nat):Int),.int ib]=.ok (.sh (.bl true))
 ·obtain⟨s,s1,s2,s3⟩:=dz_5 _ hx;right;refine⟨s,by omega, ?_,s2,λj hj=> ?_⟩
  rotate_left
  ·obtain⟨b,eb,_⟩:=al_6 (hS j (by omega));cases b with
   |false=>exact eb
   |true=>exact absurd eb (s3 j hj)
  have e:=dl_3 (gV 3) o_3 (λk Δ=>∃a3,Δ= [.sh (.lst ks),.sh (.int ib),.sh (.int ii),a3]) (ds:=Cc 0 ii.toNat) (Δ:=[.sh (.lst ks),.sh (.int ib),.sh (.int ii),.no]) (n:=s) (r:=.rt (.sh (.int (s:Int)))) (d:=.int (0 + (s:Int))) ⟨_,rfl⟩ (by
    unfold Cc;rw [List.getElem?_map,List.getElem?_range s1];rfl) (λk d Δ hk hd hI=>by
    obtain⟨a3,rfl⟩:=hI;obtain⟨_,rfl⟩:=av_1 hd;obtain⟨b,eb,_⟩:=al_6 (hS k (by omega));have hb:b=false:=by
     cases b with
     |false=>rfl
     |true=>exact absurd eb (s3 k hk)
    subst hb;rw [Int.zero_add];refine⟨_,rfl,_,.inl ((body k a3 (by omega) false eb)),_,rfl⟩) (λ Δ hI=>by
    obtain⟨a3,rfl⟩:=hI;rw [Int.zero_add];exact⟨_,rfl,body s a3 (by omega) true s2⟩) rfl
  refine r_4 ?_;unfold aj_1;rw [Bl t0];unfold Af Bu;rw [hr];simp only [e]
 ·left;refine⟨?_,λj hj=> ?_⟩
  rotate_left
  ·obtain⟨b,eb,_⟩:=al_6 (hS j (by omega));cases b with
   |false=>exact eb
   |true=>exact absurd ⟨j,by omega,eb⟩ hx
  obtain⟨Δ',e,a3,rfl⟩:=h_3 (gV 3) o_3 (λk Δ=>∃a3,Δ= [.sh (.lst ks),.sh (.int ib),.sh (.int ii),a3]) (ds:=Cc 0 ii.toNat) (Δ:=[.sh (.lst ks),.sh (.int ib),.sh (.int ii),.no]) ⟨_,rfl⟩ (λk d Δ hd hI=>by
   obtain⟨a3,rfl⟩:=hI;obtain⟨hk,rfl⟩:=av_1 hd;obtain⟨b,eb,_⟩:=al_6 (hS k (by omega));have hb:b=false:=by
    cases b with
    |false=>rfl
    |true=>exact absurd ⟨k,hk,eb⟩ hx
   subst hb;rw [Int.zero_add];exact⟨_,rfl,_,.inl (body k a3 (by omega) false eb),_,rfl⟩)
  unfold Dq Ak aj_1;rw [Bl t0];have t1:Bu [2] (Ax Co (Aa (Ab 2) Ac)) (gV 3) o_3 [.sh (.lst ks),.sh (.int ib),.sh (.int ii),.no]=.nx [.sh (.lst ks),.sh (.int ib),.sh (.int ii),a3]:=by
   unfold Bu;rw [hr];exact e
  rw [Bl t1];rfl
def t_3(w:Nat)(h:w<=1000):m_5 [.int (w:Int)]=.ok (.sh (.int (2 ^ w))):=by
 obtain⟨Δ',e,a2,rfl⟩:=y_2 (gV 2) ap_9 (λk Δ=>∃a2,Δ= [.sh (.int (w:Int)),.sh (.int (2 ^ k)),a2]) (n:=w) (lo:=0) (Δ:=[.sh (.int (w:Int)),.sh (.int 1),.no]) ⟨.no,rfl⟩ (λk Δ hk hI=>by
  obtain⟨a2,rfl⟩:=hI;refine⟨_,rfl,[.sh (.int (w:Int)),.sh (.int (2 ^ (k + 1))),.sh (.int (0 + (k:Int)))],.inl ?_,_,rfl⟩
  simp_arith [ap_9,Am,Do (aw_1 (show(-18446744073709551616:Int) < 2 by decide) (by decide))]
  rw [Int.pow_succ])
 have hw:((w:Int)).toNat=w:=by omega
 simp_arith [m_5,cg_0,Am,Bu,m_0 (show(-4611686018427387903:Int)<=w by omega) (by omega),hw,e]
def dx_2(r:Int):cr_4 [.int (r % 2)]=.ok (.sh (.str (Bd [48 + (r % 2).toNat]))):=by
 have:r % 2=0\/r % 2=1:=by omega
 rcases this with h|h <;> rw [h] <;> rfl
def en_1(n:Int)(w k:Nat)(r:Int)(zm:List Nat)(hk:k < w)(h:wr (w - k) r zm=wr w n []):wr (w - (k + 1)) (r / 2) ((48 + (r % 2).toNat)::zm)=wr w n []:=by
 rw [<-h,show w - k=(w - (k + 1)) + 1 by omega];rfl
def at_4(n:Int)(w:Nat)(h:w<=1000):m_6 [.int n,.int (w:Int)]=.ok (.sh (.str (Bd (wr w n [])))):=by
 obtain⟨Δ',e,r,zm,a4,rfl,hw,hl⟩:=y_2 (gV 4) s_5 (λk Δ=>∃(r:Int) (zm:List Nat) (a4:Sl),Δ= [.sh (.int n),.sh (.int (w:Int)),.sh (.str (Bd zm)),.sh (.int r),a4]/\wr (w - k) r zm=wr w n []/\zm.length=k) (n:=w) (lo:=0)
  (Δ:=[.sh (.int n),.sh (.int (w:Int)),.sh (.str ""),.sh (.int n),.no]) ⟨n,[],.no,rfl,rfl,rfl⟩ (λk Δ hk hI=>by
  obtain⟨r,zm,a4,rfl,hw,hl⟩:=hI;refine⟨_,rfl,[.sh (.int n),.sh (.int (w:Int)),.sh (.str (Bd ((48 + (r % 2).toNat)::zm))),.sh (.int (r / 2)),.sh (.int (0 + (k:Int)))],.inl ?_,r / 2,_,_,rfl,en_1 n w k r zm hk hw,by simp [hl]⟩;have hc:(Bd [48 + (r % 2).toNat]).length + (Bd zm).length<=16777216:=by rw [r_7,r_7];simp;omega
  simp_arith [s_5,Am,Fp (show(0:Int) < 2 by decide),dx_2,di_7 hc,ct_6,s_2 (show(0:Int) < 2 by decide) (by decide)])
 have ew:((w:Int)).toNat=w:=by omega
 have e2:zm=wr w n []:=by rw [<-hw,Nat.sub_self];rfl
 simp_arith [m_6,ac_9,Am,Bu,m_0 (show(-4611686018427387903:Int)<=w by omega) (by omega),ew,e,e2]
def bh_6(x:Str)(hx:x.length<=100000):q_7 [.str x]=.ok (.sh (.int (rd x.cps.toList 0))):=by
 obtain⟨Δ',e,a2,rfl⟩:=h_3 (gV 2) w_8 (λk Δ=>∃a2,Δ= [.sh (.str x),.sh (.int (rd (x.cps.toList.take k) 0)),a2]) (ds:=Gd x) (Δ:=[.sh (.str x),.sh (.int 0),.no]) ⟨.no,rfl⟩ (λk d Δ hk hI=>by
  obtain⟨a2,rfl⟩:=hI;unfold Gd at hk;rw [List.getElem?_map] at hk;cases q:x.cps.toList[k]? with
  |none=>rw [q] at hk;cases hk
  |some c=>
   rw [q] at hk;cases hk;have tk:x.cps.toList.take (k + 1)=x.cps.toList.take k ++ [c]:=by rw [List.take_add_one,q];rfl
   have hs:decide ((⟨#[c]⟩:Str)= "1")=decide (c=49):=by
    by_cases hc:c=49
    ·subst hc;rfl
    ·rw [decide_eq_false hc];refine decide_eq_false λz=>hc ?_;have:(⟨#[c]⟩:Str).cps.toList=("1" :Str).cps.toList:=by rw [z]
     have: [c]= [49]:=this;simpa using this
   refine⟨_,rfl,[.sh (.str x),.sh (.int (rd (x.cps.toList.take (k + 1)) 0)),.sh (.str ⟨#[c]⟩)],.inl ?_,_,rfl⟩;rw [tk,dk_8]
   simp_arith [w_8,Am,Do (Es (show(-18446744073709551616:Int) < 2 by decide) (by decide)),du_1,hs]
   by_cases hc:c=49
   ·subst hc;simp_arith [Am,Fv];rfl
   ·simp_arith [hc,Am,Fv]
    simp [rd,hc])
 have el:(Gd x).length=x.cps.toList.length:=by unfold Gd;rw [List.length_map]
 rw [el,List.take_length] at e
 simp_arith [q_7,an_2,Am,Bu,e]
theorem bh_7(w:Nat):∀ns:List Int,((ns.map λn=>wr w n []).flatten).length=w * ns.length
 | []=>by simp
 |n::ns=>by
  rw [List.map_cons,List.flatten_cons,List.length_append,bh_7 w ns,aq_2,List.length_cons,Nat.mul_succ];simp;omega
def wrD(w:Nat):D->D
 | .int n=> .str (Bd (wr w n []))
 |d=>d
def bx_3(ns:List Int)(w:Nat)(h1:w<=1000)(h2:ns.length<=10000):ar_9 (.str "") [.lst (ns.map ((wrD w) ∘ D.int))]=.ok (.sh (.str (Bd ((ns.map λn=>wr w n []).flatten)))):=by
 have hj:=cd_7 (λn=>Bd (wr w n [])) ns (by
  rw [List.map_map];have:(ns.map ((λx=>Str.length x) ∘ λn=>Bd (wr w n [])))=ns.map λ_=>w:=by
   apply List.map_congr_left;intro n _;show(Bd (wr w n [])).length=w;rw [r_7,aq_2];rfl
  rw [this];simp only [List.map_const',List.sum_replicate_nat];have:=Nat.mul_le_mul h2 h1;omega)
 have hj':ar_9 (.str "") [.lst (ns.map ((wrD w) ∘ D.int))]=.ok (.sh (.str (Bd ((ns.map λn=>wr w n []).flatten)))):=by
  refine Eq.trans (show _=ar_9 (.str "") [.lst (ns.map λn=> .str (Bd (wr w n [])))] from rfl) (hj.trans ?_)
  congr 3
  apply bu_7;rw [cd_6,i_9,List.map_map]
  congr 1
 exact hj'
def ch_4{z m:Int}(h0:0<=z)(h1:z < m):l_7 [.int z,.int m]=.ok (.sh (.bl true)):=by
 simp_arith [l_7,ap_7,Am,ap_3,cs_4,Ge,h0,h1]
def co_7(ns:List Int)(w:Nat)(h1:w<=1000)(h2:ns.length<=10000)(hn:∀n∈ns,0<=n/\n < 2 ^ w):
  ad_0 [.lst (ns.map .int),.int (w:Int)]=.ok (.sh (.str (Bd ((ns.map λn=>wr w n []).flatten)))):=by
 obtain⟨Δ',e,a3,a4,rfl⟩:=h_3 (Gb 3 4) aj_7 (λk Δ=>∃a3 a4,Δ= [.sh (.lst (ns.map .int)),.sh (.int (w:Int)),.sh (.int (2 ^ w)),a3,a4]) (ds:=Gc 0 (ns.map .int))
  (Δ:=[.sh (.lst (ns.map .int)),.sh (.int (w:Int)),.sh (.int (2 ^ w)),.no,.no]) ⟨.no,.no,rfl⟩ (λk d Δ hk hI=>by
  obtain⟨a3,a4,rfl⟩:=hI;obtain⟨d',e1,rfl⟩:=p_5 hk;rw [List.getElem?_map] at e1;cases q:ns[k]? with
  |none=>rw [q] at e1;cases e1
  |some n=>
   rw [q] at e1;cases e1;obtain⟨b1,b2⟩:=hn n (List.mem_of_getElem? q);refine⟨_,rfl,[.sh (.lst (ns.map .int)),.sh (.int (w:Int)),.sh (.int (2 ^ w)),.sh (.int ((0 + k:Nat):Int)),.sh (.int n)],.inl ?_,_,_,rfl⟩
   simp_arith [aj_7,Am,ch_4 b1 b2])
 have ec:=p_9 (fg:=gC 5) (f:=aa_3) (δ:=[some (.lst (ns.map .int)),some (.int (w:Int)),some (.int (2 ^ w)),a3.any,a4.any,none]) (wrD w) (ns.map .int) (λd hd=>by
  obtain⟨n,_,rfl⟩:=List.mem_map.mp hd;exact⟨_,.sh (.str (Bd (wr w n []))),rfl,by simp_arith [aa_3,Am,at_4 n w h1],rfl⟩)
 rw [List.map_map] at ec;have ec':=k_2 (m:=1) (fi:=Db (Ab 0)) (fg:=gC 5) (p:=λ_=> .ok true) (f:=aa_3) (δ:=[some (.lst (ns.map .int)),some (.int (w:Int)),some (.int (2 ^ w)),a3.any,a4.any]) (by simp_arith [Am]) (by rw [List.length_map];omega) ec;have hj':=bx_3 ns w h1 h2
 simp_arith [ad_0,bq_5,Am,t_3 w h1,Bu,u_5,av_5,e,ec',hj',beq_self_eq_true]
def dm_3{c:Nat}(h:bit c):((!decide ((⟨#[c]⟩:Str)= "0")) && (!decide ((⟨#[c]⟩:Str)= "1")))=false:=by
 rcases h with rfl|rfl <;> rfl
def bx_4(x:Str)(w m:Nat)(h1:1<=w)(hx:x.length=w * m)(hx2:x.length<=100000)(hb:∀c∈x.cps.toList,bit c):w_2 [.str x,.int (w:Int)]=.ok (.sh .non):=by
 obtain⟨Δ',e,a3,a4,rfl⟩:=h_3 (Gb 2 3) ab_6 (λk Δ=>∃a3 a4,Δ= [.sh (.str x),.sh (.int (w:Int)),a3,a4]) (ds:=Gc 0 (Gd x))
  (Δ:=[.sh (.str x),.sh (.int (w:Int)),.no,.no]) ⟨.no,.no,rfl⟩ (λk d Δ hk hI=>by
  obtain⟨a3,a4,rfl⟩:=hI;obtain⟨d',e1,rfl⟩:=p_5 hk;unfold Gd at e1;rw [List.getElem?_map] at e1;cases q:x.cps.toList[k]? with
  |none=>rw [q] at e1;cases e1
  |some c=>
   rw [q] at e1;cases e1;have hs:=dm_3 (hb c (List.mem_of_getElem? q));refine⟨_,rfl,[.sh (.str x),.sh (.int (w:Int)),.sh (.int ((0 + k:Nat):Int)),.sh (.str ⟨#[c]⟩)],.inl ?_,_,_,rfl⟩
   simp_arith [ab_6,Am,du_2]
   cases e2:decide ((⟨#[c]⟩:Str)= "0") with
   |true=>simp_arith [Am]
   |false=>
    rw [e2] at hs;cases e3:decide ((⟨#[c]⟩:Str)= "1") with
    |true=>simp_arith [Am]
    |false=>rw [e3] at hs;cases hs)
 have c1:¬((w:Int) < 1):=by omega
 have c2:((x.length:Int) % (w:Int)=0):=by rw [hx];simp
 have em:q_6 [.int (x.length:Int),.int (w:Int)]=.ok (.sh (.bl true)):=by
  simp_arith [q_6,an_1,Am,Ge,c1,Fp (show(0:Int) < w by omega),Fq,c2]
 simp_arith [w_2,az_4,Am,Bu,u_5,av_5,e,ac_5 (show x.length<=16777216 by omega),em]
def Hj(l:List Nat)(w:Nat)(m:Nat):List Int:=(List.range m).map λi=>rd ((l.drop (w * i)).take w) 0
def ba_0(l:List Nat)(w m:Nat):Hj l w (m + 1)=Hj l w m ++ [rd ((l.drop (w * m)).take w) 0]:=by
 unfold Hj;rw [List.range_succ,List.map_append];rfl
def bx_5(x:Str)(w m:Nat)(h1:1<=w)(hx:x.length=w * m)(hx2:x.length<=100000)(hm:m < 2999)(hb:∀c∈x.cps.toList,bit c):
  w_3 [.str x,.int (w:Int)]=.ok (.ow (.lst ((Hj x.cps.toList w m).map .int))):=by
 have lw:=cm_9 (js:=[0,3]) (p:=q_8) (g:=v_7) (λi=> [.sh (.str x),.sh (.int (w:Int)),.ow (.lst ((Hj x.cps.toList w i).map .int)),.sh (.int ((w * i:Nat):Int))]) (m:=m) (fuel:=3000) (by omega) (λi hi=>by
  have hlt:w * i + w<=x.length:=by
   rw [hx];have:=Nat.mul_le_mul_left w (show i + 1<=m by omega);rw [Nat.mul_succ] at this;exact this
  have c1:((w * i:Nat):Int) < (x.length:Int):=by omega
  have sl:=bp_8 x (w * i) (w * i + w) (by omega) hlt;have ew:w * i + w - w * i=w:=by omega
  rw [ew] at sl;have nr:=bh_6 (Txt.slice x (some ((w * i:Nat):Int)) (some ((w * i + w:Nat):Int))) (by
   rw [x_9,sl,List.length_take,List.length_drop];omega)
  rw [sl] at nr;have ei:((w * i:Nat):Int) + (w:Int)=((w * i + w:Nat):Int):=by omega
  have hl2:((Hj x.cps.toList w i).map D.int).length < 16777216:=by
   unfold Hj;rw [List.length_map,List.length_map,List.length_range];omega
  refine⟨by simp_arith [q_8,Am,ac_5 (show x.length<=16777216 by omega),Ge,c1], ?_⟩
  simp_arith [v_7,Am,Ea,hl2,Fv,ei,av_3,show x.length<=16777216 by omega,nr]
  rw [ba_0,List.map_append,Nat.mul_succ];rfl) (by
  have c1:¬((w * m:Nat):Int) < (x.length:Int):=by omega
  simp_arith [q_8,Am,ac_5 (show x.length<=16777216 by omega),Ge,c1])
 have lw':Gy [0,3] q_8 v_7 3000 [.sh (.str x),.sh (.int (w:Int)),.ow (.lst []),.sh (.int 0)]=.nx [.sh (.str x),.sh (.int (w:Int)),.ow (.lst ((Hj x.cps.toList w m).map .int)),.sh (.int ((w * m:Nat):Int))]:=lw
 simp_arith [w_3,az_5,Am,bx_4 x w m h1 hx hx2 hb,lw']
abbrev Lu:List Str:=["by_salt","kind","part","modulus","listed"]
def Br(s ib ig m:Int)(T:List Int):D:=.obj "Table" Lu [.int s,.int ib,.int ig,.int m,.lst (T.map .int)]
def z_5(a b c d e:D):aa_2 [a,b,c,d,e]=.ok (Lu,[a,b,c,d,e]):=by
 rfl'
def at_5{ks:List D}{s ib:Int}(h:Ks ks s ib)(hs:g_0 [.lst ks,.int s,.int ib]=.ok (.sh (.bl true)))(m:Int)(hm:0 < m)(w:List Int)(hw:w.length=ks.length)(hb:∀i,i < w.length->0<=w.getD i 0/\w.getD i 0 < m):
  ∃T:List Int,(T.length:Int)=ib * Aw (ks.length:Int) ib/\(∀t∈T,0<=t/\t < m)/\(∀i d,ks[i]? =some d->Df T (Dk d s ib (Aw (ks.length:Int) ib)) % m=w.getD i 0)/\
   g_8 [.lst ks,.int s,.int ib,.int m,.lst (w.map .int)]=.ok (.sh (Br s ib (Aw (ks.length:Int) ib) m T)):=by
 obtain⟨p1,_,p3,p4⟩:=r_8 (ks.length:Int) ib (by have:=h.h1;omega) (by have:=h.h2;omega) h.kd;obtain⟨b,eb,hb2⟩:=al_6 h;rw [hs] at eb;have hbt:b=true:=by
  injection eb with eb;injection eb with eb;injection eb with eb;exact eb.symm
 obtain⟨ord,hall,⟨st,hP⟩,ef⟩:=hb2 hbt;have hkd:=h.kd;generalize hpart:Aw (ks.length:Int) ib=ig at *
 have hsz:0<=ib * ig:=Int.mul_nonneg (by omega) (by omega);have fq:ib * ig<=3 * 2000:=Int.mul_le_mul (by omega) p4 (by omega) (by omega);obtain⟨ik,hsize⟩:∃n:Nat,(n:Int)=ib * ig:=⟨(ib * ig).toNat,by omega⟩;have dw:∀n ps,(En ks s ib)[n]? =some ps->∃d,ks[n]? =some d/\ps=Dk d s ib ig:=λn ps e=>by
  unfold En at e;rw [List.getElem?_map] at e;obtain⟨d,e1,e2⟩:=Option.map_eq_some_iff.mp e;exact⟨d,e1,by rw [<-e2,hpart]⟩
 have hok:∀x∈ord,∃ps,(En ks s ib)[x.1]? =some ps/\ps.Nodup/\x.2∈ps/\(∀p∈ps,p < ik)/\ps.length<=1000/\x.1 < ks.length:=λx hx=>by
  obtain⟨ps,e1,e2⟩:=hP.ok x hx;obtain⟨d,e3,rfl⟩:=dw x.1 ps e1;refine⟨_,e1,co_4 d s ib ig p3,e2,λp hp=> ?_, ?_,(List.getElem?_eq_some_iff.mp e3).1⟩
  ·have:=af_6 d s ib ig p3 (by omega) p hp;omega
  ·rw [aa_7];omega
 have e1:=co_3 (En ks s ib) w m ik ord hm (by omega) λx hx=>by
  obtain⟨ps,k1,k2,k3,k4,k5,k6⟩:=hok x hx;exact⟨ps,k1,k4,k5,k4 _ k3,by omega⟩
 obtain⟨q1,_⟩:=br_3 (E:=En ks s ib) (w:=w) (ik:=ik) hm ord (λx hx=>by
  obtain⟨ps,k1,k2,k3,k4,k5,k6⟩:=hok x hx;exact⟨ps,k1,k2,k3,k4 _ k3,hb x.1 (by omega)⟩) hP.pw
 refine⟨Ds (En ks s ib) w m ik ord.reverse,by rw [aw_9];exact hsize,λt ht=> ?_,λi d hd=> ?_, ?_⟩
 ·obtain⟨p,hp,rfl⟩:=List.getElem_of_mem ht;have:=dm_2 (En ks s ib) w hm ik ord.reverse p;unfold Fk at this;rw [List.getD_eq_getElem?_getD,List.getElem?_eq_getElem hp] at this;exact this
 ·have hi:i < ks.length:=(List.getElem?_eq_some_iff.mp hd).1;obtain⟨x,hx,rfl⟩:=List.mem_map.mp (hall i hi);have:=q1 x hx;have hg:(En ks s ib).getD x.1 []=Dk d s ib ig:=by
   unfold En;rw [List.getD_eq_getElem?_getD,List.getElem?_map,hd,hpart];rfl
  rw [hg] at this;exact this
 ·have ee:=ch_2 h.k h.nd h.h1 h.h2 s ib h.s0 h.s1 h.kd;rw [br_5 ks s ib (by rw [hpart];exact p3)] at ee;have mm:Ca (.int ib) (.int ig)=.ok (.sh (.int (ik:Int))):=by
   rw [hsize];exact Do (Es (by omega) (by omega))
  have hx:Bn (.tup [.lst (Ch ord),.lst []]) (.int 0)=.ok (.sh (.lst (Ch ord))):=bd_0 (Fx (i:=0) rfl);unfold Br
  simp_arith [g_8,az_2,Am,Hl,p1,ee,ef,co_6,hx,mm,e1,Fb,z_5]
section
variable(s ib ig m:Int)(T:List Int)(r:List (Option D))
def dm_4:Bt ["Table"] "by_salt" (Ab 0) (some (Br s ib ig m T)::r)=.ok (.sh (.int s)):=by rfl'
def dm_5:Bt ["Table"] "kind" (Ab 0) (some (Br s ib ig m T)::r)=.ok (.sh (.int ib)):=by rfl'
def dm_6:Bt ["Table"] "part" (Ab 0) (some (Br s ib ig m T)::r)=.ok (.sh (.int ig)):=by rfl'
def ch_5:Bt ["Table"] "modulus" (Ab 0) (some (Br s ib ig m T)::r)=.ok (.sh (.int m)):=by rfl'
def co_8:Bt ["Table"] "listed" (Ab 0) (some (Br s ib ig m T)::r)=.ok (.sh (.lst (T.map .int))):=by rfl'
def co_9{d:D}{w:W}(h:i_2 [d,.int s,.int ib,.int ig]=.ok w):f_0 [Br s ib ig m T,d]=.ok w:=by
 simp_arith [f_0,aj_4,Am,dm_4,dm_5,dm_6,h]
end
def da_9:(Lu:List Str).contains "places" =false:=by decide +kernel
def eg_8(F:List D->R W):([("Table",F)]:List (Str×(List D->R W))).lookup ("Table" :Str)=some F:=by rfl'
def bh_8{s ib ig m:Int}{T:List Int}{d:D}{w:W}(h:i_2 [d,.int s,.int ib,.int ig]=.ok w)(fo:FE)(δ:DE)(ho:fo δ=.ok (.sh (Br s ib ig m T)))(fa:FA)(ha:fa δ=.ok [d]):Bp "places" 1 [("Table",f_0)] fo fa δ=.ok w:=by
 have t:=co_9 s ib ig m T h;unfold Br at t ho;simp only [Bp,ho,R.bind_ok,W.d_sh,da_9,Bool.false_eq_true,if_false,eg_8,ha,List.length_cons,List.length_nil,Nat.reduceAdd,if_true,t]
def db_0{s ib ig m:Int}{T:List Int}{d:D}{ps:List Nat}(hm:0 < m)(h:i_2 [d,.int s,.int ib,.int ig]=.ok (.sh (eT ps)))(hp:∀p∈ps,p < T.length)(hl:ps.length<=1000):c_6 [Br s ib ig m T,d]=.ok (.sh (.int (Df T ps % m))):=by
 have hs:p_0 [.lst (T.map .int),eT ps,.int m]=.ok (.sh (.int (Df T ps % m))):=br_1 T ps m hm hp hl;have eh:=bh_8 (m:=m) (T:=T) h (Ab 0) [some (Br s ib ig m T),some d] rfl (Aa (Ab 1) Ac) rfl;unfold c_6;refine r_4 ?_;unfold am_9;have e:At 3 p_0 (Aa (Bt ["Table"] "listed" (Ab 0)) (Aa (Bp "places" 1 [("Table",f_0)] (Ab 0) (Aa (Ab 1) Ac)) (Aa (Bt ["Table"] "modulus" (Ab 0)) Ac))) [some (Br s ib ig m T),some d]=.ok (.sh (.int (Df T ps % m))):=by
  simp only [At,Aa,Ac,co_8,eh,ch_5,R.bind_ok,W.d_sh,List.length_cons,List.length_nil,Nat.reduceAdd,if_true,hs]
 show(match At 3 p_0 _ (Ar [.sh (Br s ib ig m T),.sh d]) with| .ok w=>Fl.rt w| .ex _=>_| .no=> .no)=_;have e':At 3 p_0 (Aa (Bt ["Table"] "listed" (Ab 0)) (Aa (Bp "places" 1 [("Table",f_0)] (Ab 0) (Aa (Ab 1) Ac)) (Aa (Bt ["Table"] "modulus" (Ab 0)) Ac))) (Ar [.sh (Br s ib ig m T),.sh d])=.ok (.sh (.int (Df T ps % m))):=e;rw [e']
def Dn(ord:List (Nat×Nat)):List (Au×D):=ord.map λx=>(Sum.inl (x.1:Int),D.int (x.2:Int))
def plc(ord:List (Nat×Nat))(i:Nat):Nat:=((ord.find? λx=>decide (x.1=i)).map (·.2)).getD 0
def dx_3{ord:List (Nat×Nat)}{n p:Nat}(h:n∉ord.map (·.1)):Eb (Dn ord) (.inl (n:Int)) (D.int (p:Int))=Dn (ord ++ [(n,p)]):=by
 unfold Eb;have hno:¬((Dn ord).any λkv=>decide (kv.1=Sum.inl (n:Int)))=true:=λhc=>by
  obtain⟨kv,hm,e⟩:=List.any_eq_true.mp hc;obtain⟨x,hx,rfl⟩:=List.mem_map.mp hm;have e:=of_decide_eq_true e;injection e with e
  exact h (List.mem_map.mpr ⟨x,hx,by omega⟩)
 rw [if_neg hno];unfold Dn;rw [List.map_append];rfl
theorem cu_3:∀(ord:List (Nat×Nat)) (i:Nat),i∈ord.map (·.1)->Dy (Dn ord) (.inl (i:Int))=some (D.int (plc ord i:Nat))
 | [],i,h=>by simp at h
 |x::ord,i,h=>by
  unfold Dy plc Dn;rw [List.map_cons,List.find?_cons,List.find?_cons]
  by_cases c:x.1=i
  ·have c':(Sum.inl (x.1:Int):Au)=Sum.inl (i:Int):=by rw [c]
   simp only [c,decide_true,c',Option.map_some,Option.getD_some]
  ·have c':¬(Sum.inl (x.1:Int):Au)=Sum.inl (i:Int):=λz=>by injection z with z;omega
   simp only [c,decide_false,c'];exact cu_3 ord i (by
    rcases List.mem_cons.mp h with z|z
    ·exact absurd z.symm c
    ·exact z)
theorem cp_0:∀{ord:List (Nat×Nat)} {x:Nat×Nat},(ord.map (·.1)).Nodup->x∈ord->plc ord x.1=x.2
 | [],x,_,h=>by simp at h
 |y::ord,x,nd,h=>by
  rw [List.map_cons,List.nodup_cons] at nd;unfold plc;rw [List.find?_cons];rcases List.mem_cons.mp h with rfl|h
  ·simp
  ·have c:¬y.1=x.1:=λe=>nd.1 (e▸List.mem_map.mpr ⟨x,h,rfl⟩);simp only [c,decide_false];exact cp_0 nd.2 h
def db_1{ks:List D}{s ib:Int}(h:Ks ks s ib)(hs:g_0 [.lst ks,.int s,.int ib]=.ok (.sh (.bl true))):
  ∃C:List Nat,C.length=ks.length/\C.Nodup/\(∀i d,ks[i]? =some d->C.getD i 0∈Dk d s ib (Aw (ks.length:Int) ib))/\o_0 [.lst ks,.int s,.int ib]=.ok (.ow (.lst (zi C))):=by
 have h2:=h.h2;obtain⟨b,eb,hb2⟩:=al_6 h;rw [hs] at eb;have hbt:b=true:=by
  injection eb with eb;injection eb with eb;injection eb with eb;exact eb.symm
 obtain⟨ord,hall,⟨st,hP⟩,ef⟩:=hb2 hbt;have hEl:(En ks s ib).length=ks.length:=by unfold En;rw [List.length_map]
 have hlt:∀x∈ord,x.1 < ks.length:=λx hx=>by have:=(hP.ok x hx).lt;omega
 have bc:(ord.map (·.1)).Perm (List.range ks.length):=(List.perm_ext_iff_of_nodup hP.nd List.nodup_range).mpr λn=>by
  rw [List.mem_range];exact⟨λz=>by obtain⟨x,hx,rfl⟩:=List.mem_map.mp z;exact hlt x hx,hall n⟩
 have hol:ord.length=ks.length:=by have:=bc.length_eq;rw [List.length_map,List.length_range] at this;exact this
 have nd2:(ord.map (·.2)).Nodup:=by
  unfold List.Nodup;rw [List.pairwise_map];refine List.Pairwise.imp_of_mem (λ{a b} ha hb hr=> ?_) hP.pw;intro e;exact hr (by rw [e];exact hP.ok b hb)
 have eg:(ord.map (·.1)).map (plc ord)=ord.map (·.2):=by
  rw [List.map_map];exact List.map_congr_left λx hx=>cp_0 hP.nd hx
 refine⟨(List.range ks.length).map (plc ord),by simp, ?_,λi d hd=> ?_, ?_⟩
 ·have:=(bc.map (plc ord)).symm;rw [eg] at this;exact this.nodup_iff.mpr nd2
 ·have hi:i < ks.length:=(List.getElem?_eq_some_iff.mp hd).1;rw [List.getD_eq_getElem?_getD,List.getElem?_map,List.getElem?_range hi];obtain⟨x,hx,rfl⟩:=List.mem_map.mp (hall i hi);show plc ord x.1∈_;rw [cp_0 hP.nd hx];obtain⟨e,e1,e2⟩:=hP.ok x hx;unfold En at e1;rw [List.getElem?_map,hd] at e1;cases e1;exact e2
 ·have hx:Bn (.tup [.lst (Ch ord),.lst []]) (.int 0)=.ok (.sh (.lst (Ch ord))):=bd_0 (Fx (i:=0) rfl);obtain⟨Δ',e,a4,a5,rfl⟩:=h_3 (Gb 4 5) l_2 (λk Δ=>∃a4 a5,Δ= [.sh (.lst ks),.sh (.int s),.sh (.int ib),.ow (.dic (Dn (ord.take k))),a4,a5]) (ds:=Ch ord) (Δ:=[.sh (.lst ks),.sh (.int s),.sh (.int ib),.ow (.dic []),.no,.no]) ⟨_,_,rfl⟩ (λk d Δ hd hI=>by
   obtain⟨a4,a5,rfl⟩:=hI;obtain⟨x,hx,rfl⟩:=ch_3 hd;have hkl:k < ord.length:=(List.getElem?_eq_some_iff.mp hx).1;have hn:x.1∉(ord.take k).map (·.1):=λhm=>by
    obtain⟨y,hy,e⟩:=List.mem_map.mp hm;obtain⟨j,hj,e2⟩:=List.getElem_of_mem hy;rw [List.length_take] at hj;have nd:=hP.nd;have h1:(ord.map (·.1))[j]'(by rw [List.length_map];omega)=(ord.map (·.1))[k]'(by rw [List.length_map];exact hkl):=by
     rw [List.getElem_map,List.getElem_map];have:ord[k]=x:=(List.getElem?_eq_some_iff.mp hx).2;rw [this,<-e,<-e2];simp
    exact List.pairwise_iff_getElem.mp nd j k (by rw [List.length_map];omega) (by rw [List.length_map];exact hkl) (by omega) h1
   have hp:=dx_3 (p:=x.2) hn;have hl:(Dn (ord.take k)).length < 16777216:=by unfold Dn;rw [List.length_map,List.length_take];omega
   refine⟨_,rfl,[.sh (.lst ks),.sh (.int s),.sh (.int ib),.ow (.dic (Dn (ord.take (k + 1)))),.sh (.int (x.1:Int)),.sh (.int (x.2:Int))],.inl ?_,_,_,rfl⟩;rw [List.take_add_one,hx];show l_2 [.sh (.lst ks),.sh (.int s),.sh (.int ib),.ow (.dic (Dn (ord.take k))),.sh (.int (x.1:Int)),.sh (.int (x.2:Int))]=_
   simp_arith [l_2,Am,as_3,Dl,hl,hp,Option.toList])
  have hTl:(Ch ord).length=ord.length:=by unfold Ch;rw [List.length_map]
  rw [hTl,List.take_length] at e;have t1:Ag 3 [] as_2 (Ay 6 [.lst ks,.int s,.int ib])=.nx [.sh (.lst ks),.sh (.int s),.sh (.int ib),.ow (.dic []),.no,.no]:=rfl;have hi:Db (Aj Bn (At 3 Gv (Aa (Ab 0) (Aa (Ab 1) (Aa (Ab 2) Ac)))) (eC (.int 0))) (Bb [.sh (.lst ks),.sh (.int s),.sh (.int ib),.ow (.dic []),.no,.no])=.ok (Ch ord):=by
   simp_arith [Am,ef,co_6,hx]
  have t2:Bu [0,1,2] (Db (Aj Bn (At 3 Gv (Aa (Ab 0) (Aa (Ab 1) (Aa (Ab 2) Ac)))) (eC (.int 0)))) (Gb 4 5) l_2 [.sh (.lst ks),.sh (.int s),.sh (.int ib),.ow (.dic []),.no,.no]=.nx [.sh (.lst ks),.sh (.int s),.sh (.int ib),.ow (.dic (Dn ord)),a4,a5]:=by
   unfold Bu;rw [hi];exact e
  have ec:=k_2 (m:=1) (fi:=Ax Co (Aa (Ah Bs (Aa (Ab 0) Ac)) Ac)) (fg:=gC 6) (p:=λ_=> .ok true) (f:=t_9) (δ:=[some (.lst ks),some (.int s),some (.int ib),some (.dic (Dn ord)),a4.any,a5.any]) (ds:=Cc 0 ks.length) (by simp_arith [Am,Hl,m_0 (show(-4611686018427387903:Int)<=(ks.length:Int) by omega) (by omega),Int.toNat_natCast]) (by rw [m_3];omega)
   (p_9 (λd=>match d with| .int j=> .int (plc ord j.toNat:Nat)|d=>d) (Cc 0 ks.length) λd hd=>by
    obtain⟨j,hj,rfl⟩:=List.mem_map.mp hd;have hj:=List.mem_range.mp hj;refine⟨[some (.lst ks),some (.int s),some (.int ib),some (.dic (Dn ord)),a4.any,a5.any,some (.int (0 + (j:Int)))],.sh (.int (plc ord j:Nat)),rfl, ?_,by simp⟩;have hv:=cu_3 ord j (hall j hj);rw [Int.zero_add]
    simp_arith [t_9,Am,Eu,Dl,hv])
  have hz:(Cc 0 ks.length).map (λd=>match d with| .int j=>D.int (plc ord j.toNat:Nat)|d=>d)=zi ((List.range ks.length).map (plc ord)):=by
   unfold Cc zi;rw [List.map_map,List.map_map];apply List.map_congr_left;intro j _;simp
  rw [hz] at ec;refine r_4 ?_;unfold ag_2;rw [Bl t1,Bl t2];have hv:Ar [.sh (.lst ks),.sh (.int s),.sh (.int ib),.ow (.dic (Dn ord)),a4,a5]= [some (.lst ks),some (.int s),some (.int ib),some (.dic (Dn ord)),a4.any,a5.any]:=rfl;unfold Ao;rw [hv,ec]
def Ex(C:List Nat)(ik:Nat):List Nat:=(List.range ik).map λp=>if p∈C then 49 else 48
def rk(C:List Nat)(p:Nat):Nat:=(C.filter λc=>decide (c < p)).length
def ch_6(C:List Nat)(ik:Nat):(Ex C ik).length=ik:=by unfold Ex;simp
def dx_4(n:Nat)(l:List Nat):Ct (.int (n:Int)) (zi l)=decide (n∈l):=by
 induction l with
 |nil=>rfl
 |cons y l ih=>
  unfold Ct zi at ih⊢;rw [List.map_cons,List.any_cons,ih];have:eqF (D.int (y:Int)) (D.int (n:Int))=decide ((y:Int)=(n:Int)):=rfl;rw [this]
  by_cases h:y=n
  ·subst h;simp
  ·have h':¬n=y:=λz=>h z.symm;have h3:¬((y:Int)=(n:Int)):=by omega
   simp [h3,h']
def dm_7(l:List Nat):(zi l).all Ba=true:=by
 unfold zi;rw [List.all_map];exact List.all_eq_true.mpr λ_ _=>rfl
def dm_8(n:Nat)(l:List Nat):inD false (.int (n:Int)) (.lst (zi l))=.ok (.sh (.bl (decide (n∈l)))):=by
 have h:inD false (.int (n:Int)) (.lst (zi l))=if(Ba (.int (n:Int)) && (zi l).all Ba)=true then .ok (.sh (.bl (Ct (.int (n:Int)) (zi l)))) else .no:=rfl
 rw [h,dm_7,if_pos (show(Ba (.int (n:Int)) && true)=true from rfl),dx_4]
def eg_9(C:List Nat)(ik:Nat)(hz:ik<=100000):k_7 [.lst (zi C),.int (ik:Int)]=.ok (.sh (.str (Bd (Ex C ik)))):=by
 have ec:=k_2 (m:=1) (fi:=Ax Co (Aa (Ab 1) Ac)) (fg:=gC 2) (p:=λ_=> .ok true) (f:=o_6) (δ:=[some (.lst (zi C)),some (.int (ik:Int))]) (ds:=Cc 0 ik) (by simp_arith [Am,m_0 (show(-4611686018427387903:Int)<=(ik:Int) by omega) (by omega),Int.toNat_natCast]) (by rw [m_3];omega)
  (p_9 (λd=>match d with| .int j=> .str (Bd [if j.toNat∈C then 49 else 48])|d=>d) (Cc 0 ik) λd hd=>by
   obtain⟨j,hj,rfl⟩:=List.mem_map.mp hd;refine⟨[some (.lst (zi C)),some (.int (ik:Int)),some (.int (0 + (j:Int)))],.sh (.str (Bd [if j∈C then 49 else 48])),rfl, ?_,by simp⟩;rw [Int.zero_add]
   by_cases c:j∈C
   ·simp_arith [o_6,Am,eIf,dm_8,c,decide_true,if_true];rfl
   ·simp_arith [o_6,Am,eIf,dm_8,c,decide_false,if_false];rfl)
 have hz2:(Cc 0 ik).map (λd=>match d with| .int j=>D.str (Bd [if j.toNat∈C then 49 else 48])|d=>d)=(List.range ik).map λp=> .str (Bd [if p∈C then 49 else 48]):=by
  unfold Cc;rw [List.map_map];apply List.map_congr_left;intro j _;simp
 rw [hz2] at ec;have hj:=cd_7 (λp=>Bd [if p∈C then 49 else 48]) (List.range ik) (by
  rw [List.map_map];have:((List.range ik).map ((λx=>Str.length x) ∘ λp=>Bd [if p∈C then 49 else 48]))=(List.range ik).map λ_=>1:=by
   apply List.map_congr_left;intro n _;show(Bd _).length=1;rw [r_7];rfl
  rw [this];simp only [List.map_const',List.sum_replicate_nat,List.length_range];omega)
 have cg:Txt.join (Str.ofString "") ((List.range ik).map λp=>Bd [if p∈C then 49 else 48])=Bd (Ex C ik):=by
  refine bu_7 ?_;rw [i_9,cd_6,List.map_map];unfold Ex;generalize List.range ik=l
  induction l with
  |nil=>rfl
  |cons x l ih=>rw [List.map_cons,List.flatten_cons,ih,List.map_cons];show(Bd _).cps.toList ++ _=_;rw [i_9];rfl
 simp_arith [k_7,ag_3,Am,ec,beq_self_eq_true,hj,cg]
def bx_6{C:List Nat}(nd:C.Nodup)(p:Nat):rk C (p + 1)=rk C p + if p∈C then 1 else 0:=by
 unfold rk
 induction C with
 |nil=>rfl
 |cons c C ih=>
  rw [List.nodup_cons] at nd;have ih:=ih nd.2;simp only [List.filter_cons]
  by_cases e:c=p
  ·subst e;have h1:c < c + 1:=by omega
   have h2:¬c < c:=by omega
   have h3:c∉C:=nd.1;simp only [h1,h2,decide_true,decide_false,if_true,List.length_cons,List.mem_cons,true_or,Bool.false_eq_true,if_false];rw [ih];simp [h3]
  ·have h4:(p∈c::C)=(p∈C):=by
    have:¬p=c:=λz=>e z.symm;simp [this]
   by_cases h:c < p
   ·have h1:c < p + 1:=by omega
    simp only [h,h1,decide_true,if_true,List.length_cons,h4];rw [ih];omega
   ·have h1:¬c < p + 1:=by omega
    simp only [h,h1,decide_false,Bool.false_eq_true,if_false,h4];exact ih
theorem br_7{C:List Nat}(nd:C.Nodup):∀p,(Ex C p).count 49=rk C p
 |0=>by
  unfold Ex rk;rw [List.filter_eq_nil_iff.mpr λc _=>by simp];rfl
 |p + 1=>by
  unfold Ex;rw [List.range_succ,List.map_append,List.count_append];have:=br_7 nd p;unfold Ex at this;rw [this,bx_6 nd]
  by_cases c:p∈C <;> simp [c]
def dm_9(C:List Nat){p ik:Nat}(h:p<=ik):(Ex C ik).take p=Ex C p:=by
 unfold Ex;rw [<-List.map_take,List.take_range,Nat.min_eq_left h]
def dz_6{C:List Nat}{c:Nat}(h:c∈C):rk C c < C.length:=by
 unfold rk;exact List.length_filter_lt_length_iff_exists.mpr ⟨c,h,by simp⟩
def cu_4{C:List Nat}(nd:C.Nodup){a b:Nat}(ha:a∈C)(h:a < b):rk C a < rk C b:=by
 have:∀k,rk C a < rk C (a + 1 + k):=λk=>by
  induction k with
  |zero=>rw [Nat.add_zero,bx_6 nd,if_pos ha];omega
  |succ k ih=>rw [show a + 1 + (k + 1)=(a + 1 + k) + 1 by omega,bx_6 nd];omega
 have h2:=this (b - (a + 1))
 rwa [show a + 1 + (b - (a + 1))=b by omega] at h2
def en_2{C:List Nat}(nd:C.Nodup):(C.map (rk C)).Nodup:=by
 unfold List.Nodup;rw [List.pairwise_map];refine List.Pairwise.imp_of_mem (λ{a b} ha hb hr=> ?_) nd;intro e;rcases Nat.lt_trichotomy a b with z|z|z
 ·have:=cu_4 nd ha z;omega
 ·exact hr z
 ·have:=cu_4 nd hb z;omega
def ax_0(t:Tn):Sl.pub (.lt t)=none:=rfl
def y_0{Δ:SE}{i:Nat}{cs:List Str}{f c:Str}{js:List Nat}{fe:FE}{ns:List Str}{ts:List Tn}{w:W}(hg:gsome js Δ=Δ)(h0:Δ[i]? =some (.lt (.obj c ns ts)))(hc:cs.contains c=true/\ns.contains f=false/\ns.length < 1000)(he:fe (Bb Δ)=.ok w):
  Cp i cs f js fe Δ=.nx (Δ.set i (.lt (.obj c (ns ++ [f]) (ts ++ [.sh w.d])))):=by
 unfold Cp;rw [hg];simp only [h0,he,if_pos hc]
def ch_7{Δ:SE}{i:Nat}{c:Str}{js:List Nat}{F:List D->R (List Str×List D)}{fe:FE}{w:W}{p:List Str×List D}(hg:gsome js Δ=Δ)(h0:Δ[i]? =some (.lt (.obj c [] [])))(he:fe (Bb Δ)=.ok w)(hF:F [w.d]=.ok p):
  ai_9 i c js F fe Δ=.nx (Δ.set i (.lt (.obj c p.1 (p.2.map .sh)))):=by
 unfold ai_9;rw [hg];simp only [h0,he,hF,if_true]
def en_3(d:D):e_9 [d]=.ok (["how_many"],[d]):=by
 rfl'
def en_4(d:D):e_3 [d]=.ok (["how_many"],[d]):=by
 rfl'
def eh_0{ks:List D}{ib ii:Int}{x:Xn}(e:Dq [.lst ks,.int ib,.int ii]=.ex x):w_0 [.lst ks,.int ib,.int ii]=.ex x:=by
 unfold w_0 Go u_0;have t1:Ag 4 [1,2,3] (At 3 Dq (Aa (Ab 1) (Aa (Ab 2) (Aa (Ab 3) Ac)))) (n_2 7 "Peeled" [.lst ks,.int ib,.int ii])=.ex x [.lt (.obj "Peeled" [] []),.sh (.lst ks),.sh (.int ib),.sh (.int ii),.no,.no,.no]:=by
  have:At 3 Dq (Aa (Ab 1) (Aa (Ab 2) (Aa (Ab 3) Ac))) (Bb (n_2 7 "Peeled" [.lst ks,.int ib,.int ii]))=.ex x:=e;unfold Ag;rw [this];rfl
 unfold Af;rw [t1]
def eh_1{ks:List D}{ib ii:Int}{x:Xn}(e:Dq [.lst ks,.int ib,.int ii]=.ex x):t_1 [.lst ks,.int ib,.int ii]=.ex x:=by
 unfold t_1 Go s_3;have t1:Ag 4 [1,2,3] (At 3 Dq (Aa (Ab 1) (Aa (Ab 2) (Aa (Ab 3) Ac)))) (n_2 5 "Ordered" [.lst ks,.int ib,.int ii])=.ex x [.lt (.obj "Ordered" [] []),.sh (.lst ks),.sh (.int ib),.sh (.int ii),.no]:=by
  have:At 3 Dq (Aa (Ab 1) (Aa (Ab 2) (Aa (Ab 3) Ac))) (Bb (n_2 5 "Ordered" [.lst ks,.int ib,.int ii]))=.ex x:=e;unfold Ag;rw [this];rfl
 unfold Af;rw [t1]
structure Pel(ks:List D)(s ib ig:Int)(C:List Nat)(T:List Int)(ik:Nat):Prop where
 K:Ks ks s ib
 pt:ig=Aw (ks.length:Int) ib
 p0:0 < ig
 p1:ig<=2000
 sz:(ik:Int)=ib * ig
 len:C.length=ks.length
 nd:C.Nodup
 mem:∀i d,ks[i]? =some d->C.getD i 0∈Dk d s ib ig
 tl:T.length=ik
 tb:∀t∈T,0<=t/\t < ib
 ts:∀i d,ks[i]? =some d->Df T (Dk d s ib ig) % ib=((C.getD i 0:Nat):Int) / ig
def choC(s ib ig:Int)(T:List Int)(d:D):Nat:=(Dk d s ib ig).getD (Df T (Dk d s ib ig) % ib).toNat 0
section
variable{ks:List D}{s ib ig:Int}{C:List Nat}{T:List Int}{ik:Nat}
def Pel.k2(h:Pel ks s ib ig C T ik):2<=ib/\ib<=3:=by rcases h.K.kd with z|z <;> omega
def Pel.z(h:Pel ks s ib ig C T ik):ik<=6000:=by
 have:=h.k2;have hle:ib * ig<=3 * 2000:=Int.mul_le_mul (by omega) h.p1 (by have:=h.p0;omega) (by omega);have:=h.sz;omega
def Pel.tell(h:Pel ks s ib ig C T ik)(d:D):0<=Df T (Dk d s ib ig) % ib/\Df T (Dk d s ib ig) % ib < ib:=by
 have:=h.k2;exact⟨Int.emod_nonneg _ (by omega),Int.emod_lt_of_pos _ (by omega)⟩
def Pel.at_(h:Pel ks s ib ig C T ik)(d:D):(Dk d s ib ig)[(Df T (Dk d s ib ig) % ib).toNat]? =some (choC s ib ig T d):=by
 have ht:=h.tell d;have hl:(Df T (Dk d s ib ig) % ib).toNat < (Dk d s ib ig).length:=by rw [aa_7];omega
 unfold choC;rw [List.getD_eq_getElem?_getD,List.getElem?_eq_getElem hl];rfl
def Pel.lt(h:Pel ks s ib ig C T ik)(d:D):choC s ib ig T d < ik:=by
 have:=af_6 d s ib ig h.p0 (by have:=h.k2;omega) _ (List.mem_of_getElem? (h.at_ d));have:=h.sz;omega
def Pel.key(h:Pel ks s ib ig C T ik){i:Nat}{d:D}(hd:ks[i]? =some d):choC s ib ig T d=C.getD i 0:=by
 have hm:=h.mem i d hd;have hp0:=h.p0;have hk:=h.k2;obtain⟨j,hj,e⟩:=List.mem_map.mp hm;have hj:=List.mem_range.mp hj;obtain⟨b0,b1,b2⟩:=ad_3 d s ig hp0 (j:Int) (by omega);have hC:((C.getD i 0:Nat):Int)=w_9 d s ig (j:Int):=by omega
 have hq:((C.getD i 0:Nat):Int) / ig=(j:Int):=by
  rw [hC];rw [Int.ediv_eq_iff_of_pos hp0];rw [Int.add_mul,Int.one_mul] at b2;exact⟨b1,b2⟩
 have ht:=h.ts i d hd;unfold choC;rw [ht,hq,<-e];unfold Dk;rw [List.getD_eq_getElem?_getD,List.getElem?_map,Int.toNat_natCast,List.getElem?_range hj];rfl
def rmP(C:List Nat)(s ib ig:Int)(T:List Int)(d:D):Int:=min ((rk C (choC s ib ig T d):Nat):Int) ((C.length:Int) - 1)
def Pel.rm(h:Pel ks s ib ig C T ik){i:Nat}{d:D}(hd:ks[i]? =some d):rmP C s ib ig T d=((rk C (C.getD i 0):Nat):Int):=by
 have hi:i < C.length:=by rw [h.len];exact(List.getElem?_eq_some_iff.mp hd).1
 have hm:C.getD i 0∈C:=by
  rw [List.getD_eq_getElem?_getD,List.getElem?_eq_getElem hi];exact List.getElem_mem hi
 have:=dz_6 hm;unfold rmP;rw [h.key hd];omega
end
abbrev Lf:List Str:=["how_many","own_table"]
abbrev Lh:List Str:=["how_many","own_table","used_row"]
def dn_0{ks:List D}{ib ii:Int}(h:Ks ks 0 ib){s:Nat}(hs:s<=1000)(e:Dq [.lst ks,.int ib,.int ii]=.ok (.sh (.int (s:Int))))(e2:g_0 [.lst ks,.int (s:Int),.int ib]=.ok (.sh (.bl true))):
  ∃(C:List Nat) (T:List Int) (ik:Nat),Pel ks (s:Int) ib (Aw (ks.length:Int) ib) C T ik/\
   w_0 [.lst ks,.int ib,.int ii]=.ok (Lh,[.int (ks.length:Int),Br (s:Int) ib (Aw (ks.length:Int) ib) ib T,.str (Bd (Ex C ik))]):=by
 have h1:=h.h1;have h2:=h.h2;have hK:Ks ks (s:Int) ib:=⟨h.k,h.nd,h.h1,h.h2,by omega,by omega,h.kd⟩;obtain⟨p1,_,p3,p4⟩:=r_8 (ks.length:Int) ib (by omega) (by omega) h.kd;obtain⟨C,c1,c2,c3,c4⟩:=db_1 hK e2;have hkd:2<=ib/\ib<=3:=by rcases h.kd with z|z <;> omega
 have hat:∀i,i < ks.length->∃d,ks[i]? =some d:=λi hi=>⟨_,List.getElem?_eq_getElem hi⟩;have hq:∀i,i < ks.length->0<=((C.getD i 0:Nat):Int) / Aw (ks.length:Int) ib/\((C.getD i 0:Nat):Int) / Aw (ks.length:Int) ib < ib:=λi hi=>by
  obtain⟨d,hd⟩:=hat i hi;have hb:=af_6 d (s:Int) ib (Aw (ks.length:Int) ib) p3 (by omega) _ (c3 i d hd);have hnn:0<=ib * Aw (ks.length:Int) ib:=Int.mul_nonneg (by omega) (by omega);refine⟨Int.ediv_nonneg (by omega) (by omega),Int.ediv_lt_of_lt_mul p3 ?_⟩;omega
 obtain⟨T,t1,t2,t3,t4⟩:=at_5 hK e2 ib (by omega) (C.map λc:Nat=>(c:Int) / Aw (ks.length:Int) ib) (by rw [List.length_map];exact c1) (λi hi=>by
  rw [List.length_map,c1] at hi;have:=hq i hi;rw [List.getD_eq_getElem?_getD,List.getElem?_map,List.getElem?_eq_getElem (by omega:i < C.length)];rw [List.getD_eq_getElem?_getD,List.getElem?_eq_getElem (by omega:i < C.length)] at this;exact this)
 generalize hpart:Aw (ks.length:Int) ib=ig at *
 have hsz:0<=ib * ig:=Int.mul_nonneg (by omega) (by omega);have fq:ib * ig<=3 * 2000:=Int.mul_le_mul (by omega) p4 (by omega) (by omega);refine⟨C,T,(ib * ig).toNat,⟨hK,hpart.symm,p3,p4,by omega,c1,c2,c3,by omega,t2,λi d hd=> ?_⟩, ?_⟩
 ·have hi:i < C.length:=by rw [c1];exact(List.getElem?_eq_some_iff.mp hd).1
  rw [t3 i d hd,List.getD_eq_getElem?_getD,List.getElem?_map,List.getElem?_eq_getElem hi,List.getD_eq_getElem?_getD,List.getElem?_eq_getElem hi];rfl
 ·have rw_:=eg_9 C (ib * ig).toNat (by omega);rw [show(((ib * ig).toNat:Nat):Int)=ib * ig by omega] at rw_;have mm:Ca (.int ib) (.int ig)=.ok (.sh (.int (ib * ig))):=Do (Es (by omega) (by omega));unfold w_0 Go u_0;have q1:Ag 4 [1,2,3] (At 3 Dq (Aa (Ab 1) (Aa (Ab 2) (Aa (Ab 3) Ac)))) (n_2 7 "Peeled" [.lst ks,.int ib,.int ii])=.nx [.lt (.obj "Peeled" [] []),.sh (.lst ks),.sh (.int ib),.sh (.int ii),.sh (.int (s:Int)),.no,.no]:=by
   have:At 3 Dq (Aa (Ab 1) (Aa (Ab 2) (Aa (Ab 3) Ac))) (Bb (n_2 7 "Peeled" [.lst ks,.int ib,.int ii]))=.ok (.sh (.int (s:Int))):=e;unfold Ag;rw [this];rfl
  have q2:ai_9 0 "Peeled" [1] e_9 (Ah Bs (Aa (Ab 1) Ac)) [.lt (.obj "Peeled" [] []),.sh (.lst ks),.sh (.int ib),.sh (.int ii),.sh (.int (s:Int)),.no,.no]=.nx [.lt (.obj "Peeled" ["how_many"] [.sh (.int (ks.length:Int))]),.sh (.lst ks),.sh (.int ib),.sh (.int ii),.sh (.int (s:Int)),.no,.no]:=
   ch_7 (w:=.sh (.int (ks.length:Int))) (p:=(["how_many"],[.int (ks.length:Int)])) rfl rfl rfl (en_3 _)
  have q3:Ag 5 [1,2] (At 2 i_1 (Aa (Ah Bs (Aa (Ab 1) Ac)) (Aa (Ab 2) Ac))) [.lt (.obj "Peeled" ["how_many"] [.sh (.int (ks.length:Int))]),.sh (.lst ks),.sh (.int ib),.sh (.int ii),.sh (.int (s:Int)),.no,.no]=.nx [.lt (.obj "Peeled" ["how_many"] [.sh (.int (ks.length:Int))]),.sh (.lst ks),.sh (.int ib),.sh (.int ii),.sh (.int (s:Int)),.sh (.int ig),.no]:=by
   simp_arith [Am,ax_0,Hl,p1]
  have q4:Ag 6 [1,2,4] (At 3 o_0 (Aa (Ab 1) (Aa (Ab 4) (Aa (Ab 2) Ac)))) [.lt (.obj "Peeled" ["how_many"] [.sh (.int (ks.length:Int))]),.sh (.lst ks),.sh (.int ib),.sh (.int ii),.sh (.int (s:Int)),.sh (.int ig),.no]=.nx [.lt (.obj "Peeled" ["how_many"] [.sh (.int (ks.length:Int))]),.sh (.lst ks),.sh (.int ib),.sh (.int ii),.sh (.int (s:Int)),.sh (.int ig),.ow (.lst (zi C))]:=by
   simp_arith [Am,ax_0,c4]
  have ec:=k_2 (m:=1) (fi:=Db (Ab 6)) (fg:=gC 7) (p:=λ_=> .ok true) (f:=i_8) (δ:=[none,some (.lst ks),some (.int ib),some (.int ii),some (.int (s:Int)),some (.int ig),some (.lst (zi C))]) (ds:=zi C) (by simp_arith [Am]) (by rw [z_4];omega)
   (p_9 (λd=>match d with| .int c=> .int (c / ig)|d=>d) (zi C) λd hd=>by
    obtain⟨c,hc,rfl⟩:=List.mem_map.mp hd;refine⟨[none,some (.lst ks),some (.int ib),some (.int ii),some (.int (s:Int)),some (.int ig),some (.lst (zi C)),some (.int (c:Int))],.sh (.int ((c:Int) / ig)),rfl, ?_,rfl⟩
    simp_arith [i_8,Am,s_2 p3 (by omega)])
  have hzz:(zi C).map (λd=>match d with| .int c=>D.int (c / ig)|d=>d)=(C.map λc:Nat=>(c:Int) / ig).map .int:=by
   unfold zi;rw [List.map_map,List.map_map];rfl
  rw [hzz] at ec;have q5:Cp 0 La "own_table" [1,2,4,5,6] (At 5 g_8 (Aa (Ab 1) (Aa (Ab 4) (Aa (Ab 2) (Aa (Ab 2) (Aa (Bx 1 (Db (Ab 6)) (gC 7) (λ_=> .ok true) i_8) Ac)))))) [.lt (.obj "Peeled" ["how_many"] [.sh (.int (ks.length:Int))]),.sh (.lst ks),.sh (.int ib),.sh (.int ii),.sh (.int (s:Int)),.sh (.int ig),.ow (.lst (zi C))]=
    .nx [.lt (.obj "Peeled" Lf [.sh (.int (ks.length:Int)),.sh (Br (s:Int) ib ig ib T)]),.sh (.lst ks),.sh (.int ib),.sh (.int ii),.sh (.int (s:Int)),.sh (.int ig),.sh (.lst (zi C))]:=by
   have he:At 5 g_8 (Aa (Ab 1) (Aa (Ab 4) (Aa (Ab 2) (Aa (Ab 2) (Aa (Bx 1 (Db (Ab 6)) (gC 7) (λ_=> .ok true) i_8) Ac))))) (Bb [.lt (.obj "Peeled" ["how_many"] [.sh (.int (ks.length:Int))]),.sh (.lst ks),.sh (.int ib),.sh (.int ii),.sh (.int (s:Int)),.sh (.int ig),.sh (.lst (zi C))])=.ok (.sh (Br (s:Int) ib ig ib T)):=by
    simp_arith [Am,ax_0,ec]
    exact t4
   have:=y_0 (Δ:=[.lt (.obj "Peeled" ["how_many"] [.sh (.int (ks.length:Int))]),.sh (.lst ks),.sh (.int ib),.sh (.int ii),.sh (.int (s:Int)),.sh (.int ig),.sh (.lst (zi C))]) (i:=0) (cs:= La) (f:= "own_table") (c:= "Peeled") (js:=[1,2,4,5,6]) (ns:=["how_many"]) (ts:=[.sh (.int (ks.length:Int))]) rfl rfl (by decide +kernel) he;unfold Cp at this⊢;exact this
  have q6:Cp 0 Le "used_row" [2,5,6] (At 2 k_7 (Aa (Ab 6) (Aa (Aj Ca (Ab 2) (Ab 5)) Ac))) [.lt (.obj "Peeled" Lf [.sh (.int (ks.length:Int)),.sh (Br (s:Int) ib ig ib T)]),.sh (.lst ks),.sh (.int ib),.sh (.int ii),.sh (.int (s:Int)),.sh (.int ig),.sh (.lst (zi C))]=
    .nx [.lt (.obj "Peeled" Lh [.sh (.int (ks.length:Int)),.sh (Br (s:Int) ib ig ib T),.sh (.str (Bd (Ex C (ib * ig).toNat)))]),.sh (.lst ks),.sh (.int ib),.sh (.int ii),.sh (.int (s:Int)),.sh (.int ig),.sh (.lst (zi C))]:=by
   refine y_0 (w:=.sh (.str (Bd (Ex C (ib * ig).toNat)))) (c:= "Peeled") (ns:= Lf) (ts:=[.sh (.int (ks.length:Int)),.sh (Br (s:Int) ib ig ib T)]) rfl rfl (by decide +kernel) ?_
   simp_arith [Am,ax_0,mm,rw_]
  rw [Bl q1,Bl q2,Bl q3,Bl q4,Bl q5,q6];simp only [List.getElem?_cons_zero,if_true,unT,Option.map_some]
def dx_5(n:Nat):(Cc 0 n)=(((List.range n).map λk:Nat=>(k:Int)).map D.int):=by
 unfold Cc;rw [List.map_map];apply List.map_congr_left;intro k _;show D.int (0 + (k:Int))=.int (k:Int);rw [Int.zero_add]
def dn_1{ks:List D}{ib ii:Int}(h:Ks ks 0 ib){s:Nat}(hs:s<=1000)(e:Dq [.lst ks,.int ib,.int ii]=.ok (.sh (.int (s:Int))))(e2:g_0 [.lst ks,.int (s:Int),.int ib]=.ok (.sh (.bl true))):
  ∃T:List Int,(T.length:Int)=ib * Aw (ks.length:Int) ib/\(∀t∈T,0<=t/\t < (ks.length:Int))/\(∀(i:Nat) (d:D),ks[i]? =some d->Df T (Dk d (s:Int) ib (Aw (ks.length:Int) ib)) % (ks.length:Int)=(i:Int))/\
   t_1 [.lst ks,.int ib,.int ii]=.ok (Lf,[.int (ks.length:Int),Br (s:Int) ib (Aw (ks.length:Int) ib) (ks.length:Int) T]):=by
 have h1:=h.h1;have h2:=h.h2;have rg:∀i,i < ks.length->((List.range ks.length).map λk:Nat=>(k:Int)).getD i 0=(i:Int):=λi hi=>by
  rw [List.getD_eq_getElem?_getD,List.getElem?_map,List.getElem?_range hi];rfl
 obtain⟨T,t1,t2,t3,t4⟩:=at_5 (s:=(s:Int)) ⟨h.k,h.nd,h.h1,h.h2,by omega,by omega,h.kd⟩ e2 (ks.length:Int) (by omega) ((List.range ks.length).map λk:Nat=>(k:Int)) (by simp) (λi hi=>by
  have hi':i < ks.length:=by simpa using hi
  rw [rg i hi'];omega)
 refine⟨T,t1,t2,λi d hd=> ?_, ?_⟩
 ·rw [t3 i d hd,rg i (List.getElem?_eq_some_iff.mp hd).1]
 unfold t_1 Go s_3;have q1:Ag 4 [1,2,3] (At 3 Dq (Aa (Ab 1) (Aa (Ab 2) (Aa (Ab 3) Ac)))) (n_2 5 "Ordered" [.lst ks,.int ib,.int ii])=.nx [.lt (.obj "Ordered" [] []),.sh (.lst ks),.sh (.int ib),.sh (.int ii),.sh (.int (s:Int))]:=by
  have:At 3 Dq (Aa (Ab 1) (Aa (Ab 2) (Aa (Ab 3) Ac))) (Bb (n_2 5 "Ordered" [.lst ks,.int ib,.int ii]))=.ok (.sh (.int (s:Int))):=e;unfold Ag;rw [this];rfl
 have q2:ai_9 0 "Ordered" [1] e_3 (Ah Bs (Aa (Ab 1) Ac)) [.lt (.obj "Ordered" [] []),.sh (.lst ks),.sh (.int ib),.sh (.int ii),.sh (.int (s:Int))]=.nx [.lt (.obj "Ordered" ["how_many"] [.sh (.int (ks.length:Int))]),.sh (.lst ks),.sh (.int ib),.sh (.int ii),.sh (.int (s:Int))]:=by
  refine ch_7 (w:=.sh (.int (ks.length:Int))) (p:=(["how_many"],[.int (ks.length:Int)])) rfl rfl ?_ (en_4 _)
  simp_arith [Am,Hl]
 have q3:Cp 0 La "own_table" [1,2,4] (At 5 g_8 (Aa (Ab 1) (Aa (Ab 4) (Aa (Ab 2) (Aa (Ah Bs (Aa (Ab 1) Ac)) (Aa (Gw Co (Aa (Ah Bs (Aa (Ab 1) Ac)) Ac)) Ac)))))) [.lt (.obj "Ordered" ["how_many"] [.sh (.int (ks.length:Int))]),.sh (.lst ks),.sh (.int ib),.sh (.int ii),.sh (.int (s:Int))]=
   .nx [.lt (.obj "Ordered" Lf [.sh (.int (ks.length:Int)),.sh (Br (s:Int) ib (Aw (ks.length:Int) ib) (ks.length:Int) T)]),.sh (.lst ks),.sh (.int ib),.sh (.int ii),.sh (.int (s:Int))]:=by
  refine y_0 (w:=.sh (Br (s:Int) ib (Aw (ks.length:Int) ib) (ks.length:Int) T)) (c:= "Ordered") (ns:=["how_many"]) (ts:=[.sh (.int (ks.length:Int))]) rfl rfl (by decide +kernel) ?_;have hr:Gw Co (Aa (Ah Bs (Aa (Ab 1) Ac)) Ac) [none,some (.lst ks),some (.int ib),some (.int ii),some (.int (s:Int))]=.ok (.ow (.lst (((List.range ks.length).map λk:Nat=>(k:Int)).map D.int))):=by
   rw [<-dx_5]
   simp_arith [Am,ax_0,Hl,Gw,m_0 (show(-4611686018427387903:Int)<=(ks.length:Int) by omega) (by omega),Int.toNat_natCast]
   rw [if_pos (by rw [m_3];omega)]
  simp_arith [Am,ax_0,Hl,hr]
  exact t4
 rw [Bl q1,Bl q2,q3];simp only [List.getElem?_cons_zero,if_true,unT,Option.map_some]
def pelO(n:Int)(t:D)(u:Str):D:=.obj "Peeled" Lh [.int n,t,.str u]
def ordO(n:Int)(t:D):D:=.obj "Ordered" Lf [.int n,t]
def bh_9{vs:List Int}{n:Nat}{m:Int}(hl:vs.length=n)(hn:n<=1000)(hb:∀v∈vs,0<=v/\v < m):j_7 [.lst (vs.map .int),.int (n:Int),.int m]=.ok (.sh .non):=by
 obtain⟨Δ',e,a3,a4,rfl⟩:=h_3 (Gb 3 4) o_1 (λk Δ=>∃a3 a4,Δ= [.sh (.lst (vs.map .int)),.sh (.int (n:Int)),.sh (.int m),a3,a4]) (ds:=Gc 0 (vs.map .int))
  (Δ:=[.sh (.lst (vs.map .int)),.sh (.int (n:Int)),.sh (.int m),.no,.no]) ⟨_,_,rfl⟩ (λk d0 Δ hd hI=>by
   obtain⟨a3,a4,rfl⟩:=hI;obtain⟨d,e1,rfl⟩:=p_5 hd;rw [List.getElem?_map] at e1;obtain⟨v,e2,rfl⟩:=Option.map_eq_some_iff.mp e1;have hk:k < vs.length:=(List.getElem?_eq_some_iff.mp e2).1;have hv:=hb v (List.mem_of_getElem? e2);have c1:¬(n:Int)<=(k:Int):=by omega
   refine⟨[.sh (.lst (vs.map .int)),.sh (.int (n:Int)),.sh (.int m),.sh (.int ((0 + k:Nat):Int)),.sh (.int v)],rfl,[.sh (.lst (vs.map .int)),.sh (.int (n:Int)),.sh (.int m),.sh (.int ((0 + k:Nat):Int)),.sh (.int v)],.inl ?_,_,_,rfl⟩
   simp_arith [o_1,Am,em_6,c1,ch_4 hv.1 hv.2])
 have c2:¬(n:Int) < (n:Int):=by omega
 have hv:u_5 (Ab 0) (Bb [.sh (.lst (vs.map .int)),.sh (.int (n:Int)),.sh (.int m),.no,.no])=.ok (Gc 0 (vs.map .int)):=by
  simp_arith [u_5,Am,av_5]
 have v4:Bu [0] (u_5 (Ab 0)) (Gb 3 4) o_1 (Ay 5 [.lst (vs.map .int),.int (n:Int),.int m])=.nx [.sh (.lst (vs.map .int)),.sh (.int (n:Int)),.sh (.int m),a3,a4]:=by
  show Bu [0] (u_5 (Ab 0)) (Gb 3 4) o_1 [.sh (.lst (vs.map .int)),.sh (.int (n:Int)),.sh (.int m),.no,.no]=_;unfold Bu;rw [hv];exact e
 unfold j_7 Ak am_7;rw [Bl v4]
 simp_arith [Am,Hl,List.length_map,hl,Ge,c2]
abbrev Ld:List Str:=["how_many","width","own_table"]
def kptO(n width:Int)(t:D):D:=.obj "Kept" Ld [.int n,.int width,t]
def dn_2{ks:List D}{ib ii:Int}(h:Ks ks 0 ib)(w:Nat)(hw:w<=100){vs:List Int}(hl:vs.length=ks.length)(hb:∀v∈vs,0<=v/\v < 2 ^ w)(g:FS):
  Af (Ag 6 [3] (At 1 m_5 (Aa (Ab 3) Ac))) (Af (Cp 0 La "how_many" [1] (At 1 j_6 (Aa (Ab 1) Ac))) (Af (Cl [1,2,6] (At 3 j_7 (Aa (Ab 2) (Aa (Ah Bs (Aa (Ab 1) Ac)) (Aa (Ab 6) Ac))))) g)) (n_2 8 "Kept" [.lst ks,.lst (vs.map .int),.int (w:Int),.int ib,.int ii])=
   g [.lt (.obj "Kept" ["how_many"] [.sh (.int (ks.length:Int))]),.sh (.lst ks),.sh (.lst (vs.map .int)),.sh (.int (w:Int)),.sh (.int ib),.sh (.int ii),.sh (.int (2 ^ w)),.no]:=by
 have h2:=h.h2;have q1:Ag 6 [3] (At 1 m_5 (Aa (Ab 3) Ac)) (n_2 8 "Kept" [.lst ks,.lst (vs.map .int),.int (w:Int),.int ib,.int ii])=.nx [.lt (.obj "Kept" [] []),.sh (.lst ks),.sh (.lst (vs.map .int)),.sh (.int (w:Int)),.sh (.int ib),.sh (.int ii),.sh (.int (2 ^ w)),.no]:=by
  have:At 1 m_5 (Aa (Ab 3) Ac) (Bb (n_2 8 "Kept" [.lst ks,.lst (vs.map .int),.int (w:Int),.int ib,.int ii]))=.ok (.sh (.int (2 ^ w))):=t_3 w (by omega);unfold Ag;rw [this];rfl
 have q2:Cp 0 La "how_many" [1] (At 1 j_6 (Aa (Ab 1) Ac)) [.lt (.obj "Kept" [] []),.sh (.lst ks),.sh (.lst (vs.map .int)),.sh (.int (w:Int)),.sh (.int ib),.sh (.int ii),.sh (.int (2 ^ w)),.no]=.nx [.lt (.obj "Kept" ["how_many"] [.sh (.int (ks.length:Int))]),.sh (.lst ks),.sh (.lst (vs.map .int)),.sh (.int (w:Int)),.sh (.int ib),.sh (.int ii),.sh (.int (2 ^ w)),.no]:=by
  refine y_0 (w:=.sh (.int (ks.length:Int))) (c:= "Kept") (ns:=[]) (ts:=[]) rfl rfl ?_ (bw_9 h.k h.nd h.h1 h.h2);decide +kernel
 have q3:Cl [1,2,6] (At 3 j_7 (Aa (Ab 2) (Aa (Ah Bs (Aa (Ab 1) Ac)) (Aa (Ab 6) Ac)))) [.lt (.obj "Kept" ["how_many"] [.sh (.int (ks.length:Int))]),.sh (.lst ks),.sh (.lst (vs.map .int)),.sh (.int (w:Int)),.sh (.int ib),.sh (.int ii),.sh (.int (2 ^ w)),.no]=.nx [.lt (.obj "Kept" ["how_many"] [.sh (.int (ks.length:Int))]),.sh (.lst ks),.sh (.lst (vs.map .int)),.sh (.int (w:Int)),.sh (.int ib),.sh (.int ii),.sh (.int (2 ^ w)),.no]:=by
  have:At 3 j_7 (Aa (Ab 2) (Aa (Ah Bs (Aa (Ab 1) Ac)) (Aa (Ab 6) Ac))) (Ar [.lt (.obj "Kept" ["how_many"] [.sh (.int (ks.length:Int))]),.sh (.lst ks),.sh (.lst (vs.map .int)),.sh (.int (w:Int)),.sh (.int ib),.sh (.int ii),.sh (.int (2 ^ w)),.no])=.ok (.sh .non):=bh_9 (n:=ks.length) hl (by omega) hb;unfold Cl;rw [this]
 rw [Bl q1,Bl q2,Bl q3]
def dx_7{ks:List D}{ib ii:Int}(h:Ks ks 0 ib)(w:Nat)(hw:w<=100){vs:List Int}(hl:vs.length=ks.length)(hb:∀v∈vs,0<=v/\v < 2 ^ w)(e:Dq [.lst ks,.int ib,.int ii]=.ex xNoTry):aj_3 [.lst ks,.lst (vs.map .int),.int (w:Int),.int ib,.int ii]=.ex xNoTry:=by
 unfold aj_3 Go w_7;rw [dn_2 h w hw hl hb];have t1:Ag 7 [1,4,5] (At 3 Dq (Aa (Ab 1) (Aa (Ab 4) (Aa (Ab 5) Ac)))) [.lt (.obj "Kept" ["how_many"] [.sh (.int (ks.length:Int))]),.sh (.lst ks),.sh (.lst (vs.map .int)),.sh (.int (w:Int)),.sh (.int ib),.sh (.int ii),.sh (.int (2 ^ w)),.no]=.ex xNoTry [.lt (.obj "Kept" ["how_many"] [.sh (.int (ks.length:Int))]),.sh (.lst ks),.sh (.lst (vs.map .int)),.sh (.int (w:Int)),.sh (.int ib),.sh (.int ii),.sh (.int (2 ^ w)),.no]:=by
  have:At 3 Dq (Aa (Ab 1) (Aa (Ab 4) (Aa (Ab 5) Ac))) (Bb [.lt (.obj "Kept" ["how_many"] [.sh (.int (ks.length:Int))]),.sh (.lst ks),.sh (.lst (vs.map .int)),.sh (.int (w:Int)),.sh (.int ib),.sh (.int ii),.sh (.int (2 ^ w)),.no])=.ex xNoTry:=e;unfold Ag;rw [this]
 unfold Af;rw [t1]
abbrev Lq:List Str:=["how_many","width"]
def db_2{ks:List D}{ib ii:Int}(h:Ks ks 0 ib)(w:Nat)(hw:w<=100){vs:List Int}(hl:vs.length=ks.length)(hb:∀v∈vs,0<=v/\v < 2 ^ w){s:Nat}(hs:s<=1000)(e:Dq [.lst ks,.int ib,.int ii]=.ok (.sh (.int (s:Int))))(e2:g_0 [.lst ks,.int (s:Int),.int ib]=.ok (.sh (.bl true))):
  ∃T:List Int,(T.length:Int)=ib * Aw (ks.length:Int) ib/\(∀t∈T,0<=t/\t < 2 ^ w)/\(∀(i:Nat) (d:D),ks[i]? =some d->Df T (Dk d (s:Int) ib (Aw (ks.length:Int) ib)) % 2 ^ w=vs.getD i 0)/\
   aj_3 [.lst ks,.lst (vs.map .int),.int (w:Int),.int ib,.int ii]=.ok (Ld,[.int (ks.length:Int),.int (w:Int),Br (s:Int) ib (Aw (ks.length:Int) ib) (2 ^ w) T]):=by
 have pos:(0:Int) < 2 ^ w:=Int.pow_pos (by decide);have h2:=h.h2;obtain⟨T,t1,t2,t3,t4⟩:=at_5 (s:=(s:Int)) ⟨h.k,h.nd,h.h1,h.h2,by omega,by omega,h.kd⟩ e2 (2 ^ w) pos vs hl (λi hi=>by
  rw [List.getD_eq_getElem?_getD,List.getElem?_eq_getElem hi];exact hb _ (List.getElem_mem hi))
 refine⟨T,t1,t2,t3, ?_⟩;unfold aj_3 Go w_7;rw [dn_2 h w hw hl hb];have q4:Ag 7 [1,4,5] (At 3 Dq (Aa (Ab 1) (Aa (Ab 4) (Aa (Ab 5) Ac)))) [.lt (.obj "Kept" ["how_many"] [.sh (.int (ks.length:Int))]),.sh (.lst ks),.sh (.lst (vs.map .int)),.sh (.int (w:Int)),.sh (.int ib),.sh (.int ii),.sh (.int (2 ^ w)),.no]=.nx [.lt (.obj "Kept" ["how_many"] [.sh (.int (ks.length:Int))]),.sh (.lst ks),.sh (.lst (vs.map .int)),.sh (.int (w:Int)),.sh (.int ib),.sh (.int ii),.sh (.int (2 ^ w)),.sh (.int (s:Int))]:=by
  have:At 3 Dq (Aa (Ab 1) (Aa (Ab 4) (Aa (Ab 5) Ac))) (Bb [.lt (.obj "Kept" ["how_many"] [.sh (.int (ks.length:Int))]),.sh (.lst ks),.sh (.lst (vs.map .int)),.sh (.int (w:Int)),.sh (.int ib),.sh (.int ii),.sh (.int (2 ^ w)),.no])=.ok (.sh (.int (s:Int))):=e;unfold Ag;rw [this];rfl
 have q5:Cp 0 Lb "width" [3] (Ab 3) [.lt (.obj "Kept" ["how_many"] [.sh (.int (ks.length:Int))]),.sh (.lst ks),.sh (.lst (vs.map .int)),.sh (.int (w:Int)),.sh (.int ib),.sh (.int ii),.sh (.int (2 ^ w)),.sh (.int (s:Int))]=.nx [.lt (.obj "Kept" Lq [.sh (.int (ks.length:Int)),.sh (.int (w:Int))]),.sh (.lst ks),.sh (.lst (vs.map .int)),.sh (.int (w:Int)),.sh (.int ib),.sh (.int ii),.sh (.int (2 ^ w)),.sh (.int (s:Int))]:=by
  refine y_0 (w:=.sh (.int (w:Int))) (c:= "Kept") (ns:=["how_many"]) (ts:=[.sh (.int (ks.length:Int))]) rfl rfl ?_ rfl;decide +kernel
 have q6:Cp 0 La "own_table" [1,2,4,6,7] (At 5 g_8 (Aa (Ab 1) (Aa (Ab 7) (Aa (Ab 4) (Aa (Ab 6) (Aa (Ab 2) Ac)))))) [.lt (.obj "Kept" Lq [.sh (.int (ks.length:Int)),.sh (.int (w:Int))]),.sh (.lst ks),.sh (.lst (vs.map .int)),.sh (.int (w:Int)),.sh (.int ib),.sh (.int ii),.sh (.int (2 ^ w)),.sh (.int (s:Int))]=
   .nx [.lt (.obj "Kept" Ld [.sh (.int (ks.length:Int)),.sh (.int (w:Int)),.sh (Br (s:Int) ib (Aw (ks.length:Int) ib) (2 ^ w) T)]),.sh (.lst ks),.sh (.lst (vs.map .int)),.sh (.int (w:Int)),.sh (.int ib),.sh (.int ii),.sh (.int (2 ^ w)),.sh (.int (s:Int))]:=by
  refine y_0 (w:=.sh (Br (s:Int) ib (Aw (ks.length:Int) ib) (2 ^ w) T)) (c:= "Kept") (ns:= Lq) (ts:=[.sh (.int (ks.length:Int)),.sh (.int (w:Int))]) rfl rfl (by decide +kernel) t4
 rw [Bl q4,Bl q5,q6];simp only [List.getElem?_cons_zero,if_true,unT,Option.map_some]
def bx_8{d:D}(h:isKey d)(w:Nat)(hw:w<=100):aq_0 [d,.int (w:Int)]=.ok (.sh (.int (z_3 (p_3 d) 3 (2 ^ w)))):=by
 have pos:(0:Int) < 2 ^ w:=Int.pow_pos (by decide)
 simp_arith [aq_0,dk_2,Am,cg_9 h,t_3 w (by omega),(ch_0 (p_3 d) 3 (2 ^ w) (by decide) (by decide) pos).1]
def mrkO(n width:Int)(t:D):D:=.obj "Marked" Ld [.int n,.int width,t]
def br_8(ks:List D)(w:Nat):List Int:=ks.map λd=>z_3 (p_3 d) 3 (2 ^ w)
def db_3{ks:List D}{ib ii:Int}(w:Nat)(e:Dq [.lst ks,.int ib,.int ii]=.ex xNoTry):w_1 [.lst ks,.int (w:Int),.int ib,.int ii]=.ex xNoTry:=by
 unfold w_1 Go;have t1:Ag 5 [1,3,4] (At 3 Dq (Aa (Ab 1) (Aa (Ab 3) (Aa (Ab 4) Ac)))) (n_2 6 "Marked" [.lst ks,.int (w:Int),.int ib,.int ii])=.ex xNoTry (n_2 6 "Marked" [.lst ks,.int (w:Int),.int ib,.int ii]):=by
  have:At 3 Dq (Aa (Ab 1) (Aa (Ab 3) (Aa (Ab 4) Ac))) (Bb (n_2 6 "Marked" [.lst ks,.int (w:Int),.int ib,.int ii]))=.ex xNoTry:=e;unfold Ag;rw [this]
 unfold u_1;unfold Af;rw [t1]
def ch_8{ks:List D}{ib ii:Int}(h:Ks ks 0 ib)(w:Nat)(hw:w<=100){s:Nat}(hs:s<=1000)(e:Dq [.lst ks,.int ib,.int ii]=.ok (.sh (.int (s:Int))))(e2:g_0 [.lst ks,.int (s:Int),.int ib]=.ok (.sh (.bl true))):
  ∃T:List Int,(T.length:Int)=ib * Aw (ks.length:Int) ib/\(∀t∈T,0<=t/\t < 2 ^ w)/\(∀(i:Nat) (d:D),ks[i]? =some d->Df T (Dk d (s:Int) ib (Aw (ks.length:Int) ib)) % 2 ^ w=z_3 (p_3 d) 3 (2 ^ w))/\
   w_1 [.lst ks,.int (w:Int),.int ib,.int ii]=.ok (Ld,[.int (ks.length:Int),.int (w:Int),Br (s:Int) ib (Aw (ks.length:Int) ib) (2 ^ w) T]):=by
 have pos:(0:Int) < 2 ^ w:=Int.pow_pos (by decide);have h2:=h.h2;obtain⟨T,t1,t2,t3,t4⟩:=at_5 (s:=(s:Int)) ⟨h.k,h.nd,h.h1,h.h2,by omega,by omega,h.kd⟩ e2 (2 ^ w) pos (br_8 ks w) (by unfold br_8;rw [List.length_map]) (λi hi=>by
  unfold br_8 at hi⊢;rw [List.length_map] at hi;rw [List.getD_eq_getElem?_getD,List.getElem?_map,List.getElem?_eq_getElem hi];exact br_4 _ _ _ pos)
 refine⟨T,t1,t2,λi d hd=> ?_, ?_⟩
 ·rw [t3 i d hd];unfold br_8;rw [List.getD_eq_getElem?_getD,List.getElem?_map,hd];rfl
 ·have ec:=k_2 (m:=1) (fi:=Db (Ab 1)) (fg:=gC 6) (p:=λ_=> .ok true) (f:=m_1) (δ:=[none,some (.lst ks),some (.int (w:Int)),some (.int ib),some (.int ii),some (.int (s:Int))]) (ds:=ks) (by simp_arith [Am]) (by omega)
   (p_9 (λd=> .int (z_3 (p_3 d) 3 (2 ^ w))) ks λd hd=>⟨_,.sh (.int (z_3 (p_3 d) 3 (2 ^ w))),rfl,by simp_arith [m_1,Am,bx_8 (h.k d hd) w hw],rfl⟩)
  have em:(ks.map λd=>D.int (z_3 (p_3 d) 3 (2 ^ w)))=(br_8 ks w).map .int:=by unfold br_8;rw [List.map_map];rfl
  rw [em] at ec;have q1:Ag 5 [1,3,4] (At 3 Dq (Aa (Ab 1) (Aa (Ab 3) (Aa (Ab 4) Ac)))) (n_2 6 "Marked" [.lst ks,.int (w:Int),.int ib,.int ii])=.nx [.lt (.obj "Marked" [] []),.sh (.lst ks),.sh (.int (w:Int)),.sh (.int ib),.sh (.int ii),.sh (.int (s:Int))]:=by
   have:At 3 Dq (Aa (Ab 1) (Aa (Ab 3) (Aa (Ab 4) Ac))) (Bb (n_2 6 "Marked" [.lst ks,.int (w:Int),.int ib,.int ii]))=.ok (.sh (.int (s:Int))):=e;unfold Ag;rw [this];rfl
  have q2:Cp 0 La "how_many" [1] (Ah Bs (Aa (Ab 1) Ac)) [.lt (.obj "Marked" [] []),.sh (.lst ks),.sh (.int (w:Int)),.sh (.int ib),.sh (.int ii),.sh (.int (s:Int))]=.nx [.lt (.obj "Marked" ["how_many"] [.sh (.int (ks.length:Int))]),.sh (.lst ks),.sh (.int (w:Int)),.sh (.int ib),.sh (.int ii),.sh (.int (s:Int))]:=
   by refine y_0 (w:=.sh (.int (ks.length:Int))) (c:= "Marked") (ns:=[]) (ts:=[]) rfl rfl ?_ rfl;decide +kernel
  have q3:Cp 0 Lb "width" [2] (Ab 2) [.lt (.obj "Marked" ["how_many"] [.sh (.int (ks.length:Int))]),.sh (.lst ks),.sh (.int (w:Int)),.sh (.int ib),.sh (.int ii),.sh (.int (s:Int))]=.nx [.lt (.obj "Marked" Lq [.sh (.int (ks.length:Int)),.sh (.int (w:Int))]),.sh (.lst ks),.sh (.int (w:Int)),.sh (.int ib),.sh (.int ii),.sh (.int (s:Int))]:=
   by refine y_0 (w:=.sh (.int (w:Int))) (c:= "Marked") (ns:=["how_many"]) (ts:=[.sh (.int (ks.length:Int))]) rfl rfl ?_ rfl;decide +kernel
  have q4:Cp 0 La "own_table" [1,2,3,5] (At 5 g_8 (Aa (Ab 1) (Aa (Ab 5) (Aa (Ab 3) (Aa (At 1 m_5 (Aa (Ab 2) Ac)) (Aa (Bx 1 (Db (Ab 1)) (gC 6) (λ_=> .ok true) m_1) Ac)))))) [.lt (.obj "Marked" Lq [.sh (.int (ks.length:Int)),.sh (.int (w:Int))]),.sh (.lst ks),.sh (.int (w:Int)),.sh (.int ib),.sh (.int ii),.sh (.int (s:Int))]=
    .nx [.lt (.obj "Marked" Ld [.sh (.int (ks.length:Int)),.sh (.int (w:Int)),.sh (Br (s:Int) ib (Aw (ks.length:Int) ib) (2 ^ w) T)]),.sh (.lst ks),.sh (.int (w:Int)),.sh (.int ib),.sh (.int ii),.sh (.int (s:Int))]:=by
   refine y_0 (w:=.sh (Br (s:Int) ib (Aw (ks.length:Int) ib) (2 ^ w) T)) (c:= "Marked") (ns:= Lq) (ts:=[.sh (.int (ks.length:Int)),.sh (.int (w:Int))]) rfl rfl (by decide +kernel) ?_;have hv:Bb [.lt (.obj "Marked" Lq [.sh (.int (ks.length:Int)),.sh (.int (w:Int))]),.sh (.lst ks),.sh (.int (w:Int)),.sh (.int ib),.sh (.int ii),.sh (.int (s:Int))]= [none,some (.lst ks),some (.int (w:Int)),some (.int ib),some (.int ii),some (.int (s:Int))]:=rfl;rw [hv];simp only [At,Aa,Ac,Ab,List.getElem?_cons_succ,List.getElem?_cons_zero,R.bind_ok,W.d_sh,W.d_ow,List.length_cons,List.length_nil,Nat.reduceAdd,if_true,t_3 w (by omega:w<=1000),ec,t4]
  unfold w_1 Go u_1;rw [Bl q1,Bl q2,Bl q3,q4];simp only [List.getElem?_cons_zero,if_true,unT,Option.map_some]
def paO(n:Int)(t:D)(u:Str):D:=.obj "PeeledAgain" Lh [.int n,t,.str u]
def oaO(n:Int)(t:D):D:=.obj "OrderedAgain" Lf [.int n,t]
abbrev Lv:List Str:=["how_many","own_table","width"]
def kaO(n w:Int)(t:D):D:=.obj "KeptAgain" Lv [.int n,t,.int w]
def maO(n w:Int)(t:D):D:=.obj "MarkedAgain" Lv [.int n,t,.int w]
def eh_5(a b c:D):q_9 [a,b,c]=.ok (Lh,[a,b,c]):=by rfl'
def eh_6(a b:D):p_1 [a,b]=.ok (Lf,[a,b]):=by rfl'
def eh_7(a b c:D):w_4 [a,b,c]=.ok (Lv,[a,b,c]):=by rfl'
def eh_8(a b c:D):r_0 [a,b,c]=.ok (Lv,[a,b,c]):=by rfl'
abbrev C8:List Str:= La
abbrev tbT:List (Str×(List D->R W)):= L90
abbrev tbS:List (Str×(List D->R W)):= L97
abbrev tbM:List (Str×(List D->R W)):= L91
abbrev tbN:List (Str×(List D->R W)):= L98
abbrev tbR:List (Str×(List D->R W)):= J10
abbrev tbRs:List (Str×(List D->R W)):= J11
abbrev tbU:List (Str×(List D->R W)):= J14
abbrev tbQ:List (Str×(List D->R W)):= J12
abbrev i0:List (Str×Bool):= L92
abbrev i1:List (Str×Bool):= L93
abbrev i2:List (Str×Bool):= L94
abbrev i3:List (Str×Bool):= L95
structure HH(M:D)(n s ib ig m:Int)(T:List Int):Prop where
 own:∀(fo:FE) (δ:DE),fo δ=.ok (.sh M)->Bt C8 "own_table" fo δ=.ok (.sh (Br s ib ig m T))
 num:∀(fo:FE) (δ:DE),fo δ=.ok (.sh M)->Bt C8 "how_many" fo δ=.ok (.sh (.int n))
 tab:∀(fo:FE) (δ:DE),fo δ=.ok (.sh M)->Bp "table" 0 tbT fo Ac δ=.ok (.ow (.lst (T.map .int)))
 salt:∀(fo:FE) (δ:DE),fo δ=.ok (.sh M)->Bp "salt" 0 tbS fo Ac δ=.ok (.sh (.int s))
 many:∀(fo:FE) (δ:DE),fo δ=.ok (.sh M)->Bp "many" 0 tbM fo Ac δ=.ok (.sh (.int n))
section
variable{n s ib ig m w z y:Int}{T:List Int}{u:Str}{M d:D}
def Di{c f:Str}{ns:List Str}{vs:List D}{cs:List Str}{r:D}{M:D}(hM:M=.obj c ns vs)(h1:cs.contains c=true)(h2:(ns.zip vs).lookup f=some r)(fo:FE)(δ:DE)(h:fo δ=.ok (.sh M)):Bt cs f fo δ=.ok (.sh r):=by
 subst hM;simp only [Bt,h,R.bind_ok,W.d_sh,h1,h2,if_true]
def Fe{nm c:Str}{k:Nat}{ns:List Str}{vs:List D}{tb:List (Str×(List D->R W))}{F:List D->R W}{M:D}(hM:M=.obj c ns vs)(h1:ns.contains nm=false)(h2:tb.lookup c=some F)(fo:FE)(fa:FA)(δ:DE)(ds:List D)(h:fo δ=.ok (.sh M))(ha:fa δ=.ok ds)(hk:ds.length=k):Bp nm k tb fo fa δ=F (M::ds):=by
 subst hM;simp only [Bp,h,R.bind_ok,W.d_sh,h1,Bool.false_eq_true,if_false,h2,ha,hk,if_true]
abbrev Own(M:D)(s ib ig m:Int)(T:List Int):Prop:=∀(fo:FE) (δ:DE),fo δ=.ok (.sh M)->Bt C8 "own_table" fo δ=.ok (.sh (Br s ib ig m T))
def bi_0{r:W}(f:Own M s ib ig m T)(h:i_2 [d,.int s,.int ib,.int ig]=.ok r):d_0 [M,d]=.ok r:=by
 have e:=bh_8 h (Bt C8 "own_table" (Ab 0)) [some M,some d] (f (Ab 0) _ rfl) (Aa (Ab 1) Ac) rfl
 simp_arith [d_0,ag_4,Am,e]
def db_4:HH (pelO n (Br s ib ig m T) u) n s ib ig m T:=
 have o:Own _ s ib ig m T:=Di rfl (by rfl') (by rfl')
 ⟨o,Di rfl (by rfl') (by rfl'),λfo δ h=>by unfold Bp;rw [h];rfl',λfo δ h=>by unfold Bp;rw [h];rfl',λfo δ h=>by unfold Bp;rw [h];rfl'⟩
def cp_1:HH (ordO n (Br s ib ig m T)) n s ib ig m T:=
 have o:Own _ s ib ig m T:=Di rfl (by rfl') (by rfl')
 ⟨o,Di rfl (by rfl') (by rfl'),λfo δ h=>by unfold Bp;rw [h];rfl',λfo δ h=>by unfold Bp;rw [h];rfl',λfo δ h=>by unfold Bp;rw [h];rfl'⟩
def dx_8:HH (kptO n w (Br s ib ig m T)) n s ib ig m T:=
 have o:Own _ s ib ig m T:=Di rfl (by rfl') (by rfl')
 ⟨o,Di rfl (by rfl') (by rfl'),λfo δ h=>by unfold Bp;rw [h];rfl',λfo δ h=>by unfold Bp;rw [h];rfl',λfo δ h=>by unfold Bp;rw [h];rfl'⟩
def db_5:HH (mrkO n w (Br s ib ig m T)) n s ib ig m T:=
 have o:Own _ s ib ig m T:=Di rfl (by rfl') (by rfl')
 ⟨o,Di rfl (by rfl') (by rfl'),λfo δ h=>by unfold Bp;rw [h];rfl',λfo δ h=>by unfold Bp;rw [h];rfl',λfo δ h=>by unfold Bp;rw [h];rfl'⟩
def bi_1:HH (paO n (Br s ib ig m T) u) n s ib ig m T:=
 have o:Own _ s ib ig m T:=Di rfl (by rfl') (by rfl')
 ⟨o,Di rfl (by rfl') (by rfl'),λfo δ h=>by unfold Bp;rw [h];rfl',λfo δ h=>by unfold Bp;rw [h];rfl',λfo δ h=>by unfold Bp;rw [h];rfl'⟩
def bb_9:HH (oaO n (Br s ib ig m T)) n s ib ig m T:=
 have o:Own _ s ib ig m T:=Di rfl (by rfl') (by rfl')
 ⟨o,Di rfl (by rfl') (by rfl'),λfo δ h=>by unfold Bp;rw [h];rfl',λfo δ h=>by unfold Bp;rw [h];rfl',λfo δ h=>by unfold Bp;rw [h];rfl'⟩
def bx_9:HH (kaO n w (Br s ib ig m T)) n s ib ig m T:=
 have o:Own _ s ib ig m T:=Di rfl (by rfl') (by rfl')
 ⟨o,Di rfl (by rfl') (by rfl'),λfo δ h=>by unfold Bp;rw [h];rfl',λfo δ h=>by unfold Bp;rw [h];rfl',λfo δ h=>by unfold Bp;rw [h];rfl'⟩
def bi_2:HH (maO n w (Br s ib ig m T)) n s ib ig m T:=
 have o:Own _ s ib ig m T:=Di rfl (by rfl') (by rfl')
 ⟨o,Di rfl (by rfl') (by rfl'),λfo δ h=>by unfold Bp;rw [h];rfl',λfo δ h=>by unfold Bp;rw [h];rfl',λfo δ h=>by unfold Bp;rw [h];rfl'⟩
def dn_3(fo:FE)(δ:DE)(h:fo δ=.ok (.sh (Br s ib ig m T))):Bt ["Table"] "kind" fo δ=.ok (.sh (.int ib)):=Di rfl (by rfl') (by rfl') fo δ h
def br_9{Z:D}(h:HH M n s ib ig m T)(c0:Du i0 (Ab 0) [some M]=.ok (.sh (.bl true)))(d2:Bp "used" 0 tbU (Ab 0) Ac [some M]=.ok (.sh (.str u)))(hw:n_0 [.int ib]=.ok (.sh (.int w)))(ht:k_8 [.str "peeled",M,.int w,.str u]=.ok (.sh Z)):d_4 [M]=.ok (.sh Z):=by
 have d1:=dn_3 (Bt C8 "own_table" (Ab 0)) [some M] (h.own (Ab 0) _ rfl)
 simp_arith [d_4,u_2,Am,c0,d1,d2,hw,ht]
def bi_3{Z:D}(h:HH M n s ib ig m T)(c0:Du i0 (Ab 0) [some M]=.ok (.sh (.bl false)))(c1:Du i1 (Ab 0) [some M]=.ok (.sh (.bl true)))(hw:n_0 [.int n]=.ok (.sh (.int w)))(ht:k_8 [.str "ordered",M,.int w,.str ""]=.ok (.sh Z)):d_4 [M]=.ok (.sh Z):=by
 have d1:=h.many (Ab 0) [some M] rfl
 simp_arith [d_4,u_2,Am,c0,c1,d1,hw,ht]
abbrev Wd(M:D)(w:Int)(r:List (Option D)):Prop:=Bt Lb "width" (Ab 0) (some M::r)=.ok (.sh (.int w))
def cu_5{Z:D}(c0:Du i0 (Ab 0) [some M]=.ok (.sh (.bl false)))(c1:Du i1 (Ab 0) [some M]=.ok (.sh (.bl false)))(c2:Du i2 (Ab 0) [some M]=.ok (.sh (.bl true)))(d1:Wd M w [])(ht:k_8 [.str "kept",M,.int w,.str ""]=.ok (.sh Z)):d_4 [M]=.ok (.sh Z):=by
 simp_arith [d_4,u_2,Am,c0,c1,c2,d1,ht]
def bs_0{Z:D}(c0:Du i0 (Ab 0) [some M]=.ok (.sh (.bl false)))(c1:Du i1 (Ab 0) [some M]=.ok (.sh (.bl false)))(c2:Du i2 (Ab 0) [some M]=.ok (.sh (.bl false)))(c3:Du i3 (Ab 0) [some M]=.ok (.sh (.bl true)))(d1:Wd M w [])(ht:k_8 [.str "marked",M,.int w,.str ""]=.ok (.sh Z)):d_4 [M]=.ok (.sh Z):=by
 simp_arith [d_4,u_2,Am,c0,c1,c2,c3,d1,ht]
end
def Dv(nm:Str)(ib s n:Int)(w:Nat)(T:List Int)(u:Str):D:=.tup [.str nm,.int ib,.int s,.int n,.int (w:Int),.str (Bd ((T.map λn=>wr w n []).flatten)),.str u]
def aa_8{M:D}{n s ib ig m:Int}{T:List Int}(h:HH M n s ib ig m T)(nm u:Str)(w:Nat)(h1:w<=1000)(h2:T.length<=10000)(hb:∀t∈T,0<=t/\t < 2 ^ w):k_8 [.str nm,M,.int (w:Int),.str u]=.ok (.sh (Dv nm ib s n w T u)):=by
 have e1:=h.tab (Ab 1) [some (.str nm),some M,some (.int (w:Int)),some (.str u),none] rfl;have e2:=dn_3 (Bt C8 "own_table" (Ab 1)) [some (.str nm),some M,some (.int (w:Int)),some (.str u),some (.str (Bd ((T.map λn=>wr w n []).flatten)))] (h.own (Ab 1) _ rfl);have e3:=h.salt (Ab 1) [some (.str nm),some M,some (.int (w:Int)),some (.str u),some (.str (Bd ((T.map λn=>wr w n []).flatten)))] rfl;have e4:=h.many (Ab 1) [some (.str nm),some M,some (.int (w:Int)),some (.str u),some (.str (Bd ((T.map λn=>wr w n []).flatten)))] rfl;have ew:=co_7 T w h1 h2 hb;unfold Dv;generalize Bd ((T.map λn=>wr w n []).flatten)=x at *
 simp_arith [k_8,bq_6,Am,e1,ew,e2,e3,e4]
def cu_6{l:List Nat}(h:∀c∈l,bit c):(Bd l).cps.all (· < 0x110000)=true:=by
 rw [<-Array.all_toList,i_9];exact List.all_eq_true.mpr λc hc=>by rcases h c hc with rfl|rfl <;> decide
def ax_1(w:Nat)(zs:List Int):∀c∈(zs.map λn=>wr w n []).flatten,bit c:=λc hc=>by
 obtain⟨l,hl,hc⟩:=List.mem_flatten.mp hc;obtain⟨n,_,rfl⟩:=List.mem_map.mp hl;exact dk_7 w n [] (λc h=>absurd h (by simp)) c hc
def by_0(nm:Str)(ib s n:Int)(w:Nat)(T:List Int)(u:Str)(hn:nm.cps.all (· < 0x110000)=true)(hu:u.cps.all (· < 0x110000)=true):Dg (Dv nm ib s n w T u) (Dv nm ib s n w T u)=.ok (.sh (.bl false)):=by
 have hx:=cu_6 (ax_1 w T);unfold Dv;generalize Bd ((T.map λn=>wr w n []).flatten)=x at *
 refine r_1 1 ?_;show(List.all _ (okD 0))=true;simp only [List.all_cons,List.all_nil,okD,Bool.and_true,hn,hu,hx]
theorem ch_9(w:Nat):∀(zs:List Int) (i:Nat) (z:Int),zs[i]? =some z->(((zs.map λn=>wr w n []).flatten).drop (w * i)).take w=wr w z []
 | [],i,z,h=>by simp at h
 |y::zs,0,z,h=>by
  have:y=z:=by simpa using h
  subst this;rw [Nat.mul_zero,List.drop_zero,List.map_cons,List.flatten_cons,List.take_append_of_le_length (by rw [aq_2];simp),List.take_of_length_le (by rw [aq_2];simp)]
 |y::zs,i + 1,z,h=>by
  rw [List.map_cons,List.flatten_cons,Nat.mul_succ,List.drop_append,List.drop_of_length_le (by rw [aq_2];simp),List.nil_append,aq_2];have e:w * i + w - (w + ([]:List Nat).length)=w * i:=by simp
  rw [e];exact ch_9 w zs i z (by simpa using h)
def ba_1(w:Nat)(zs:List Int)(hz:∀z∈zs,0<=z/\z < 2 ^ w):Hj ((zs.map λn=>wr w n []).flatten) w zs.length=zs:=by
 apply List.ext_getElem?;intro i;unfold Hj;rw [List.getElem?_map]
 by_cases hi:i < zs.length
 ·obtain⟨z,e1⟩:∃z,zs[i]? =some z:=⟨zs[i],List.getElem?_eq_getElem hi⟩;rw [List.getElem?_range hi,e1];show some (rd (((zs.map λn=>wr w n []).flatten.drop (w * i)).take w) 0)=some z;obtain⟨b1,b2⟩:=hz z (List.mem_of_getElem? e1);rw [ch_9 w zs i z e1,eg_3 w z b1 b2]
 ·rw [List.getElem?_eq_none (by rw [List.length_range];omega),List.getElem?_eq_none (by omega)];rfl
def af_7(T:List Int)(w:Nat)(h1:1<=w)(h2:w<=100)(h3:T.length<=900)(hb:∀t∈T,0<=t/\t < 2 ^ w)(z:Int):o_2 [.str (Bd ((T.map λn=>wr w n []).flatten)),.int (w:Int),.int z]=.ok (.ow (.lst (T.map .int))):=by
 have hl:(Bd ((T.map λn=>wr w n []).flatten)).length=w * T.length:=by rw [r_7,bh_7]
 have hm:=Nat.mul_le_mul h2 h3;have e:=bx_5 (Bd ((T.map λn=>wr w n []).flatten)) w T.length h1 hl (by omega) (by omega) (by rw [i_9];exact ax_1 w T);rw [i_9,ba_1 w T hb] at e;generalize Bd ((T.map λn=>wr w n []).flatten)=x at *
 have g:gtD (.int (w:Int)) (.int 0)=.ok (.sh (.bl true)):=by rw [di_6];simp;omega
 simp_arith [o_2,ag_7,Am,g,e]
def at_6{nm x u:Str}{ib s n w:Int}{r:W}(ho:p_2 [.str nm,.int ib,.int s,.int n,.int w,.str x,.str u]=.ok r):g_5 [.tup [.str nm,.int ib,.int s,.int n,.int w,.str x,.str u]]=.ok r:=by
 have hi:∀(i:Nat) (d:D),([D.str nm,.int ib,.int s,.int n,.int w,.str x,.str u])[i]? =some d->Bn (.tup [.str nm,.int ib,.int s,.int n,.int w,.str x,.str u]) (.int (i:Int))=.ok (.sh d):=λi d h=>by
  unfold Bn;simp only [Fx h]
 have i0:=hi 0 _ rfl;have i1:=hi 1 _ rfl;have i2:=hi 2 _ rfl;have i3:=hi 3 _ rfl;have i4:=hi 4 _ rfl;have i5:=hi 5 _ rfl;have i6:=hi 6 _ rfl;generalize D.tup [D.str nm,.int ib,.int s,.int n,.int w,.str x,.str u]=Z at *
 simp only [show((0:Nat):Int)=0 from rfl,show((1:Nat):Int)=1 from rfl,show((2:Nat):Int)=2 from rfl,show((3:Nat):Int)=3 from rfl,show((4:Nat):Int)=4 from rfl,show((5:Nat):Int)=5 from rfl,show((6:Nat):Int)=6 from rfl] at i0 i1 i2 i3 i4 i5 i6
 simp_arith [g_5,as_9,Am,i0,i1,i2,i3,i4,i5,i6,ho]
section
variable{N w:Nat}{s ib:Int}{T:List Int}{u:Str}
def eh_9(hN:N<=200)(hk:ib=2\/ib=3)(h1:1<=w)(h2:w<=100)(h3:T.length<=900)(hb:∀t∈T,0<=t/\t < 2 ^ w):g_5 [Dv "peeled" ib s (N:Int) w T u]=.ok (.sh (paO (N:Int) (Br s ib (Aw (N:Int) ib) ib T) u)):=by
 obtain⟨p1,_,p3,p4⟩:=r_8 (N:Int) ib (by omega) (by omega) hk;have m1:=Do (i:=ib) (j:=Aw (N:Int) ib) (Es (by omega) (by omega));have e:=af_7 T w h1 h2 h3 hb (ib * Aw (N:Int) ib);have e2:=t_3 w (by omega);unfold Dv paO Br;generalize Bd ((T.map λn=>wr w n []).flatten)=x at *
 have q0:Ck (.str "peeled") (.str "peeled")=.ok (.sh (.bl true)):=by rfl'
 refine at_6 ?_
 simp_arith [p_2,z_2,Am,p1,m1,e,e2,q0,Fb,z_5,eh_5]
def ei_0(hN:N<=200)(hk:ib=2\/ib=3)(h1:1<=w)(h2:w<=100)(h3:T.length<=900)(hb:∀t∈T,0<=t/\t < 2 ^ w):g_5 [Dv "ordered" ib s (N:Int) w T ""]=.ok (.sh (oaO (N:Int) (Br s ib (Aw (N:Int) ib) (N:Int) T))):=by
 obtain⟨p1,_,p3,p4⟩:=r_8 (N:Int) ib (by omega) (by omega) hk;have m1:=Do (i:=ib) (j:=Aw (N:Int) ib) (Es (by omega) (by omega));have e:=af_7 T w h1 h2 h3 hb (ib * Aw (N:Int) ib);have e2:=t_3 w (by omega);unfold Dv oaO Br;generalize Bd ((T.map λn=>wr w n []).flatten)=x at *
 have q0:Ck (.str "ordered") (.str "peeled")=.ok (.sh (.bl false)):=by rfl'
 have q1:Ck (.str "ordered") (.str "ordered")=.ok (.sh (.bl true)):=by rfl'
 refine at_6 ?_
 simp_arith [p_2,z_2,Am,p1,m1,e,e2,q0,q1,Fb,z_5,eh_6]
def ei_1(hN:N<=200)(hk:ib=2\/ib=3)(h1:1<=w)(h2:w<=100)(h3:T.length<=900)(hb:∀t∈T,0<=t/\t < 2 ^ w):g_5 [Dv "kept" ib s (N:Int) w T ""]=.ok (.sh (kaO (N:Int) (w:Int) (Br s ib (Aw (N:Int) ib) (2 ^ w) T))):=by
 obtain⟨p1,_,p3,p4⟩:=r_8 (N:Int) ib (by omega) (by omega) hk;have m1:=Do (i:=ib) (j:=Aw (N:Int) ib) (Es (by omega) (by omega));have e:=af_7 T w h1 h2 h3 hb (ib * Aw (N:Int) ib);have e2:=t_3 w (by omega);unfold Dv kaO Br;generalize Bd ((T.map λn=>wr w n []).flatten)=x at *
 have q0:Ck (.str "kept") (.str "peeled")=.ok (.sh (.bl false)):=by rfl'
 have q1:Ck (.str "kept") (.str "ordered")=.ok (.sh (.bl false)):=by rfl'
 have q2:Ck (.str "kept") (.str "kept")=.ok (.sh (.bl true)):=by rfl'
 refine at_6 ?_
 simp_arith [p_2,z_2,Am,p1,m1,e,e2,q0,q1,q2,Fb,z_5,eh_7]
def ei_2(hN:N<=200)(hk:ib=2\/ib=3)(h1:1<=w)(h2:w<=100)(h3:T.length<=900)(hb:∀t∈T,0<=t/\t < 2 ^ w):g_5 [Dv "marked" ib s (N:Int) w T ""]=.ok (.sh (maO (N:Int) (w:Int) (Br s ib (Aw (N:Int) ib) (2 ^ w) T))):=by
 obtain⟨p1,_,p3,p4⟩:=r_8 (N:Int) ib (by omega) (by omega) hk;have m1:=Do (i:=ib) (j:=Aw (N:Int) ib) (Es (by omega) (by omega));have e:=af_7 T w h1 h2 h3 hb (ib * Aw (N:Int) ib);have e2:=t_3 w (by omega);unfold Dv maO Br;generalize Bd ((T.map λn=>wr w n []).flatten)=x at *
 have q0:Ck (.str "marked") (.str "peeled")=.ok (.sh (.bl false)):=by rfl'
 have q1:Ck (.str "marked") (.str "ordered")=.ok (.sh (.bl false)):=by rfl'
 have q2:Ck (.str "marked") (.str "kept")=.ok (.sh (.bl false)):=by rfl'
 refine at_6 ?_
 simp_arith [p_2,z_2,Am,p1,m1,e,e2,q0,q1,q2,Fb,z_5,eh_8]
end
def dn_4(x:Str)(p:Nat)(h:p<=x.length):(Txt.slice x none (some (p:Int))).cps.toList=x.cps.toList.take p:=by
 rw [bg_1,eg_1 x.cps.toList p (by rw [<-x_9];exact h)]
def dn_5{U:List Nat}(hU:U.length<=100000){p:Nat}(hp:p<=U.length):o_4 [.str (Bd U),.int (p:Int)]=.ok (.sh (.int ((U.take p).count 49:Nat))):=by
 have e:max (p:Int) 0=(p:Int):=by omega
 have hl:(Bd U).length<=16777216:=by rw [r_7];omega
 have c:Txt.count (Txt.slice (Bd U) none (some (p:Int))) "1" =((U.take p).count 49:Nat):=by
  have c:=cz_5 (Txt.slice (Bd U) none (some (p:Int))) 49;rw [dn_4 _ p (by rw [r_7];exact hp),i_9] at c;exact c
 simp_arith [o_4,am_8,Am,ef_3,e,av_3,hl,bf_3,beq_self_eq_true,c]
def en_5{ps:List Nat}{j p:Nat}(h:ps[j]? =some p):Bn (eT ps) (.int (j:Int))=.ok (.sh (.int (p:Int))):=by
 exact bd_0 (Fx (show(zi ps)[j]? =some (.int (p:Int)) by unfold zi;rw [List.getElem?_map,h];rfl))
section
variable{n s ib ig m w z y:Int}{T:List Int}{u:Str}{M d:D}
def bd_5(h:HH M n s ib ig m T)(ht:c_6 [Br s ib ig m T,d]=.ok (.sh (.int z)))(r:List (Option D)):Bp "total" 1 [("Table",c_6)] (Bt C8 "own_table" (Ab 0)) (Aa (Ab 1) Ac) (some M::some d::r)=.ok (.sh (.int z)):=
 (Fe (tb:=[("Table",c_6)]) (M:=Br s ib ig m T) rfl (by rfl') (by rfl') (Bt C8 "own_table" (Ab 0)) (Aa (Ab 1) Ac) (some M::some d::r) [d] (h.own (Ab 0) _ rfl) rfl rfl).trans ht
def ba_2(h:HH M n s ib ig m T)(ht:c_6 [Br s ib ig m T,d]=.ok (.sh (.int z))):c_1 [M,d]=.ok (.sh (.int z)):=by
 have e:=bd_5 h ht []
 simp_arith [c_1,x_2,Am,e]
def ci_0(h:HH M n s ib ig m T)(ht:c_6 [Br s ib ig m T,d]=.ok (.sh (.int z))):f_5 [M,d]=.ok (.sh (.int z)):=by
 have e:=bd_5 h ht []
 simp_arith [f_5,as_8,Am,e]
def bi_4(h:HH M n s ib ig m T)(e2:Wd M w [some d])(ht:c_6 [Br s ib ig m T,d]=.ok (.sh (.int z)))(hm:aq_0 [d,.int w]=.ok (.sh (.int y))):d_7 [M,d]=.ok (.sh (.bl (decide (z=y)))):=by
 have e:=bd_5 h ht []
 simp_arith [d_7,aj_6,Am,e,e2,hm,Fq]
def bi_5{ps:List Nat}{j p:Nat}(h:HH M n s ib ig m T)(e0:Bp "places" 1 tbQ (Ab 0) (Aa (Ab 1) Ac) [some M,some d,none]=.ok (.sh (eT ps)))(e2:∀x:Option D,Bt Le "used_row" (Ab 0) [some M,some d,x]=.ok (.sh (.str u)))(ht:c_6 [Br s ib ig m T,d]=.ok (.sh (.int (j:Int))))(hj:ps[j]? =some p)(ho:o_4 [.str u,.int (p:Int)]=.ok (.sh (.int z))):c_2 [M,d]=.ok (.sh (.int z)):=by
 have e:=bd_5 h ht [none];have hx:Bn (eT ps) (.int (j:Int))=.ok (.sh (.int (p:Int))):=en_5 hj
 simp_arith [c_2,z_1,Am,e,e0,hx,e2,ho]
def at_7(h:HH M n s ib ig m T)(e0:Bp "number_of" 1 tbN (Ab 0) (Aa (Ab 1) Ac) [some M,some d]=.ok (.sh (.int z))):b_5 [M,d]=.ok (.sh (.int (min z (n - 1)))):=by
 have e1:=h.num (Ab 0) [some M,some d] rfl
 simp_arith [b_5,an_0,Am,e0,e1,bg_2,ef_4]
def y_4{f:D->Int}{ls:List D}(hk:∀k∈ls,isKey k)(hl:ls.length<=16777216)(hm:∀d,isKey d->Bp "room" 1 tbR (Ab 0) (Aa (Ab 2) Ac) [some M,some (.lst ls),some d]=.ok (.sh (.int (f d)))):b_4 [M,.lst ls]=.ok (.ow (.lst (ls.map λd=> .int (f d)))):=by
 have q1:Cl [1] (At 1 i_6 (Aa (Ab 1) Ac)) (Ay 2 [M,.lst ls])=.nx [.sh M,.sh (.lst ls)]:=by
  simp_arith [Am,cu_0 hk]
 have ec:=k_2 (m:=1) (fi:=Db (Ab 1)) (fg:=gC 2) (p:=λ_=> .ok true) (f:=ac_8) (δ:=[some M,some (.lst ls)]) (ds:=ls) (by simp_arith [Am]) hl
  (p_9 (λd=> .int (f d)) ls λd hd=>⟨[some M,some (.lst ls),some d],.sh (.int (f d)),rfl,hm d (hk d hd),rfl⟩)
 unfold b_4 Ak aj_5;rw [Bl q1];have hv:Ar [.sh M,.sh (.lst ls)]= [some M,some (.lst ls)]:=rfl;unfold Ao;rw [hv,ec]
end
def Dh(p n:Nat):List Int:=(List.range n).map λk=>((p + k:Nat):Int)
theorem dn_6:∀(n:Nat) (l:List Int),l.Nodup->(∀x∈l,0<=x/\x < (n:Int))->l.length<=n
 |0,l,_,hb=>by
  cases l with
  |nil=>exact Nat.le_refl _
  |cons x l=>have:=hb x (by simp);omega
 |n + 1,l,nd,hb=>by
  by_cases c:(n:Int)∈l
  ·have h1:=(List.perm_cons_erase c).length_eq;have h2:=dn_6 n (l.erase (n:Int)) (nd.erase _) (λx hx=>by
    have hm:=(List.Nodup.mem_erase_iff nd).mp hx;have:=hb x hm.2;have:=hm.1;omega)
   rw [List.length_cons] at h1;omega
  ·have:=dn_6 n l nd (λx hx=>by
    have:=hb x hx;have:x≠(n:Int):=λe=>c (e▸hx);omega)
   omega
theorem cu_7:∀(n:Nat) (l:List Int),l.Nodup->(∀x∈l,0<=x/\x < (n:Int))->l.length=n->l.Perm (Dh 0 n)
 |0,l,_,hb,hl=>by rw [List.eq_nil_of_length_eq_zero hl];exact List.Perm.refl _
 |n + 1,l,nd,hb,hl=>by
  have c:(n:Int)∈l:=Decidable.byContradiction λc=>by
   have:=dn_6 n l nd (λx hx=>by
    have:=hb x hx;have:x≠(n:Int):=λe=>c (e▸hx);omega)
   omega
  have h1:=List.perm_cons_erase c;have h2:=cu_7 n (l.erase (n:Int)) (nd.erase _) (λx hx=>by
    have hm:=(List.Nodup.mem_erase_iff nd).mp hx;have:=hb x hm.2;have:=hm.1;omega) (by have:=h1.length_eq;rw [List.length_cons] at this;omega)
  have h3:Dh 0 (n + 1)=Dh 0 n ++ [(n:Int)]:=by
   unfold Dh;rw [List.range_succ,List.map_append];simp
  rw [h3];exact(h1.trans (h2.cons _)).trans (List.perm_append_singleton _ _).symm
def dx_9(l:List Int):Gu (l.map .int)=some l:=by
 have e:=aw_7 (λi:Int=>i) l
 rwa [List.map_id'] at e
def en_6{l:List Int}{n:Nat}(hp:l.Perm (Dh 0 n))(hl:l.length < 64):bg_5 [.lst (l.map .int)]=.ok (.ow (.lst ((Dh 0 n).map .int))):=by
 have h2:cf_3 l=Dh 0 n:=cf_4 hp.symm (by
  unfold Dh;rw [List.pairwise_map];exact List.pairwise_lt_range.imp λh=>by omega)
 simp only [bg_5,dx_9,hl,if_true,h2]
def dz_7(n:Nat):(Dh 0 n).map D.int=Cc 0 n:=by
 unfold Dh Cc;rw [List.map_map];apply List.map_congr_left;intro k _;show D.int ((0 + k:Nat):Int)=.int (0 + (k:Int));rw [Nat.zero_add,Int.zero_add]
def x_1{Q:List Int}{j:Nat}(h:j < Q.length):Bn (.lst (Q.map .int)) (.int (j:Int))=.ok (.sh (.int (Q.getD j 0))):=by
 refine aw_2 (Fx ?_);rw [List.getElem?_map,List.getD_eq_getElem?_getD,List.getElem?_eq_getElem h];rfl
def by_1(Q:List Int)(j:Nat)(z:Int):(Q.map D.int).set j (.int z)=(Q.set j z).map .int:=by rw [List.map_set]
def db_6(Q:List Int):(Q.map D.int).all Ba=true:=by
 rw [List.all_map];exact List.all_eq_true.mpr λ_ _=>rfl
def ci_1(ns:List Int):Ck (.lst (ns.map .int)) (.lst [])=.ok (.sh (.bl (decide (ns= [])))):=by
 have:eqC (.lst (ns.map .int)) (.lst [])=true:=dj_2 ns [];rw [ct_8];rw [if_pos this];cases ns with
 |nil=>rfl
 |cons n ns=>rfl
abbrev stD(ns:List Int)(m:Int)(Q:List Int)(b:Bool)(S F:List Int)(a6 a7:Sl):SE:=[.sh (.lst (ns.map .int)),.sh (.int m),.ow (.lst (Q.map .int)),.sh (.bl b),.ow (.lst (S.map .int)),.ow (.lst (F.map .int)),a6,a7]
def db_7{ns Q S F:List Int}{m:Int}{b:Bool}{a7:Sl}{k:Nat}(hk:k < 1000)(hR:0 < Q.length)(hS:S.length=Q.length)(hF:F.length=k):
  ∃Q' F' a7',Q'.length=Q.length/\F'.length=k + 1/\q_1 (stD ns m Q b S F (.sh (.int (0 + (k:Int)))) a7)=.nx (stD ns m Q' b S F' (.sh (.int (0 + (k:Int)))) a7'):=by
 obtain⟨j,hj,ej⟩:∃j:Nat,j < Q.length/\(0 + (k:Int)) % (Q.length:Int)=(j:Int):=⟨k % Q.length,Nat.mod_lt _ hR,by rw [Int.zero_add,Int.natCast_emod]⟩;have q1:Ag 7 [2,6] (Aj Ed (Ab 6) (Ah Bs (Aa (Ab 2) Ac))) (stD ns m Q b S F (.sh (.int (0 + (k:Int)))) a7)=.nx (stD ns m Q b S F (.sh (.int (0 + (k:Int)))) (.sh (.int (j:Int)))):=by
  simp_arith [Am,Hl,List.length_map,Fp (show(0:Int) < (Q.length:Int) by omega),ej]
 have i2:=x_1 hj;have i4:=x_1 (Q:=S) (j:=j) (by omega);have hl:(F.map D.int).length < 16777216:=by rw [List.length_map];omega
 have hkk:(0 + (k:Int)) * (0 + (k:Int)) % 1009 + 3<=2000/\0<=(0 + (k:Int)) * (0 + (k:Int)) % 1009 + 3:=by omega
 have mk:Ca (.int (0 + (k:Int))) (.int (0 + (k:Int)))=.ok (.sh (.int ((0 + (k:Int)) * (0 + (k:Int))))):=Do (Es (by omega) (by omega));unfold q_1;rw [Bl q1]
 by_cases hb:b=true\/Q.getD j 0=0
 ·refine⟨Q,F ++ [mixZ (mixZ (S.getD j 0 % 2147483647) (0 + (k:Int) + 7)) ((0 + (k:Int)) * (0 + (k:Int)) % 1009 + 3)],.sh (.int (j:Int)),rfl,by rw [List.length_append,hF];rfl, ?_⟩;have ht:Gj (Be (Ab 3)) (An (Aj Ck (Aj Bn (Ab 2) (Ab 7)) (eC (.int 0)))) (Ar (stD ns m Q b S F (.sh (.int (0 + (k:Int)))) (.sh (.int (j:Int)))))=.ok true:=by
   cases b with
   |true=>simp_arith [Am]
   |false=>
    have hb:Q.getD j 0=0:=by rcases hb with c|c;cases c;exact c
    simp_arith [Am,i2,Fq,hb]
  unfold Bv;rw [ht];simp only [if_true];unfold stD;rw [List.map_append]
  simp_arith [Am,Ea,hl,i4,Fp (show(0:Int) < 2147483647 by decide),Fv,dk_6 _ (0 + (k:Int) + 7) (by omega) (by omega),mk,Fp (show(0:Int) < 1009 by decide),dk_6 _ ((0 + (k:Int)) * (0 + (k:Int)) % 1009 + 3) (by omega) (by omega)]
 ·have hb1:b=false:=by
   cases b with
   |true=>exact absurd (.inl rfl) hb
   |false=>rfl
  have hb2:¬Q.getD j 0=0:=λc=>hb (.inr c);subst hb1;refine⟨Q.set j (Q.getD j 0 / 2147483587),F ++ [Q.getD j 0 % 2147483587],.sh (.int (j:Int)),by rw [List.length_set],by rw [List.length_append,hF];rfl, ?_⟩;have ht:Gj (Be (Ab 3)) (An (Aj Ck (Aj Bn (Ab 2) (Ab 7)) (eC (.int 0)))) (Ar (stD ns m Q false S F (.sh (.int (0 + (k:Int)))) (.sh (.int (j:Int)))))=.ok false:=by
   simp_arith [Am,i2,Fq,hb2]
  have hx:ixN (Q.map D.int).length (j:Int)=some j:=cg_4 (by rw [List.length_map];exact hj);unfold Bv;rw [ht];simp only [Bool.false_eq_true,if_false];unfold stD;rw [List.map_append,<-by_1]
  simp_arith [Am,Ea,hl,i2,Fp (show(0:Int) < 2147483587 by decide),s_2 (show(0:Int) < 2147483587 by decide) (by decide),as_0,hx]
def dn_7(ns:List Int)(hn:ns.length<=63)(m:Nat)(hm:m<=1000):∃zs:List Int,zs.length=m/\s_9 [.lst (ns.map .int),.int (m:Int)]=.ok (.ow (.lst (zs.map .int))):=by
 obtain⟨Q,hR,q2⟩:∃Q:List Int,0 < Q.length/\Bv [2] (An (Aj Ck (Ab 2) (Ci Ac))) (Ag 2 [] (Ci (Aa (eC (.int 0)) Ac))) Bf [.sh (.lst (ns.map .int)),.sh (.int (m:Int)),.ow (.lst (ns.map .int)),.no,.no,.no,.no,.no]=.nx [.sh (.lst (ns.map .int)),.sh (.int (m:Int)),.ow (.lst (Q.map .int)),.no,.no,.no,.no,.no]:=by
  by_cases h:ns= []
  ·subst h;exact⟨[0],by decide,rfl⟩
  ·refine⟨ns,List.length_pos_iff.mpr h, ?_⟩
   simp_arith [Am,ci_1,h]
 have q1:Ag 2 [0] (Ah ae_7 (Aa (Ab 0) Ac)) (Ay 8 [.lst (ns.map .int),.int (m:Int)])=.nx [.sh (.lst (ns.map .int)),.sh (.int (m:Int)),.ow (.lst (ns.map .int)),.no,.no,.no,.no,.no]:=rfl;have i0:=x_1 (Q:=Q) (j:=0) hR;have hx:ixN (Q.map D.int).length (0:Int)=some 0:=cg_4 (by rw [List.length_map];exact hR);have q3:Ag 3 [2] (Aj Ck (Aj Ed (Aj Bn (Ab 2) (eC (.int 0))) (eC (.int 2))) (eC (.int 1))) [.sh (.lst (ns.map .int)),.sh (.int (m:Int)),.ow (.lst (Q.map .int)),.no,.no,.no,.no,.no]=.nx [.sh (.lst (ns.map .int)),.sh (.int (m:Int)),.ow (.lst (Q.map .int)),.sh (.bl (decide (Q.getD 0 0 % 2=1))),.no,.no,.no,.no]:=by
  have i0:Bn (.lst (Q.map .int)) (.int 0)=.ok (.sh (.int (Q.getD 0 0))):=i0
  simp_arith [Am,i0,Fp (show(0:Int) < 2 by decide),Fq]
 have q4:as_0 2 (eC (.int 0)) (Aj Gm (Aj Bn (Ab 2) (eC (.int 0))) (eC (.int 2))) [.sh (.lst (ns.map .int)),.sh (.int (m:Int)),.ow (.lst (Q.map .int)),.sh (.bl (decide (Q.getD 0 0 % 2=1))),.no,.no,.no,.no]=.nx [.sh (.lst (ns.map .int)),.sh (.int (m:Int)),.ow (.lst ((Q.set 0 (Q.getD 0 0 / 2)).map .int)),.sh (.bl (decide (Q.getD 0 0 % 2=1))),.no,.no,.no,.no]:=by
  have i0:Bn (.lst (Q.map .int)) (.int 0)=.ok (.sh (.int (Q.getD 0 0))):=i0;rw [<-by_1]
  simp_arith [as_0,Am,i0,s_2 (show(0:Int) < 2 by decide) (by decide),hx]
 have hS:(Q.set 0 (Q.getD 0 0 / 2)).length=Q.length:=List.length_set;generalize decide (Q.getD 0 0 % 2=1)=b at *
 generalize Q.set 0 (Q.getD 0 0 / 2)=S at *
 have q5:ay_6 4 (Ah ae_7 (Aa (Ab 2) Ac)) [.sh (.lst (ns.map .int)),.sh (.int (m:Int)),.ow (.lst (S.map .int)),.sh (.bl b),.no,.no,.no,.no]=.nx [.sh (.lst (ns.map .int)),.sh (.int (m:Int)),.ow (.lst (S.map .int)),.sh (.bl b),.ow (.lst (S.map .int)),.no,.no,.no]:=by
  have e:Ah ae_7 (Aa (Ab 2) Ac) (Ar [.sh (.lst (ns.map .int)),.sh (.int (m:Int)),.ow (.lst (S.map .int)),.sh (.bl b),.no,.no,.no,.no])=.ok (.ow (.lst (S.map .int))):=rfl;unfold ay_6;rw [e];simp only [db_6,if_true];rfl
 have q6:Ag 5 [] (Ci Ac) [.sh (.lst (ns.map .int)),.sh (.int (m:Int)),.ow (.lst (S.map .int)),.sh (.bl b),.ow (.lst (S.map .int)),.no,.no,.no]=.nx (stD ns (m:Int) S b S [] .no .no):=rfl;obtain⟨Δ',e,Q',F,a6,a7,_,hF,rfl⟩:=y_2 (gV 6) q_1 (λk Δ=>∃(Q' F:List Int) (a6 a7:Sl),Q'.length=S.length/\F.length=k/\Δ=stD ns (m:Int) Q' b S F a6 a7) (n:=m) (lo:=0) (Δ:=stD ns (m:Int) S b S [] .no .no) ⟨S,[],_,_,rfl,rfl,rfl⟩ (λk Δ hk hI=>by
  obtain⟨Q',F,a6,a7,h1,h2,rfl⟩:=hI;obtain⟨R2,F2,a72,g1,g2,g3⟩:=db_7 (ns:=ns) (Q:=Q') (S:=S) (F:=F) (m:=(m:Int)) (b:=b) (a7:=a7) (k:=k) (by omega) (by omega) h1.symm h2;exact⟨stD ns (m:Int) Q' b S F (.sh (.int (0 + (k:Int)))) a7,rfl,_,.inl g3,R2,F2,_,_,g1.trans h1,g2,rfl⟩)
 have q7:Bu [1] (Ax Co (Aa (Ab 1) Ac)) (gV 6) q_1 (stD ns (m:Int) S b S [] .no .no)=.nx (stD ns (m:Int) Q' b S F a6 a7):=by
  have hi:Ax Co (Aa (Ab 1) Ac) (Bb (stD ns (m:Int) S b S [] .no .no))=.ok (Cc 0 m):=by
   simp_arith [Am,m_0 (show(-4611686018427387903:Int)<=(m:Int) by omega) (by omega),Int.toNat_natCast]
  unfold Bu;rw [hi];exact e
 refine⟨F,hF, ?_⟩;unfold s_9;refine r_4 ?_;unfold ay_7;rw [Bl q1,Bl q2,Bl q3,Bl q4,Bl q5,Bl q6,Bl q7];rfl
def by_2(a b c:Int):∃d,isKey d/\i_5 [.int a,.int b,.int c]=.ok (.sh d):=by
 have d3:=s_2 (i:=a) (show(0:Int) < 3 by decide) (by decide);have m3:=Fp (i:=a) (show(0:Int) < 3 by decide);have p18:=ef_2 (di_8 (i:=10) (j:=18) (by decide) (by decide) (by decide) (by decide));have e18:(10:Int) ^ (18:Int).toNat=1000000000000000000:=by decide
 rw [e18] at p18;have m7:Ca (.int 700000000) (.int b)=.ok (.sh (.int (700000000 * b))):=Do (Es (by decide) (by decide));have:a % 3=0\/a % 3=2\/a % 3=1:=by omega
 rcases this with h|h|h
 ·refine⟨.int ((a / 3 + 700000000 * b) % 1000000000000000000),.inl ⟨_,rfl,by omega,by omega⟩, ?_⟩
  simp_arith [i_5,r_5,Am,d3,m3,m7,Fv,Fq,h,p18,Fp (show(0:Int) < 1000000000000000000 by decide)]
 ·refine⟨.int (a / 3 % 50),.inl ⟨_,rfl,by omega,by omega⟩, ?_⟩;have n0:¬(2:Int)=0:=by decide
  simp_arith [i_5,r_5,Am,d3,m3,Fq,h,n0,Fp (show(0:Int) < 50 by decide)]
 ·have n0:¬(1:Int)=0:=by decide
  have n2:¬(1:Int)=2:=by decide
  have b0:=Int.emod_nonneg (a / 3) (show(12:Int)≠0 by decide);have b1:=Int.emod_lt_of_pos (a / 3) (show(0:Int) < 12 by decide);have m36:Ca (.int (a / 36)) (.int 1500000000)=.ok (.sh (.int (a / 36 * 1500000000))):=Do (aw_1 (by decide) (by decide));obtain⟨Δ',e,l,Z,a6,a7,rfl,hZ,hl,hc⟩:=y_2 (gV 6) o_5 (λk Δ=>∃(l:List Nat) (Z:List Int) (a6 a7:Sl),Δ= [.sh (.int a),.sh (.int b),.sh (.int c),.sh (.str "abcdefghijklmnopqrstuvwxyz0123456789-_ "),.ow (.lst (Z.map .int)),.sh (.str (Bd l)),a6,a7]/\Z.length=2/\l.length=k/\∀c∈l,c∈sgL)
   (n:=(a / 3 % 12).toNat) (lo:=0) (Δ:=[.sh (.int a),.sh (.int b),.sh (.int c),.sh (.str "abcdefghijklmnopqrstuvwxyz0123456789-_ "),.ow (.lst ([a / 36 * 1500000000 + b,c].map .int)),.sh (.str ""),.no,.no]) ⟨[],_,.no,.no,rfl,rfl,rfl,λc hc=>absurd hc (by simp)⟩ (λk Δ hk hI=>by
   obtain⟨l,Z,a6,a7,rfl,hZ,hl,hc⟩:=hI;obtain⟨j,hj,ej⟩:∃j:Nat,j < 2/\(0 + (k:Int)) / 6=(j:Int):=⟨k / 6,by omega,by omega⟩;have i4:=x_1 (Q:=Z) (j:=j) (by omega);obtain⟨y,hy,ec⟩:=em_8 (Z.getD j 0);have zj:(Bd l).length + (Bd [y]).length<=16777216:=by rw [r_7,r_7];simp;omega
   have hx:ixN (Z.map D.int).length (j:Int)=some j:=cg_4 (by rw [List.length_map];omega);refine⟨_,rfl,[.sh (.int a),.sh (.int b),.sh (.int c),.sh (.str "abcdefghijklmnopqrstuvwxyz0123456789-_ "),.ow (.lst ((Z.set j (Z.getD j 0 / 39)).map .int)),.sh (.str (Bd (l ++ [y]))),.sh (.int (0 + (k:Int))),.sh (.int (j:Int))],.inl ?_,l ++ [y],Z.set j (Z.getD j 0 / 39),_,_,rfl,by rw [List.length_set];exact hZ,by simp [hl], ?_⟩
   ·rw [<-by_1]
    simp_arith [o_5,Am,s_2 (show(0:Int) < 6 by decide) (by decide),ej,i4,Fp (show(0:Int) < 39 by decide),ec,di_7 zj,ct_6,as_0,hx,s_2 (show(0:Int) < 39 by decide) (by decide)]
   ·intro d hd;rcases List.mem_append.mp hd with hd|hd
    ·exact hc d hd
    ·have:d=y:=by simpa using hd
     rw [this];exact hy)
  refine⟨.str (Bd l),.inr ⟨l,rfl,by omega,hc⟩, ?_⟩;have e:Fc (gV 6) o_5 (Cc 0 (a / 3 % 12).toNat) [.sh (.int a),.sh (.int b),.sh (.int c),.sh (.str "abcdefghijklmnopqrstuvwxyz0123456789-_ "),.ow (.lst [.int (a / 36 * 1500000000 + b),.int c]),.sh (.str ""),.no,.no]=_:=e
  simp_arith [i_5,r_5,Am,d3,m3,Fq,h,n0,n2,s_2 (i:=a) (show(0:Int) < 36 by decide) (by decide),m36,Fv,Fp (show(0:Int) < 12 by decide),Bu,m_0 (show -4611686018427387903<=a / 3 % 12 by omega) (by omega),e]
def ao_0(zs:List Int)(s m:Nat)(h0:s + 3 * m<=zs.length)(h1:zs.length<=1000)(hm:1<=m):
  ∃ks:List D,ks≠ []/\ks.length<=m/\(∀k∈ks,isKey k)/\ks.Nodup/\e_2 [.lst (zs.map .int),.int (s:Int),.int (m:Int)]=.ok (.ow (.lst ks)):=by
 obtain⟨Δ',e,ks,a4,a5,a6,rfl,hl,hk,hd⟩:=y_2 (gV 4) n_3 (λk Δ=>∃(ks:List D) (a4 a5 a6:Sl),Δ= [.sh (.lst (zs.map .int)),.sh (.int (s:Int)),.sh (.int (m:Int)),.ow (.lst ks),a4,a5,a6]/\ks.length<=k/\(∀k∈ks,isKey k)/\ks.Nodup)
  (n:=m) (lo:=0) (Δ:=[.sh (.lst (zs.map .int)),.sh (.int (s:Int)),.sh (.int (m:Int)),.ow (.lst []),.no,.no,.no]) ⟨[],.no,.no,.no,rfl,Nat.le_refl _,λk hk=>absurd hk (by simp),List.nodup_nil⟩ (λk Δ hk hI=>by
  obtain⟨ks,a4,a5,a6,rfl,hl,hks,hd⟩:=hI;have m3:Ca (.int 3) (.int (0 + (k:Int)))=.ok (.sh (.int (3 * (0 + (k:Int))))):=Do (Es (by decide) (by decide));have e0:(s:Int) + 3 * (0 + (k:Int))=((s + 3 * k:Nat):Int):=by omega
  have e1:((s + 3 * k:Nat):Int) + 1=((s + 3 * k + 1:Nat):Int):=by omega
  have e2:((s + 3 * k:Nat):Int) + 2=((s + 3 * k + 2:Nat):Int):=by omega
  have i0:=x_1 (Q:=zs) (j:=s + 3 * k) (by omega);have i1:=x_1 (Q:=zs) (j:=s + 3 * k + 1) (by omega);have i2:=x_1 (Q:=zs) (j:=s + 3 * k + 2) (by omega);obtain⟨d,hdk,ed⟩:=by_2 (zs.getD (s + 3 * k) 0) (zs.getD (s + 3 * k + 1) 0) (zs.getD (s + 3 * k + 2) 0);have hl2:ks.length < 16777216:=by omega
  have hni:=dk_9 hdk hks;cases hm:Ct d ks with
  |true=>
   refine⟨_,rfl,[.sh (.lst (zs.map .int)),.sh (.int (s:Int)),.sh (.int (m:Int)),.ow (.lst ks),.sh (.int (0 + (k:Int))),.sh (.int ((s + 3 * k:Nat):Int)),.sh d],.inl ?_,ks,_,_,_,rfl,by omega,hks,hd⟩;rw [hm] at hni
   simp_arith [n_3,Am,m3,Fv,e0,e1,e2,i0,i1,i2,ed,hni]
  |false=>
   refine⟨_,rfl,[.sh (.lst (zs.map .int)),.sh (.int (s:Int)),.sh (.int (m:Int)),.ow (.lst (ks ++ [d])),.sh (.int (0 + (k:Int))),.sh (.int ((s + 3 * k:Nat):Int)),.sh d],.inl ?_,ks ++ [d],_,_,_,rfl,by simp;omega, ?_, ?_⟩
   ·rw [hm] at hni
    simp_arith [n_3,Am,m3,Fv,e0,e1,e2,i0,i1,i2,ed,hni,Ea,hl2]
   ·intro x hx;rcases List.mem_append.mp hx with hx|hx
    ·exact hks x hx
    ·have:x=d:=by simpa using hx
     rw [this];exact hdk
   ·rw [List.nodup_append];refine⟨hd,by simp,λa ha b hb=> ?_⟩;have:b=d:=by simpa using hb
    subst this
    rintro rfl
    rw [(dw_0 hdk hks).mpr ha] at hm;cases hm)
 obtain⟨b,hb,eb,_⟩:=dl_0 hk (js:=[]) (λk hk=>absurd hk (by simp));have er:=m_0 (show(-4611686018427387903:Int)<=(m:Int) by omega) (by omega);rw [Int.toNat_natCast] at er
 by_cases hz:ks= []
 ·have is:=x_1 (Q:=zs) (j:=s) (by omega);refine⟨[.int (zs.getD s 0 % 50)],by simp,by simp;omega,λx hx=> ?_,by simp, ?_⟩
  ·have:x=.int (zs.getD s 0 % 50):=by simpa using hx
   rw [this];exact .inl ⟨_,rfl,by omega,by omega⟩
  ·have:b=true:=hb.mpr hz;subst this
   simp_arith [e_2,u_8,Am,Bu,er,e,eb,is,Fp (show(0:Int) < 50 by decide)]
 ·refine⟨ks,hz,by omega,hk,hd, ?_⟩;have:b=false:=by
   cases b with
   |true=>exact absurd (hb.mp rfl) hz
   |false=>rfl
  subst this
  simp_arith [e_2,u_8,Am,Bu,er,e,eb]
def dn_8(w m:Nat)(h:1<=w):Builtin.Range.rangeSize 0 ((w * m:Nat):Int) (w:Int)=(m:Int):=by
 unfold Builtin.Range.rangeSize;rw [if_pos (by omega)];cases m with
 |zero=>simp
 |succ m=>
  have hp:0 < w * (m + 1):=Nat.mul_pos h (by omega);rw [if_pos (by omega)];have e:((w * (m + 1):Nat):Int) - 0 - 1=((w:Int) - 1) + (w:Int) * (m:Int):=by
   rw [Int.natCast_mul,Int.natCast_add,Int.mul_add];omega
  rw [e,Int.add_mul_ediv_left _ _ (by omega),Int.ediv_eq_zero_of_lt (by omega) (by omega)];omega
def ix01{c:Nat}(h:bit c):av_7 (.str "01") [.str ⟨#[c]⟩]=.ok (.sh (.int (if c=49 then 1 else 0))):=by
 rcases h with rfl|rfl
 ·rfl'
 ·rfl'
def dy_0(l:List Nat)(j c:Nat)(q:l[j]? =some c):rd (l.take (j + 1)) 0=2 * rd (l.take j) 0 + (if c=49 then 1 else 0):=by
 have tk:l.take (j + 1)=l.take j ++ [c]:=by rw [List.take_add_one,q];rfl
 rw [tk,dk_8]
 by_cases hc:c=49
 ·subst hc;rfl
 ·simp [rd,hc]
abbrev Er(Z:D)(n p:Int)(F:List Int)(a4:Sl)(nm:D)(ib s:Int)(w:Nat)(x:Str)(u:D)(a12 a13:Sl):SE:=[.sh Z,.sh (.int n),.sh (.int p),.ow (.lst (F.map .int)),a4,.sh nm,.sh (.int ib),.sh (.int s),.sh (.int n),.sh (.int (w:Int)),.sh (.str x),.sh u,a12,a13]
def cp_2{Z nm u:D}{n p ib s:Int}{w m k:Nat}{x:Str}(h1:1<=w)(hx:x.length=w * m)(hx2:x.length<=100000)(hb:∀c∈x.cps.toList,bit c)(hk:k < m)(a4 a12 a13:Sl):
  ∃b12 b13,q_5 (Er Z n p (Hj x.cps.toList w k) (.sh (.int ((w * k:Nat):Int))) nm ib s w x u a12 a13)=.nx (Er Z n p (Hj x.cps.toList w (k + 1)) (.sh (.int ((w * k:Nat):Int))) nm ib s w x u b12 b13):=by
 have hlt:w * k + w<=x.length:=by
  rw [hx];have:=Nat.mul_le_mul_left w (show k + 1<=m by omega);rw [Nat.mul_succ] at this;exact this
 have sl:=bp_8 x (w * k) (w * k + w) (by omega) hlt;have ew:w * k + w - w * k=w:=by omega
 rw [ew] at sl;generalize hy:Txt.slice x (some ((w * k:Nat):Int)) (some ((w * k + w:Nat):Int))=y at sl;have hyb:∀c∈y.cps.toList,bit c:=λc hc=>by
  rw [sl] at hc;exact hb c (List.mem_of_mem_drop (List.mem_of_mem_take hc))
 obtain⟨Δ2,e2,bo,rfl⟩:=h_3 (gV 13) ab_5 (λj Δ=>∃bo,Δ=Er Z n p (Hj x.cps.toList w k) (.sh (.int ((w * k:Nat):Int))) nm ib s w x u (.sh (.int (rd (y.cps.toList.take j) 0))) bo)
  (ds:=Gd y) (Δ:=Er Z n p (Hj x.cps.toList w k) (.sh (.int ((w * k:Nat):Int))) nm ib s w x u (.sh (.int 0)) a13) ⟨a13,rfl⟩ (λj d Δ hj hI=>by
  obtain⟨bo,rfl⟩:=hI;unfold Gd at hj;rw [List.getElem?_map] at hj;cases q:y.cps.toList[j]? with
  |none=>rw [q] at hj;cases hj
  |some c=>
   rw [q] at hj;cases hj;refine⟨Er Z n p (Hj x.cps.toList w k) (.sh (.int ((w * k:Nat):Int))) nm ib s w x u (.sh (.int (rd (y.cps.toList.take j) 0))) (.sh (.str ⟨#[c]⟩)),rfl,Er Z n p (Hj x.cps.toList w k) (.sh (.int ((w * k:Nat):Int))) nm ib s w x u (.sh (.int (rd (y.cps.toList.take (j + 1)) 0))) (.sh (.str ⟨#[c]⟩)),.inl ?_,_,rfl⟩;rw [dy_0 _ _ _ q]
   simp_arith [ab_5,Am,Do (Es (show(-18446744073709551616:Int) < 2 by decide) (by decide)),ix01 (hyb c (List.mem_of_getElem? q)),Fv,beq_self_eq_true])
 have el:(Gd y).length=y.cps.toList.length:=by unfold Gd;rw [List.length_map]
 rw [el,List.take_length,sl] at e2;have hm:m<=w * m:=Nat.le_mul_of_pos_left m h1;have hl2:((Hj x.cps.toList w k).map D.int).length < 16777216:=by
  unfold Hj;rw [List.length_map,List.length_map,List.length_range];omega
 have e9:((w * k:Nat):Int) + (w:Int)=((w * k + w:Nat):Int):=by omega
 refine⟨.sh (.int (rd ((x.cps.toList.drop (w * k)).take w) 0)),bo, ?_⟩;unfold Er at e2⊢;rw [ba_0,List.map_append]
 simp_arith [q_5,Am,Bu,Fv,e9,av_3,show x.length<=16777216 by omega,hy,e2,Ea,hl2]
def y_1{nm:Str}{ib s:Int}{N w:Nat}{T:List Int}{u:Str}(hN:N<=200)(hk:ib=2\/ib=3)(h1:1<=w)(h2:w<=100)(h3:T.length<=900)(hT:(T.length:Int)=ib * Aw (N:Int) ib)(hb:∀t∈T,0<=t/\t < 2 ^ w):
  t_2 [Dv nm ib s (N:Int) w T u,.int (N:Int)]=.ok (.ow (.lst (T.map .int))):=by
 have hl:(Bd ((T.map λn=>wr w n []).flatten)).length=w * T.length:=by rw [r_7,bh_7]
 have hm:=Nat.mul_le_mul h2 h3;have fu:∀c∈(Bd ((T.map λn=>wr w n []).flatten)).cps.toList,bit c:=by rw [i_9];exact ax_1 w T
 have bu:Hj (Bd ((T.map λn=>wr w n []).flatten)).cps.toList w T.length=T:=by rw [i_9,ba_1 w T hb]
 unfold Dv;generalize Bd ((T.map λn=>wr w n []).flatten)=x at *
 generalize hZ:D.tup [.str nm,.int ib,.int s,.int (N:Int),.int (w:Int),.str x,.str u]=Z;have q1:sUnp (cs_6 [5,6,7,8,9,10,11]) [0] (Ab 0) (Ay 14 [Z,.int (N:Int)])=.nx [.sh Z,.sh (.int (N:Int)),.no,.no,.no,.sh (.str nm),.sh (.int ib),.sh (.int s),.sh (.int (N:Int)),.sh (.int (w:Int)),.sh (.str x),.sh (.str u),.no,.no]:=by
  subst hZ;rfl
 have d8:=s_2 (i:=(N:Int)) (show(0:Int) < 8 by decide) (by decide);have dg:=s_2 (i:=41 * (N:Int)) (show(0:Int) < 100 by decide) (by decide);have m41:Ca (.int 41) (.int (N:Int))=.ok (.sh (.int (41 * (N:Int)))):=Do (Es (by decide) (by decide));have q2:Ag 2 [1,6] (Aj Bn (Ci (Aa (Aj By (Aj By (Ab 1) (Aj Gm (Ab 1) (eC (.int 8)))) (eC (.int 1))) (Aa (Aj By (Aj Gm (Aj Ca (eC (.int 41)) (Ab 1)) (eC (.int 100))) (eC (.int 2))) Ac))) (Aj subD (Ab 6) (eC (.int 2)))) [.sh Z,.sh (.int (N:Int)),.no,.no,.no,.sh (.str nm),.sh (.int ib),.sh (.int s),.sh (.int (N:Int)),.sh (.int (w:Int)),.sh (.str x),.sh (.str u),.no,.no]=
   .nx [.sh Z,.sh (.int (N:Int)),.sh (.int (Aw (N:Int) ib)),.no,.no,.sh (.str nm),.sh (.int ib),.sh (.int s),.sh (.int (N:Int)),.sh (.int (w:Int)),.sh (.str x),.sh (.str u),.no,.no]:=by
  unfold Aw;rcases hk with rfl|rfl
  ·simp_arith [Am,d8,dg,m41,Fv,bg_2]
   rfl
  ·simp_arith [Am,d8,dg,m41,Fv,bg_2]
   rfl
 have mw:Ca (.int (w:Int)) (.int ib)=.ok (.sh (.int ((w:Int) * ib))):=Do (Es (by omega) (by omega));have mp:Ca (.int ((w:Int) * ib)) (.int (Aw (N:Int) ib))=.ok (.sh (.int ((w:Int) * ib * Aw (N:Int) ib))):=by
  refine Do (Es ?_ ?_) <;> rcases hk with rfl|rfl <;> omega
 have ex:(x.length:Int)=(w:Int) * ib * Aw (N:Int) ib:=by rw [hl,Int.natCast_mul,hT,Int.mul_assoc]
 have q3:Bv [1,2,6,8,9,10] (Gj (An (Aj Dg (Ah Bs (Aa (Ab 10) Ac)) (Aj Ca (Aj Ca (Ab 9) (Ab 6)) (Ab 2)))) (An (Aj Dg (Ab 8) (Ab 1)))) (Ao [] (eC .non)) Bf [.sh Z,.sh (.int (N:Int)),.sh (.int (Aw (N:Int) ib)),.no,.no,.sh (.str nm),.sh (.int ib),.sh (.int s),.sh (.int (N:Int)),.sh (.int (w:Int)),.sh (.str x),.sh (.str u),.no,.no]=
   .nx [.sh Z,.sh (.int (N:Int)),.sh (.int (Aw (N:Int) ib)),.no,.no,.sh (.str nm),.sh (.int ib),.sh (.int s),.sh (.int (N:Int)),.sh (.int (w:Int)),.sh (.str x),.sh (.str u),.no,.no]:=by
  simp_arith [Am,ac_5 (show x.length<=16777216 by omega),mw,mp,ex,du_0]
 obtain⟨Δ',e,a4,a12,a13,rfl⟩:=h_3 (gV 4) q_5 (λk Δ=>∃a4 a12 a13,Δ=Er Z (N:Int) (Aw (N:Int) ib) (Hj x.cps.toList w k) a4 (.str nm) ib s w x (.str u) a12 a13)
  (ds:=Gz 0 (w:Int) T.length) (Δ:=Er Z (N:Int) (Aw (N:Int) ib) [] .no (.str nm) ib s w x (.str u) .no .no) ⟨.no,.no,.no,rfl⟩ (λk d Δ hk hI=>by
  obtain⟨a4,a12,a13,rfl⟩:=hI;obtain⟨hkm,rfl⟩:=bf_6 hk;have e0:(0:Int) + (k:Int) * (w:Int)=((w * k:Nat):Int):=by rw [Int.natCast_mul,Int.mul_comm];omega
  rw [e0];obtain⟨b12,b13,g⟩:=cp_2 (Z:=Z) (nm:=.str nm) (u:=.str u) (n:=(N:Int)) (p:=Aw (N:Int) ib) (ib:=ib) (s:=s) h1 hl (by omega) fu hkm a4 a12 a13;exact⟨_,rfl,_,.inl g,_,_,_,rfl⟩)
 rw [bf_7,bu] at e;have hC:C3 0 (x.length:Int) (w:Int):=⟨by omega,by decide,by omega,by omega,by omega⟩;have er:Gs [.int 0,.int (x.length:Int),.int (w:Int)]=.ok (Gz 0 (w:Int) T.length):=by
  have:Gs [.int 0,.int (x.length:Int),.int (w:Int)]=.ok (Gz 0 (w:Int) (Builtin.Range.rangeSize 0 (x.length:Int) (w:Int)).toNat):=if_pos hC;rw [this,hl,dn_8 w T.length h1];rfl
 have q4:Ag 3 [] (Ci Ac) [.sh Z,.sh (.int (N:Int)),.sh (.int (Aw (N:Int) ib)),.no,.no,.sh (.str nm),.sh (.int ib),.sh (.int s),.sh (.int (N:Int)),.sh (.int (w:Int)),.sh (.str x),.sh (.str u),.no,.no]=.nx (Er Z (N:Int) (Aw (N:Int) ib) [] .no (.str nm) ib s w x (.str u) .no .no):=rfl;have q5:Bu [9,10] (Ax Gs (Aa (eC (.int 0)) (Aa (Ah Bs (Aa (Ab 10) Ac)) (Aa (Ab 9) Ac)))) (gV 4) q_5 (Er Z (N:Int) (Aw (N:Int) ib) [] .no (.str nm) ib s w x (.str u) .no .no)=.nx (Er Z (N:Int) (Aw (N:Int) ib) T a4 (.str nm) ib s w x (.str u) a12 a13):=by
  have hi:Ax Gs (Aa (eC (.int 0)) (Aa (Ah Bs (Aa (Ab 10) Ac)) (Aa (Ab 9) Ac))) (Bb (Er Z (N:Int) (Aw (N:Int) ib) [] .no (.str nm) ib s w x (.str u) .no .no))=.ok (Gz 0 (w:Int) T.length):=by
   simp_arith [Am,ac_5 (show x.length<=16777216 by omega),er]
  unfold Bu;rw [hi];exact e
 refine r_4 ?_;unfold az_3;rw [Bl q1,Bl q2,Bl q3,Bl q4,Bl q5];rfl
section
variable{M:D}{ls:List D}{ij:Int}
def ad_4{X:List D}(hf:ij < 2)(hs:∀(fa:FA) (δ:DE),Ab 0 δ=.ok (.sh M)->fa δ=.ok [.lst ls]->Bp "rooms" 1 tbRs (Ab 0) fa δ=.ok (.ow (.lst X))):c_8 [M,.int ij,.lst ls]=.ok (.ow (.lst X)):=by
 have e2:=hs (Aa (Ah ae_7 (Aa (Ab 2) Ac)) Ac) [some M,some (.int ij),some (.lst ls)] rfl rfl;have hlt:ltD (.int ij) (.int 2)=.ok (.sh (.bl true)):=by rw [Ge];simp [hf]
 simp_arith [c_8,v_6,Am,hlt,e2]
def ax_3{f:D->Int}(hl:ls.length<=1000)(hr:∀d∈ls,∀(δ:DE),Ab 0 δ=.ok (.sh M)->(Aa (Ab 3) Ac) δ=.ok [d]->Bp "value" 1 J15 (Ab 0) (Aa (Ab 3) Ac) δ=.ok (.sh (.int (f d)))):c_8 [M,.int 2,.lst ls]=.ok (.ow (.lst (ls.map λd=> .int (f d)))):=by
 have ec:=k_2 (m:=1) (fi:=Db (Ab 2)) (fg:=gC 3) (p:=λ_=> .ok true) (f:=ag_5) (δ:=[some M,some (.int 2),some (.lst ls)]) (ds:=ls) (by simp_arith [Am]) (by omega)
  (p_9 (λd=> .int (f d)) ls λd hd=>⟨[some M,some (.int 2),some (.lst ls),some d],.sh (.int (f d)),rfl,hr d hd _ rfl rfl,rfl⟩)
 have hlt:ltD (.int 2) (.int 2)=.ok (.sh (.bl false)):=by rw [Ge];rfl
 simp_arith [c_8,v_6,Am,hlt,Fq,ec]
def ax_4{f:D->Bool}(hl:ls.length<=1000)(hr:∀d∈ls,∀(δ:DE),Ab 0 δ=.ok (.sh M)->(Aa (Ab 3) Ac) δ=.ok [d]->Bp "knows" 1 J13 (Ab 0) (Aa (Ab 3) Ac) δ=.ok (.sh (.bl (f d)))):c_8 [M,.int 3,.lst ls]=.ok (.ow (.lst (ls.map λd=> .bl (f d)))):=by
 have ec:=k_2 (m:=1) (fi:=Db (Ab 2)) (fg:=gC 3) (p:=λ_=> .ok true) (f:=ag_6) (δ:=[some M,some (.int 3),some (.lst ls)]) (ds:=ls) (by simp_arith [Am]) (by omega)
  (p_9 (λd=> .bl (f d)) ls λd hd=>⟨[some M,some (.int 3),some (.lst ls),some d],.sh (.bl (f d)),rfl,hr d hd _ rfl rfl,rfl⟩)
 have hlt:ltD (.int 3) (.int 2)=.ok (.sh (.bl false)):=by rw [Ge];rfl
 have z:¬((3:Int)=2):=by decide
 simp_arith [c_8,v_6,Am,hlt,Fq,z,ec]
end
def bd_6(T:List Int)(k:Nat):okD (k + 1) (.lst (T.map .int))=true:=by
 show((T.map D.int).all (okD k))=true;rw [List.all_map];exact List.all_eq_true.mpr λ_ _=>by cases k <;> rfl
theorem ci_2{fg:FGc}{f:FE}{δ:DE}:∀(ds rs:List D),ds.length=rs.length->(∀(i:Nat) (d:D),ds[i]? =some d->∃(δ1:DE) (w:W),fg d δ=.ok δ1/\f δ1=.ok w/\rs[i]? =some w.d)->Fh fg (λ_=> .ok true) f δ ds=.ok rs
 | [],rs,hl,_=>by
  cases rs with
  |nil=>rfl
  |cons _ _=>simp at hl
 |d::ds,rs,hl,h=>by
  cases rs with
  |nil=>simp at hl
  |cons r rs=>
   obtain⟨δ1,w,e1,e2,e3⟩:=h 0 d rfl;have ih:=ci_2 ds rs (by simpa using hl) λi d hi=>h (i + 1) d hi;have e4:r=w.d:=Option.some.inj e3;show((fg d δ).bind λ δ1=>(R.ok true).bind λb=>if b=true then(f δ1).bind λw=>(Fh fg (λ_=> .ok true) f δ ds).bind λrs=> .ok (w.d::rs) else Fh fg (λ_=> .ok true) f δ ds)=_;rw [e1];simp only [R.bind_ok,if_true,e2];rw [ih];simp only [R.bind_ok,e4]
def ei_3{op:D->D->R W}{f g:FE}{δ:DE}{a b:W}(h1:f δ=.ok a)(h2:g δ=.ok b):Aj op f g δ=op a.d b.d:=by
 unfold Aj;rw [h1];simp only [R.bind_ok,h2]
section
variable{ks V:List D}{w ib ii ij:Int}
abbrev stM(ks V:List D)(w ib ii ij:Int)(a:Sl):SE:=[.sh (.int ij),.sh (.lst ks),.sh (.lst V),.sh (.int w),.sh (.int ib),.sh (.int ii),a]
def bd_7(h:f_4 (stM ks V w ib ii ij (.sh .non))=.ex xNoTry (stM ks V w ib ii ij (.sh .non))):s_4 [.int ij,.lst ks,.lst V,.int w,.int ib,.int ii]=.ok (.sh .non):=by
 have t1:Ag 6 [] (eC .non) (Ay 7 [.int ij,.lst ks,.lst V,.int w,.int ib,.int ii])=.nx (stM ks V w ib ii ij (.sh .non)):=rfl;have l1:(L96:List (Str×Bool)).lookup xNoTry.c=some true:=by decide +kernel
 have t2:bg_4 f_4 [⟨none, L96,af_3⟩] (stM ks V w ib ii ij (.sh .non))=.nx (stM ks V w ib ii ij (.sh .non)):=by
  unfold bg_4;simp only [h,tryH,l1,hdGo];rfl
 refine r_4 ?_;unfold aq_1;rw [Bl t1,Bl t2];rfl
def at_8{M:D}(h:f_4 (stM ks V w ib ii ij (.sh .non))=.nx (stM ks V w ib ii ij (.sh M))):s_4 [.int ij,.lst ks,.lst V,.int w,.int ib,.int ii]=.ok (.sh M):=by
 have t1:Ag 6 [] (eC .non) (Ay 7 [.int ij,.lst ks,.lst V,.int w,.int ib,.int ii])=.nx (stM ks V w ib ii ij (.sh .non)):=rfl;have t2:bg_4 f_4 [⟨none, L96,af_3⟩] (stM ks V w ib ii ij (.sh .non))=.nx (stM ks V w ib ii ij (.sh M)):=by
  unfold bg_4;simp only [h]
 refine r_4 ?_;unfold aq_1;rw [Bl t1,Bl t2];rfl
end
def wOk(i:Nat):Bool:=match n_0 [.int (i:Int)] with
 | .ok (.sh (.int z))=>decide (1<=z.toNat/\z.toNat<=6/\i<=2 ^ z.toNat/\(z.toNat:Int)=z)
 |_=>false
def cu_8(n:Nat)(h1:1<=n)(h2:n<=40):∃w:Nat,1<=w/\w<=6/\n<=2 ^ w/\n_0 [.int (n:Int)]=.ok (.sh (.int (w:Int))):=by
 have h:wOk (n - 1 + 1)=true:=List.all_eq_true.mp (show((List.range 40).all λi=>wOk (i + 1))=true by rfl') (n - 1) (List.mem_range.mpr (by omega));rw [Nat.sub_add_cancel h1] at h;unfold wOk at h
 split at h
 ·rename_i z e;obtain⟨a,b,c,d⟩:=of_decide_eq_true h;exact⟨_,a,b,c,by rw [e,d]⟩
 ·cases h
def at_9{s ib ig m:Int}{T:List Int}(s0:0<=s)(s1:s<=1000000000000)(hk:ib=2\/ib=3)(p0:0 < ig)(p1:ig<=2000)(hm:0 < m)(hT:(T.length:Int)=ib * ig){d:D}(hd:isKey d):
  i_2 [d,.int s,.int ib,.int ig]=.ok (.sh (eT (Dk d s ib ig)))/\c_6 [Br s ib ig m T,d]=.ok (.sh (.int (Df T (Dk d s ib ig) % m)))/\(∀p∈Dk d s ib ig,p < T.length):=by
 obtain⟨q1,_⟩:=bq_8 hd s ib ig s0 s1 hk p0 p1;rw [bh_5 d s ib ig p0] at q1;have hb:∀p∈Dk d s ib ig,p < T.length:=λp hp=>by
  have:=af_6 d s ib ig p0 (by omega) p hp;omega
 exact⟨q1,db_0 hm q1 hb (by rw [aa_7];omega),hb⟩
def bd_8{N:Nat}(h:N<=40){ib:Int}(hk:ib=2\/ib=3):Aw (N:Int) ib<=50:=by
 unfold Aw;rcases hk with rfl|rfl
 ·rw [if_pos (by decide)];omega
 ·rw [if_neg (by decide)];omega
def dn_9{d:D}{ks:List D}(hd:isKey d)(hk:∀k∈ks,isKey k):inD true d (.lst ks)=.ok (.sh (.bl (!Ct d ks))):=by
 unfold inD;simp only [hd.flat,cg_5 hk,Bool.and_true,if_true,Bool.false_eq_true,if_false]
def Goes(ks V ss:List D)(w:Nat)(ib ii ij:Int):Prop:=s_4 [.int ij,.lst ks,.lst V,.int (w:Int),.int ib,.int ii]=.ok (.sh .non)\/
 ∃(c c':Str) (ns ns':List Str) (vs vs' zs A B:List D) (T:List Int) (due:D),s_4 [.int ij,.lst ks,.lst V,.int (w:Int),.int ib,.int ii]=.ok (.sh (.obj c ns vs))/\c_8 [.obj c ns vs,.int ij,.lst ks]=.ok (.ow (.lst A))/\v_1 [.int ij,.lst ks,.lst V]=.ok (.sh due)/\
  (due=.non/\bg_5 [.lst A]=.ok (.ow (.lst ((Dh 0 ks.length).map .int)))\/due=.lst A/\Dg (.lst A) (.lst A)=.ok (.sh (.bl false)))/\d_4 [.obj c ns vs]=.ok (.sh (.tup zs))/\t_2 [.tup zs,.int (ks.length:Int)]=.ok (.ow (.lst (T.map .int)))/\
  (∀(fo:FE) (δ:DE),fo δ=.ok (.sh (.obj c ns vs))->Bp "table" 0 tbT fo Ac δ=.ok (.ow (.lst (T.map .int))))/\g_5 [.tup zs]=.ok (.sh (.obj c' ns' vs'))/\d_4 [.obj c' ns' vs']=.ok (.sh (.tup zs))/\
  c_8 [.obj c ns vs,.int ij,.lst (ks ++ ss)]=.ok (.ow (.lst B))/\c_8 [.obj c' ns' vs',.int ij,.lst (ks ++ ss)]=.ok (.ow (.lst B))/\Dg (.lst B) (.lst B)=.ok (.sh (.bl false))/\Dg (.tup zs) (.tup zs)=.ok (.sh (.bl false))
def by_3{ks V:List D}(hn:ks.length<=1000)(ij:Nat){r:D}(h: [D.non,.lst (Cc 0 ks.length),.lst V,.lst (List.replicate ks.length (.bl true))][ij]? =some r):v_1 [.int (ij:Int),.lst ks,.lst V]=.ok (.sh r):=by
 have er:=m_0 (show(-4611686018427387903:Int)<=(ks.length:Int) by omega) (by omega);rw [Int.toNat_natCast] at er;have e1:Gw Co (Aa (Ah Bs (Aa (Ab 1) Ac)) Ac) [some (.int (ij:Int)),some (.lst ks),some (.lst V)]=.ok (.ow (.lst (Cc 0 ks.length))):=by
  unfold Gw
  simp_arith [Am,Hl,er,m_3,show ks.length<=16777216 by omega]
 have e2:eRep (Aa (eC (.bl true)) Ac) (Ah Bs (Aa (Ab 1) Ac)) [some (.int (ij:Int)),some (.lst ks),some (.lst V)]=.ok (.ow (.lst (List.replicate ks.length (.bl true)))):=by
  unfold eRep;have hr:repD [.bl true] (.int (ks.length:Int))=.ok (.ow (.lst (List.replicate ks.length (.bl true)))):=by
   have fl:∀n:Nat,(List.replicate n [D.bl true]).flatten=List.replicate n (D.bl true):=λn=>by
    induction n with
    |zero=>rfl
    |succ n ih=>rw [List.replicate_succ,List.flatten_cons,ih,List.replicate_succ];rfl
   unfold repD;simp only [List.length_cons,List.length_nil];rw [if_pos ⟨by omega,by omega⟩,Int.toNat_natCast,fl]
  simp_arith [Am,Hl,hr]
 have hx:=aw_2 (Fx h)
 simp_arith [v_1,bq_4,Am,e1,e2,hx]
def ifF(js:List Nat)(p:FT)(g:FS)(Δ:SE)(e:p (Ar Δ)=.ok false):Bv js p g Bf Δ=.nx Δ:=by
 unfold Bv;rw [e];simp only [Bool.false_eq_true,if_false];rfl
def anT{p q:FT}{δ:DE}(h:p δ=.ok true)(h2:q δ=.ok false):Ez p q δ=.ok false:=by
 unfold Ez;rw [h];simp only [R.bind_ok,if_true];exact h2
def neF{f g:FE}{δ:DE}{a b:W}(h1:f δ=.ok a)(h2:g δ=.ok b)(h:Dg a.d b.d=.ok (.sh (.bl false))):An (Aj Dg f g) δ=.ok false:=by
 unfold An;rw [ei_3 h1 h2,h];rfl
def do_0{ks V ss zs A B vs vs':List D}{ns ns':List Str}{c c':Str}{ij:Int}{T:List Int}{due:D}(hn:ks.length<=1000)(hs:ss.length<=1000)(a:c_8 [.obj c ns vs,.int ij,.lst ks]=.ok (.ow (.lst A)))(d:v_1 [.int ij,.lst ks,.lst V]=.ok (.sh due))
  (hd:due=.non/\bg_5 [.lst A]=.ok (.ow (.lst ((Dh 0 ks.length).map .int)))\/due=.lst A/\Dg (.lst A) (.lst A)=.ok (.sh (.bl false))) (t:d_4 [.obj c ns vs]=.ok (.sh (.tup zs))) (lt:t_2 [.tup zs,.int (ks.length:Int)]=.ok (.ow (.lst (T.map .int))))
  (tb:∀(fo:FE) (δ:DE),fo δ=.ok (.sh (.obj c ns vs))->Bp "table" 0 tbT fo Ac δ=.ok (.ow (.lst (T.map .int)))) (m:g_5 [.tup zs]=.ok (.sh (.obj c' ns' vs'))) (t':d_4 [.obj c' ns' vs']=.ok (.sh (.tup zs)))
  (b:c_8 [.obj c ns vs,.int ij,.lst (ks ++ ss)]=.ok (.ow (.lst B))) (b':c_8 [.obj c' ns' vs',.int ij,.lst (ks ++ ss)]=.ok (.ow (.lst B))) (nb:Dg (.lst B) (.lst B)=.ok (.sh (.bl false))) (nz:Dg (.tup zs) (.tup zs)=.ok (.sh (.bl false))):
  aa_4 [.obj c ns vs,.int ij,.lst ks,.lst V,.lst ss]=.ok (.sh (.bl true)):=by
 have hc:By (.lst ks) (.lst ss)=.ok (.ow (.lst (ks ++ ss))):=if_pos (by omega);have nT:Dg (.lst (T.map .int)) (.lst (T.map .int))=.ok (.sh (.bl false)):=r_1 1 (bd_6 T 0);have nR:Dg (.lst ((Dh 0 ks.length).map .int)) (.lst ((Dh 0 ks.length).map .int))=.ok (.sh (.bl false)):=r_1 1 (bd_6 _ 0);have er:=m_0 (show(-4611686018427387903:Int)<=(ks.length:Int) by omega) (by omega);rw [Int.toNat_natCast,<-dz_7] at er;generalize hM:D.obj c ns vs=M at *
 generalize hM':D.obj c' ns' vs'=M' at *
 have hl:(Dh 0 ks.length).length<=16777216:=by unfold Dh;rw [List.length_map,List.length_range];omega
 refine r_4 ?_;unfold az_6;refine(Bl (by simp_arith [an_3,Am,a];rfl)).trans ?_;refine(Bl (by simp_arith [an_4,Am,d];rfl)).trans ?_;refine(Bl (ifF _ _ _ _ (by rcases hd with⟨rfl,hd⟩|⟨rfl,hd⟩ <;> simp_arith [Am,hd,Gw,Hl,er,List.length_map,hl,nR]))).trans ?_;refine(Bl (by simp_arith [an_5,Am,t];rfl)).trans ?_;refine(Bl (ifF _ _ _ _ (neF (a:=.ow (.lst (T.map .int))) (b:=.ow (.lst (T.map .int))) (by simp_arith [Am,Hl,lt]) (tb (Ab 0) _ rfl) nT))).trans ?_;refine(Bl (by simp_arith [an_6,Am,m];rfl)).trans ?_;refine(Bl (by simp_arith [an_7,Am,t',m];rfl)).trans ?_;refine(Bl (by simp_arith [an_8,Am,hc];rfl)).trans ?_;have b1:∀Δ:SE,Δ= [.sh M,.sh (.int ij),.sh (.lst ks),.sh (.lst V),.sh (.lst ss),.ow (.lst A),.sh due,.sh (.tup zs),.sh M',.sh M',.ow (.lst (ks ++ ss)),.sh M']->ab_7 Δ=.nx Δ:=λ Δ e=>by
  subst e
  simp_arith [ab_7,Am,t',nz,b,b',nb]
 refine(Bl (Δ':=[.sh M,.sh (.int ij),.sh (.lst ks),.sh (.lst V),.sh (.lst ss),.ow (.lst A),.sh due,.sh (.tup zs),.sh M',.sh M',.ow (.lst (ks ++ ss)),.sh M']) ?_).trans rfl;unfold an_9 Bu;rw [show Db (Ci (Aa (Ab 8) (Aa (Ab 9) Ac))) (Bb [.sh M,.sh (.int ij),.sh (.lst ks),.sh (.lst V),.sh (.lst ss),.ow (.lst A),.sh due,.sh (.tup zs),.sh M',.sh M',.ow (.lst (ks ++ ss)),.no])=.ok [M',M'] from by simp_arith [Am]];simp only [Fc,gV,List.set_cons_succ,List.set_cons_zero,b1 _ rfl]
def by_4(ks rs:List D)(f:D->D)(hl:ks.length=rs.length)(h:∀(i:Nat) (d:D),ks[i]? =some d->rs[i]? =some (f d)):ks.map f=rs:=by
 apply List.ext_getElem?;intro i;rw [List.getElem?_map];cases e:ks[i]? with
 |none=>rw [List.getElem?_eq_none_iff] at e;rw [List.getElem?_eq_none (by omega)];rfl
 |some d=>rw [h i d e];rfl
def cp_3{n i:Nat}(h:i < n):(Cc 0 n)[i]? =some (.int (i:Int)):=by
 unfold Cc;rw [List.getElem?_map,List.getElem?_range h];simp
def cp_4(l:List D)(f:D->Int):okD 1 (.lst (l.map λd=>D.int (f d)))=true:=by
 show((l.map λd=>D.int (f d)).all (okD 0))=true;rw [List.all_map];exact List.all_eq_true.mpr λ_ _=>rfl
def cu_9(l:List D)(f:D->Bool):okD 1 (.lst (l.map λd=>D.bl (f d)))=true:=by
 show((l.map λd=>D.bl (f d)).all (okD 0))=true;rw [List.all_map];exact List.all_eq_true.mpr λ_ _=>rfl
def en_7{ks:List D}{ib ii:Int}(h:Ks ks 0 ib)(hn:ks.length<=40)(hm0:1<=ii)(hm1:ii<=100)(w:Nat){V ss:List D}(hss:∀d∈ss,isKey d)(hsl:ss.length<=100):Goes ks V ss w ib ii 1:=by
 have h1:=h.h1;have hls:∀d∈ks ++ ss,isKey d:=λd hd=>by
  rcases List.mem_append.mp hd with hd|hd
  ·exact h.k d hd
  ·exact hss d hd
 have hll:(ks ++ ss).length<=1000:=by rw [List.length_append];omega
 have z:¬((1:Int)=0):=by decide
 have hkd:2<=ib/\ib<=3:=by rcases h.kd with z|z <;> omega
 obtain⟨p1,_,p3,p4⟩:=r_8 (ks.length:Int) ib (by omega) (by omega) h.kd;have hle:ib * Aw (ks.length:Int) ib<=3 * 50:=Int.mul_le_mul hkd.2 (bd_8 hn h.kd) (by omega) (by omega);obtain⟨w2,b1,b2,b3,b4⟩:=cu_8 ks.length h1 hn;have b3:(ks.length:Int)<=2 ^ w2:=by have:((ks.length:Nat):Int)<=((2 ^ w2:Nat):Int):=Int.ofNat_le.mpr b3;rw [Int.natCast_pow] at this;exact this
 rcases at_3 h ii (by omega) (by omega) with⟨e,_⟩|⟨s,hs,e,e2,_⟩
 ·refine .inl (bd_7 ?_)
  simp_arith [f_4,Am,Fq,z,Fb,eh_1 e,exG]
 ·obtain⟨T,t1,t2,t3,e⟩:=dn_1 h (by omega) e e2;have tb:∀t∈T,0<=t/\t < 2 ^ w2:=λt ht=>by have:=t2 t ht;omega
  have hh:=cp_1 (n:=(ks.length:Int)) (s:=(s:Int)) (ib:=ib) (ig:=(Aw (ks.length:Int) ib)) (m:=(ks.length:Int)) (T:=T);have hh':=bb_9 (n:=(ks.length:Int)) (s:=(s:Int)) (ib:=ib) (ig:=(Aw (ks.length:Int) ib)) (m:=(ks.length:Int)) (T:=T);have ar:=λd (hd:isKey d)=>at_9 (s:=(s:Int)) (m:=(ks.length:Int)) (by omega) (by omega) h.kd p3 p4 (by omega) t1 hd;have r1:=λd (hd:isKey d)=>at_7 hh ((Fe rfl (by rfl') (by rfl') (Ab 0) _ _ [d] rfl rfl rfl).trans (ba_2 hh (ar d hd).2.1));have r2:=λd (hd:isKey d)=>at_7 hh' ((Fe rfl (by rfl') (by rfl') (Ab 0) _ _ [d] rfl rfl rfl).trans (ba_2 hh' (ar d hd).2.1));have a0:=ad_4 (M:=ordO (ks.length:Int) (Br (s:Int) ib (Aw (ks.length:Int) ib) (ks.length:Int) T)) (ls:=ks) (ij:=1) (by decide) (λfa δ g1 g2=>(Fe rfl (by rfl') (by rfl') (Ab 0) fa δ [.lst ks] g1 g2 rfl).trans (y_4 h.k (by omega) λd hd=>(Fe rfl (by rfl') (by rfl') (Ab 0) _ _ [d] rfl rfl rfl).trans (r1 d hd)));have a1:=ad_4 (M:=ordO (ks.length:Int) (Br (s:Int) ib (Aw (ks.length:Int) ib) (ks.length:Int) T)) (ls:=ks ++ ss) (ij:=1) (by decide) (λfa δ g1 g2=>(Fe rfl (by rfl') (by rfl') (Ab 0) fa δ [.lst (ks ++ ss)] g1 g2 rfl).trans (y_4 hls (by omega) λd hd=>(Fe rfl (by rfl') (by rfl') (Ab 0) _ _ [d] rfl rfl rfl).trans (r1 d hd)));have a2:=ad_4 (M:=oaO (ks.length:Int) (Br (s:Int) ib (Aw (ks.length:Int) ib) (ks.length:Int) T)) (ls:=ks ++ ss) (ij:=1) (by decide) (λfa δ g1 g2=>(Fe rfl (by rfl') (by rfl') (Ab 0) fa δ [.lst (ks ++ ss)] g1 g2 rfl).trans (y_4 hls (by omega) λd hd=>(Fe rfl (by rfl') (by rfl') (Ab 0) _ _ [d] rfl rfl rfl).trans (r2 d hd)));have hA:(ks.map λd=>D.int (min (Df T (Dk d (s:Int) ib (Aw (ks.length:Int) ib)) % (ks.length:Int)) ((ks.length:Int) - 1)))=Cc 0 ks.length:=by
   refine by_4 ks _ _ (by rw [m_3]) λi d hd=> ?_;have hi:=(List.getElem?_eq_some_iff.mp hd).1;rw [t3 i d hd,cp_3 hi,show min ((i:Nat):Int) ((ks.length:Int) - 1)=(i:Int) by omega]
  rw [hA] at a0;have nA:Dg (.lst (Cc 0 ks.length)) (.lst (Cc 0 ks.length))=.ok (.sh (.bl false)):=by rw [<-dz_7];exact r_1 1 (bd_6 _ 0)
  refine .inr ⟨"Ordered","OrderedAgain",_,_,_,_,_,_,_,T,_,at_8 ?_,a0,by_3 (by omega) 1 rfl,.inr ⟨rfl,nA⟩,bi_3 hh (by rfl') (by rfl') b4 (aa_8 hh "ordered" "" w2 (by omega) (by omega) tb),y_1 (by omega) h.kd b1 (by omega) (by omega) t1 tb,hh.tab,ei_0 (by omega) h.kd b1 (by omega) (by omega) tb,bi_3 hh' (by rfl') (by rfl') b4 (aa_8 hh' "ordered" "" w2 (by omega) (by omega) tb),a1,a2,r_1 1 ?_,by_0 _ _ _ _ _ _ _ (by decide +kernel) (by decide +kernel)⟩
  ·simp_arith [f_4,Am,Fq,z,Fb,e]
  ·exact cp_4 (ks ++ ss) _
def en_8{ks:List D}{ib ii:Int}(h:Ks ks 0 ib)(hn:ks.length<=40)(hm0:1<=ii)(hm1:ii<=100)(w:Nat)(hw0:1<=w)(hw:w<=100){vs:List Int}(hl:vs.length=ks.length)(hb:∀v∈vs,0<=v/\v < 2 ^ w){ss:List D}(hss:∀d∈ss,isKey d)(hsl:ss.length<=100):Goes ks (vs.map .int) ss w ib ii 2:=by
 have h1:=h.h1;have hls:∀d∈ks ++ ss,isKey d:=λd hd=>by
  rcases List.mem_append.mp hd with hd|hd
  ·exact h.k d hd
  ·exact hss d hd
 have hll:(ks ++ ss).length<=1000:=by rw [List.length_append];omega
 have pos:(0:Int) < 2 ^ w:=Int.pow_pos (by decide);have z:¬((2:Int)=0):=by decide
 have z1:¬((2:Int)=1):=by decide
 have hkd:2<=ib/\ib<=3:=by rcases h.kd with z|z <;> omega
 obtain⟨p1,_,p3,p4⟩:=r_8 (ks.length:Int) ib (by omega) (by omega) h.kd;have hle:ib * Aw (ks.length:Int) ib<=3 * 50:=Int.mul_le_mul hkd.2 (bd_8 hn h.kd) (by omega) (by omega);rcases at_3 h ii (by omega) (by omega) with⟨e,_⟩|⟨s,hs,e,e2,_⟩
 ·refine .inl (bd_7 ?_)
  simp_arith [f_4,Am,Fq,z,z1,Fb,dx_7 h w hw hl hb e,exG]
 ·obtain⟨T,t1,tb,t3,e⟩:=db_2 h w hw hl hb (by omega) e e2;have hh:=dx_8 (n:=(ks.length:Int)) (s:=(s:Int)) (ib:=ib) (ig:=(Aw (ks.length:Int) ib)) (m:=(2 ^ w)) (T:=T) (w:=(w:Int));have hh':=bx_9 (n:=(ks.length:Int)) (s:=(s:Int)) (ib:=ib) (ig:=(Aw (ks.length:Int) ib)) (m:=(2 ^ w)) (T:=T) (w:=(w:Int));have ar:=λd (hd:isKey d)=>at_9 (s:=(s:Int)) (m:=2 ^ w) (by omega) (by omega) h.kd p3 p4 pos t1 hd;have r1:=λd (hd:isKey d)=>ci_0 hh (ar d hd).2.1;have r2:=λd (hd:isKey d)=>ci_0 hh' (ar d hd).2.1;have a0:=ax_3 (M:=kptO (ks.length:Int) (w:Int) (Br (s:Int) ib (Aw (ks.length:Int) ib) (2 ^ w) T)) (ls:=ks) (by omega) (λd hd δ g1 g2=>(Fe rfl (by rfl') (by rfl') (Ab 0) (Aa (Ab 3) Ac) δ [d] g1 g2 rfl).trans (r1 d (h.k d hd)));have a1:=ax_3 (M:=kptO (ks.length:Int) (w:Int) (Br (s:Int) ib (Aw (ks.length:Int) ib) (2 ^ w) T)) (ls:=ks ++ ss) hll (λd hd δ g1 g2=>(Fe rfl (by rfl') (by rfl') (Ab 0) (Aa (Ab 3) Ac) δ [d] g1 g2 rfl).trans (r1 d (hls d hd)));have a2:=ax_3 (M:=kaO (ks.length:Int) (w:Int) (Br (s:Int) ib (Aw (ks.length:Int) ib) (2 ^ w) T)) (ls:=ks ++ ss) hll (λd hd δ g1 g2=>(Fe rfl (by rfl') (by rfl') (Ab 0) (Aa (Ab 3) Ac) δ [d] g1 g2 rfl).trans (r2 d (hls d hd)));have hA:(ks.map λd=>D.int (Df T (Dk d (s:Int) ib (Aw (ks.length:Int) ib)) % 2 ^ w))=vs.map .int:=by
   refine by_4 ks _ _ (by rw [List.length_map,hl]) λi d hd=> ?_;have hi:=(List.getElem?_eq_some_iff.mp hd).1;rw [t3 i d hd,List.getElem?_map,List.getD_eq_getElem?_getD,List.getElem?_eq_getElem (by omega:i < vs.length)];rfl
  rw [hA] at a0;refine .inr ⟨"Kept","KeptAgain",_,_,_,_,_,_,_,T,_,at_8 ?_,a0,by_3 (by omega) 2 rfl,.inr ⟨rfl,r_1 1 (bd_6 vs 0)⟩,cu_5 (by rfl') (by rfl') (by rfl') (by rfl') (aa_8 hh "kept" "" w (by omega) (by omega) tb),y_1 (by omega) h.kd hw0 hw (by omega) t1 tb,hh.tab,ei_1 (by omega) h.kd hw0 hw (by omega) tb,cu_5 (by rfl') (by rfl') (by rfl') (by rfl') (aa_8 hh' "kept" "" w (by omega) (by omega) tb),a1,a2,r_1 1 ?_,by_0 _ _ _ _ _ _ _ (by decide +kernel) (by decide +kernel)⟩
  ·simp_arith [f_4,Am,Fq,z,z1,Fb,e]
  ·exact cp_4 (ks ++ ss) _
def en_9{ks:List D}{ib ii:Int}(h:Ks ks 0 ib)(hn:ks.length<=40)(hm0:1<=ii)(hm1:ii<=100)(w:Nat)(hw0:1<=w)(hw:w<=100){V ss:List D}(hss:∀d∈ss,isKey d)(hsl:ss.length<=100):Goes ks V ss w ib ii 3:=by
 have h1:=h.h1;have hls:∀d∈ks ++ ss,isKey d:=λd hd=>by
  rcases List.mem_append.mp hd with hd|hd
  ·exact h.k d hd
  ·exact hss d hd
 have hll:(ks ++ ss).length<=1000:=by rw [List.length_append];omega
 have pos:(0:Int) < 2 ^ w:=Int.pow_pos (by decide);have z:¬((3:Int)=0):=by decide
 have z1:¬((3:Int)=1):=by decide
 have z2:¬((3:Int)=2):=by decide
 have hkd:2<=ib/\ib<=3:=by rcases h.kd with z|z <;> omega
 obtain⟨p1,_,p3,p4⟩:=r_8 (ks.length:Int) ib (by omega) (by omega) h.kd;have hle:ib * Aw (ks.length:Int) ib<=3 * 50:=Int.mul_le_mul hkd.2 (bd_8 hn h.kd) (by omega) (by omega);rcases at_3 h ii (by omega) (by omega) with⟨e,_⟩|⟨s,hs,e,e2,_⟩
 ·refine .inl (bd_7 ?_)
  simp_arith [f_4,Am,Fq,z,z1,z2,Fb,db_3 w e,exG]
 ·obtain⟨T,t1,tb,t3,e⟩:=ch_8 h w hw (by omega) e e2;have hh:=db_5 (n:=(ks.length:Int)) (s:=(s:Int)) (ib:=ib) (ig:=(Aw (ks.length:Int) ib)) (m:=(2 ^ w)) (T:=T) (w:=(w:Int));have hh':=bi_2 (n:=(ks.length:Int)) (s:=(s:Int)) (ib:=ib) (ig:=(Aw (ks.length:Int) ib)) (m:=(2 ^ w)) (T:=T) (w:=(w:Int));have ar:=λd (hd:isKey d)=>at_9 (s:=(s:Int)) (m:=2 ^ w) (by omega) (by omega) h.kd p3 p4 pos t1 hd;have r1:=λd (hd:isKey d)=>bi_4 hh (by rfl') (ar d hd).2.1 (bx_8 hd w hw);have r2:=λd (hd:isKey d)=>bi_4 hh' (by rfl') (ar d hd).2.1 (bx_8 hd w hw);have a0:=ax_4 (M:=mrkO (ks.length:Int) (w:Int) (Br (s:Int) ib (Aw (ks.length:Int) ib) (2 ^ w) T)) (ls:=ks) (by omega) (λd hd δ g1 g2=>(Fe rfl (by rfl') (by rfl') (Ab 0) (Aa (Ab 3) Ac) δ [d] g1 g2 rfl).trans (r1 d (h.k d hd)));have a1:=ax_4 (M:=mrkO (ks.length:Int) (w:Int) (Br (s:Int) ib (Aw (ks.length:Int) ib) (2 ^ w) T)) (ls:=ks ++ ss) hll (λd hd δ g1 g2=>(Fe rfl (by rfl') (by rfl') (Ab 0) (Aa (Ab 3) Ac) δ [d] g1 g2 rfl).trans (r1 d (hls d hd)));have a2:=ax_4 (M:=maO (ks.length:Int) (w:Int) (Br (s:Int) ib (Aw (ks.length:Int) ib) (2 ^ w) T)) (ls:=ks ++ ss) hll (λd hd δ g1 g2=>(Fe rfl (by rfl') (by rfl') (Ab 0) (Aa (Ab 3) Ac) δ [d] g1 g2 rfl).trans (r2 d (hls d hd)));have hA:(ks.map λd=>D.bl (decide (Df T (Dk d (s:Int) ib (Aw (ks.length:Int) ib)) % 2 ^ w=z_3 (p_3 d) 3 (2 ^ w))))=List.replicate ks.length (.bl true):=by
   refine by_4 ks _ _ (by rw [List.length_replicate]) λi d hd=> ?_;have hi:=(List.getElem?_eq_some_iff.mp hd).1;rw [t3 i d hd,List.getElem?_replicate,if_pos hi];simp
  rw [hA] at a0;have nA:Dg (.lst (List.replicate ks.length (.bl true))) (.lst (List.replicate ks.length (.bl true)))=.ok (.sh (.bl false)):=by rw [<-hA];exact r_1 1 (cu_9 ks _)
  refine .inr ⟨"Marked","MarkedAgain",_,_,_,_,_,_,_,T,_,at_8 ?_,a0,by_3 (by omega) 3 rfl,.inr ⟨rfl,nA⟩,bs_0 (by rfl') (by rfl') (by rfl') (by rfl') (by rfl') (aa_8 hh "marked" "" w (by omega) (by omega) tb),y_1 (by omega) h.kd hw0 hw (by omega) t1 tb,hh.tab,ei_2 (by omega) h.kd hw0 hw (by omega) tb,bs_0 (by rfl') (by rfl') (by rfl') (by rfl') (by rfl') (aa_8 hh' "marked" "" w (by omega) (by omega) tb),a1,a2,r_1 1 ?_,by_0 _ _ _ _ _ _ _ (by decide +kernel) (by decide +kernel)⟩
  ·simp_arith [f_4,Am,Fq,z,z1,z2,Fb,e]
  ·exact cu_9 (ks ++ ss) _
def eo_0{ks:List D}{ib ii:Int}(h:Ks ks 0 ib)(hn:ks.length<=40)(hm0:1<=ii)(hm1:ii<=100)(w:Nat){V ss:List D}(hss:∀d∈ss,isKey d)(hsl:ss.length<=100):Goes ks V ss w ib ii 0:=by
 have h1:=h.h1;have hls:∀d∈ks ++ ss,isKey d:=λd hd=>by
  rcases List.mem_append.mp hd with hd|hd
  ·exact h.k d hd
  ·exact hss d hd
 have hll:(ks ++ ss).length<=1000:=by rw [List.length_append];omega
 have hkd:2<=ib/\ib<=3:=by rcases h.kd with z|z <;> omega
 obtain⟨p1,_,p3,p4⟩:=r_8 (ks.length:Int) ib (by omega) (by omega) h.kd;have hle:ib * Aw (ks.length:Int) ib<=3 * 50:=Int.mul_le_mul hkd.2 (bd_8 hn h.kd) (by omega) (by omega);obtain⟨w1,b1,b2,b3,b4⟩:=cu_8 ib.toNat (by omega) (by omega);rw [show((ib.toNat:Nat):Int)=ib by omega] at b4;have b3:ib<=2 ^ w1:=by have:((ib.toNat:Nat):Int)<=((2 ^ w1:Nat):Int):=Int.ofNat_le.mpr b3;rw [Int.natCast_pow] at this;simpa [show((ib.toNat:Nat):Int)=ib by omega] using this
 rcases at_3 h ii (by omega) (by omega) with⟨e,_⟩|⟨s,hs,e,e2,_⟩
 ·refine .inl (bd_7 ?_)
  simp_arith [f_4,Am,Fq,Fb,eh_0 e,exG]
 ·obtain⟨C,T,ik,hp,e⟩:=dn_0 h (by omega) e e2;have t1:(T.length:Int)=ib * Aw (ks.length:Int) ib:=by rw [hp.tl];exact hp.sz
  have tb:∀t∈T,0<=t/\t < 2 ^ w1:=λt ht=>by have:=hp.tb t ht;omega
  have hz:=hp.z;have ub:∀c∈Ex C ik,bit c:=λc hc=>by
   unfold Ex at hc;obtain⟨i,_,rfl⟩:=List.mem_map.mp hc
   by_cases q:i∈C
   ·rw [if_pos q];exact .inr rfl
   ·rw [if_neg q];exact .inl rfl
  have hh:=db_4 (n:=(ks.length:Int)) (s:=(s:Int)) (ib:=ib) (ig:=(Aw (ks.length:Int) ib)) (m:=ib) (T:=T) (u:=Bd (Ex C ik));have hh':=bi_1 (n:=(ks.length:Int)) (s:=(s:Int)) (ib:=ib) (ig:=(Aw (ks.length:Int) ib)) (m:=ib) (T:=T) (u:=Bd (Ex C ik));have ar:=λd (hd:isKey d)=>at_9 (s:=(s:Int)) (m:=ib) (by omega) (by omega) h.kd p3 p4 (by omega) t1 hd;have on:=λd=>dn_5 (U:=Ex C ik) (p:=choC (s:Int) ib (Aw (ks.length:Int) ib) T d) (by rw [ch_6];omega) (by rw [ch_6];have:=hp.lt d;omega);have rr:∀d,isKey d->b_5 [pelO (ks.length:Int) (Br (s:Int) ib (Aw (ks.length:Int) ib) ib T) (Bd (Ex C ik)),d]=.ok (.sh (.int (rmP C (s:Int) ib (Aw (ks.length:Int) ib) T d)))/\b_5 [paO (ks.length:Int) (Br (s:Int) ib (Aw (ks.length:Int) ib) ib T) (Bd (Ex C ik)),d]=.ok (.sh (.int (rmP C (s:Int) ib (Aw (ks.length:Int) ib) T d))):=λd hd=>by
   obtain⟨f1,f2,f3⟩:=ar d hd;have ht:=hp.tell d;have hat:=hp.at_ d;have o:=on d;rw [dm_9 C (by have:=hp.lt d;omega),br_7 hp.nd] at o;have er:rmP C (s:Int) ib (Aw (ks.length:Int) ib) T d=min ((rk C (choC (s:Int) ib (Aw (ks.length:Int) ib) T d):Nat):Int) ((ks.length:Int) - 1):=by unfold rmP;rw [hp.len]
   rw [er];generalize choC (s:Int) ib (Aw (ks.length:Int) ib) T d=p at *
   generalize Df T (Dk d (s:Int) ib (Aw (ks.length:Int) ib)) % ib=j at *
   rw [show j=((j.toNat:Nat):Int) by omega] at f2;exact⟨at_7 hh ((Fe rfl (by rfl') (by rfl') (Ab 0) _ _ [d] rfl rfl rfl).trans (bi_5 hh ((Fe rfl (by rfl') (by rfl') (Ab 0) _ _ [d] rfl rfl rfl).trans (bi_0 hh.own f1)) (λ_=>by rfl') f2 hat o)),at_7 hh' ((Fe rfl (by rfl') (by rfl') (Ab 0) _ _ [d] rfl rfl rfl).trans (bi_5 hh' ((Fe rfl (by rfl') (by rfl') (Ab 0) _ _ [d] rfl rfl rfl).trans (bi_0 hh'.own f1)) (λ_=>by rfl') f2 hat o))⟩
  have r1:=λd hd=>(rr d hd).1;have r2:=λd hd=>(rr d hd).2;have a0:=ad_4 (M:=pelO (ks.length:Int) (Br (s:Int) ib (Aw (ks.length:Int) ib) ib T) (Bd (Ex C ik))) (ls:=ks) (ij:=0) (by decide) (λfa δ g1 g2=>(Fe rfl (by rfl') (by rfl') (Ab 0) fa δ [.lst ks] g1 g2 rfl).trans (y_4 h.k (by omega) λd hd=>(Fe rfl (by rfl') (by rfl') (Ab 0) _ _ [d] rfl rfl rfl).trans (r1 d hd)));have a1:=ad_4 (M:=pelO (ks.length:Int) (Br (s:Int) ib (Aw (ks.length:Int) ib) ib T) (Bd (Ex C ik))) (ls:=ks ++ ss) (ij:=0) (by decide) (λfa δ g1 g2=>(Fe rfl (by rfl') (by rfl') (Ab 0) fa δ [.lst (ks ++ ss)] g1 g2 rfl).trans (y_4 hls (by omega) λd hd=>(Fe rfl (by rfl') (by rfl') (Ab 0) _ _ [d] rfl rfl rfl).trans (r1 d hd)));have a2:=ad_4 (M:=paO (ks.length:Int) (Br (s:Int) ib (Aw (ks.length:Int) ib) ib T) (Bd (Ex C ik))) (ls:=ks ++ ss) (ij:=0) (by decide) (λfa δ g1 g2=>(Fe rfl (by rfl') (by rfl') (Ab 0) fa δ [.lst (ks ++ ss)] g1 g2 rfl).trans (y_4 hls (by omega) λd hd=>(Fe rfl (by rfl') (by rfl') (Ab 0) _ _ [d] rfl rfl rfl).trans (r2 d hd)));have hA:(ks.map λd=>D.int (rmP C (s:Int) ib (Aw (ks.length:Int) ib) T d))=(C.map λc=>((rk C c:Nat):Int)).map .int:=by
   refine by_4 ks _ _ (by rw [List.length_map,List.length_map,hp.len]) λi d hd=> ?_;have hi:=(List.getElem?_eq_some_iff.mp hd).1;rw [hp.rm hd,List.getElem?_map,List.getElem?_map,List.getD_eq_getElem?_getD,List.getElem?_eq_getElem (by rw [hp.len];exact hi)];rfl
  rw [hA] at a0;have pm:(C.map λc=>((rk C c:Nat):Int)).Perm (Dh 0 ks.length):=by
   refine cu_7 _ _ ?_ ?_ (by rw [List.length_map,hp.len])
   ·have:=en_2 hp.nd;have e3:(C.map λc=>((rk C c:Nat):Int))=(C.map (rk C)).map λn:Nat=>(n:Int):=by rw [List.map_map];rfl
    rw [e3];exact(List.pairwise_map.mpr (this.imp λhne hq=>hne (by omega)))
   ·intro x hx;obtain⟨c,hc,rfl⟩:=List.mem_map.mp hx;have:=dz_6 hc;rw [hp.len] at this;omega
  have so:=en_6 pm (by rw [List.length_map,hp.len];omega);refine .inr ⟨"Peeled","PeeledAgain",_,_,_,_,_,_,_,T,_,at_8 ?_,a0,by_3 (by omega) 0 rfl,.inl ⟨rfl,so⟩,br_9 hh (by rfl') (by rfl') b4 (aa_8 hh "peeled" (Bd (Ex C ik)) w1 (by omega) (by omega) tb),y_1 (by omega) h.kd b1 (by omega) (by omega) t1 tb,hh.tab,eh_9 (by omega) h.kd b1 (by omega) (by omega) tb,br_9 hh' (by rfl') (by rfl') b4 (aa_8 hh' "peeled" (Bd (Ex C ik)) w1 (by omega) (by omega) tb),a1,a2,r_1 1 ?_,by_0 _ _ _ _ _ _ _ (by decide +kernel) (cu_6 ub)⟩
  ·simp_arith [f_4,Am,Fq,Fb,e]
  ·exact cp_4 (ks ++ ss) _
def dy_1{m:Nat}{fi:FI}{fg:FGc}{p:FT}{f:FE}{δ δ1:DE}{d:D}{ds:List D}(h:fi δ=.ok (d::ds))(hl:(d::ds).length<=16777216)(h1:fg d (δ ++ List.replicate m none)=.ok δ1)(h2:p δ1=.no):Bx m fi fg p f δ=.no:=by
 unfold Bx;rw [h];simp only [R.bind_ok];rw [if_pos hl];show(((fg d (δ ++ List.replicate m none)).bind λ δ1=>(p δ1).bind λb=>if b=true then(f δ1).bind λw=>(Fh fg p f (δ ++ List.replicate m none) ds).bind λrs=> .ok (w.d::rs) else Fh fg p f (δ ++ List.replicate m none) ds).bind λrs=>R.ok (W.ow (.lst rs))).calm=.no;rw [h1];simp only [R.bind_ok,h2,R.bind_no,R.calm_no]
def do_1{i:Nat}{js:List Nat}{f:FE}{Δ:SE}{d:D}(h1:f (Bb Δ)=.no)(h2:f (Ar Δ)=.ok (.ow d))(hf:Ba d=false)(h3:f (Bb (gsome js Δ))=.ok (.ow d)):Ag i js f Δ=.nx ((gsome js Δ).set i (.ow d)):=by
 unfold Ag;rw [h1];simp only [h2,h3,W.d_ow,hf,Bool.false_eq_true,if_false];rfl
def ei_4{i:Nat}{js:List Nat}{f:FE}{Δ:SE}{d:D}(h:f (Bb Δ)=.ok (.ow d)):Ag i js f Δ=.nx (Δ.set i (.ow d)):=by
 unfold Ag;rw [h]
def ci_3{n k:Nat}{d:D}(e:(Cc 0 n)[k]? =some d):d=.int (k:Int)/\k < n:=by
 unfold Cc at e;rw [List.getElem?_map] at e
 by_cases hk:k < n
 ·rw [List.getElem?_range hk] at e;simp only [Option.map_some,Int.zero_add,Option.some.injEq] at e;exact⟨e.symm,hk⟩
 ·rw [List.getElem?_eq_none (by simp;omega)] at e;cases e
abbrev st84(nsD:D)(zs:List Int)(ks ss:List D)(w:Nat)(b6 a7 a8 a9:Sl):SE:=[.sh nsD,.sh (.lst (zs.map .int)),.sh (.lst ks),.ow (.lst ss),.sh (.int (w:Int)),.sh (.int (2 ^ w)),b6,a7,a8,a9]
def dy_2{nsD:D}{zs vs:List Int}{ks ss:List D}{w:Nat}{ij:Int}(hz:zs.length=200)(hn:ks.length<=40)(hsl:ss.length<=100)(hg:Goes ks (vs.map .int) ss w (2 + zs.getD 2 0 % 2) (1 + zs.getD 2 0 / 2 % 30) ij){b6 a7 a9:Sl}(h7:a7=.ow (.lst (vs.map .int))\/a7=.sh (.lst (vs.map .int))):
  ∃e7 e9,(e7=.ow (.lst (vs.map .int))\/e7=.sh (.lst (vs.map .int)))/\bd_3 (st84 nsD zs ks ss w b6 a7 (.sh (.int ij)) a9)=.nx (st84 nsD zs ks ss w b6 e7 (.sh (.int ij)) e9):=by
 have i2:Bn (.lst (zs.map .int)) (.int 2)=.ok (.sh (.int (zs.getD 2 0))):=x_1 (Q:=zs) (j:=2) (by omega);have m2:=λi:Int=>Fp (i:=i) (show(0:Int) < 2 by decide);have m30:=λi:Int=>Fp (i:=i) (show(0:Int) < 30 by decide);have d2:=λi:Int=>s_2 (i:=i) (show(0:Int) < 2 by decide) (by decide);unfold bd_3;rcases hg with e|⟨c1,c2,n1,n2,v1,v2,us,A,B,T,due,e,a,d,hd,t,lt,tb,m,t',b,b',nb,nz⟩
 ·exact⟨a7,.sh .non,h7,(Bl (Δ':=st84 nsD zs ks ss w b6 a7 (.sh (.int ij)) (.sh .non)) (by rcases h7 with rfl|rfl <;> simp_arith [Am,i2,m2,m30,d2,Fv,e])).trans rfl⟩
 ·have rt:=do_0 (by omega) (by omega) a d hd t lt tb m t' b b' nb nz;exact⟨.sh (.lst (vs.map .int)),.sh (.obj c1 n1 v1),.inr rfl,(Bl (Δ':=st84 nsD zs ks ss w b6 (.sh (.lst (vs.map .int))) (.sh (.int ij)) (.sh (.obj c1 n1 v1))) (by rcases h7 with rfl|rfl <;> simp_arith [Am,i2,m2,m30,d2,Fv,e])).trans (ifF _ _ _ _ (anT rfl (by simp_arith [Am,rt])))⟩
def do_2(ns:List Int)(hn:ns.length<=63):∃v,dk_3 [.lst (ns.map .int)]=.ok v/\v.d=.bl true:=by
 obtain⟨zs,hz,ez⟩:=dn_7 ns hn 200 (by decide);have ez:s_9 [.lst (ns.map .int),.int 200]=.ok (.ow (.lst (zs.map .int))):=ez;obtain⟨K,hK0,hK1,eK⟩:∃K:Nat,1<=K/\K<=40/\1 + zs.getD 0 0 % 40=(K:Int):=⟨(1 + zs.getD 0 0 % 40).toNat,by omega,by omega,by omega⟩;obtain⟨w,hw0,hw1,ew⟩:∃w:Nat,1<=w/\w<=30/\1 + zs.getD 1 0 % 30=(w:Int):=⟨(1 + zs.getD 1 0 % 30).toNat,by omega,by omega,by omega⟩;obtain⟨ks,hne,hl,hk,hd,ek⟩:=ao_0 zs 3 K (by omega) (by omega) hK0;obtain⟨js,jne,hjl,hjk,_,ej⟩:=ao_0 zs 163 10 (by omega) (by omega) (by decide);have ek:e_2 [.lst (zs.map .int),.int 3,.int (K:Int)]=.ok (.ow (.lst ks)):=ek;have ej:e_2 [.lst (zs.map .int),.int 163,.int 10]=.ok (.ow (.lst js)):=ej;have gu:0 < ks.length:=List.length_pos_iff.mpr hne;have pos:(0:Int) < 2 ^ w:=Int.pow_pos (by decide);have i0:Bn (.lst (zs.map .int)) (.int 0)=.ok (.sh (.int (zs.getD 0 0))):=x_1 (Q:=zs) (j:=0) (by omega);have i1:Bn (.lst (zs.map .int)) (.int 1)=.ok (.sh (.int (zs.getD 1 0))):=x_1 (Q:=zs) (j:=1) (by omega);generalize hns:D.lst (ns.map .int)=nsD at *
 obtain⟨ss,hss,hsl,es⟩:∃ss:List D,(∀d∈ss,isKey d)/\ss.length<=100/\Bx 1 (Db (At 3 e_2 (Aa (Ab 1) (Aa (eC (.int 163)) (Aa (eC (.int 10)) Ac))))) (gC 10) bw_6 (Ab 10) [some nsD,some (.lst (zs.map .int)),some (.lst ks),none,none,none,none,none,none,none]=.ok (.ow (.lst ss)):=by
  refine⟨((js.filter λd=> !Ct d ks).map id),λk hm=> ?_,by rw [List.length_map];exact Nat.le_trans (List.length_filter_le _ _) (by omega), ?_⟩
  ·obtain⟨d,hd,rfl⟩:=List.mem_map.mp hm;exact hjk d (List.mem_filter.mp hd).1
  ·refine k_2 (ds:=js) (by simp_arith [Am,ej]) (by omega) (ac_6 (λd=> !Ct d ks) id js λd hd=> ?_);refine⟨[some nsD,some (.lst (zs.map .int)),some (.lst ks),none,none,none,none,none,none,none,some d],rfl, ?_,λ_=>⟨.sh d,rfl,rfl⟩⟩
   simp_arith [bw_6,Am,dn_9 (hjk d hd) hk]
 obtain⟨dj,js',rfl⟩:∃d js',js=d::js':=by
  cases js with
  |nil=>exact absurd rfl jne
  |cons d js'=>exact⟨_,_,rfl⟩
 obtain⟨Δ6,e6,b6,rfl⟩:=h_3 (gV 6) bw_7 (λk Δ=>∃b6,Δ= [.sh nsD,.sh (.lst (zs.map .int)),.sh (.lst ks),.ow (.lst ss),.sh (.int (w:Int)),.sh (.int (2 ^ k)),b6,.no,.no,.no]) (ds:=Cc 0 w) (Δ:=[.sh nsD,.sh (.lst (zs.map .int)),.sh (.lst ks),.ow (.lst ss),.sh (.int (w:Int)),.sh (.int 1),.no,.no,.no,.no]) ⟨_,rfl⟩ (λk d Δ hd hI=>by
  obtain⟨b6,rfl⟩:=hI;obtain⟨rfl,hkw⟩:=ci_3 hd;have m2:Ca (.int 2) (.int (2 ^ k))=.ok (.sh (.int (2 * 2 ^ k))):=Do (Es (by decide) (by decide));refine⟨_,rfl,_,.inl ?_,.sh (.int (k:Int)),rfl⟩;rw [Int.pow_succ,Int.mul_comm (2 ^ k) 2]
  simp_arith [bw_7,Am,m2])
 rw [m_3] at e6;obtain⟨vs,hvs⟩:∃v:List Int,v=(List.range ks.length).map λj:Nat=>zs.getD (123 + j) 0 % 2 ^ w:=⟨_,rfl⟩;have hv:vs.length=ks.length:=by rw [hvs,List.length_map,List.length_range]
 have hb:∀v∈vs,0<=v/\v < 2 ^ w:=λv hv=>by
  rw [hvs] at hv;obtain⟨j,_,rfl⟩:=List.mem_map.mp hv;exact⟨Int.emod_nonneg _ (by omega),Int.emod_lt_of_pos _ pos⟩
 have ec:∀b:Option D,Bx 1 (Ax Co (Aa (Ah Bs (Aa (Ab 2) Ac)) Ac)) (gC 10) (λ_=> .ok true) bw_8 [some nsD,some (.lst (zs.map .int)),some (.lst ks),none,some (.int (w:Int)),some (.int (2 ^ w)),b,none,none,none]=.ok (.ow (.lst (vs.map .int))):=λb=>by
  refine k_2 (ds:=Cc 0 ks.length) (by simp_arith [Am,Hl,m_0 (show(-4611686018427387903:Int)<=(ks.length:Int) by omega) (by omega),Int.toNat_natCast]) (by rw [m_3];omega) (ci_2 _ _ (by rw [m_3,List.length_map,hv]) λi d hi=> ?_);obtain⟨rfl,hil⟩:=ci_3 hi;have ix:Bn (.lst (zs.map .int)) (.int (123 + (i:Int)))=.ok (.sh (.int (zs.getD (123 + i) 0))):=by
   have:=x_1 (Q:=zs) (j:=123 + i) (by omega)
   rwa [Int.natCast_add] at this
  refine⟨_,.sh (.int (zs.getD (123 + i) 0 % 2 ^ w)),rfl, ?_, ?_⟩
  ·simp_arith [bw_8,Am,Fv,ix,Fp pos]
  ·rw [hvs,List.getElem?_map,List.getElem?_map,List.getElem?_range hil];rfl
 have h0:Ks ks 0 (2 + zs.getD 2 0 % 2):=⟨hk,hd,by omega,by omega,by decide,by decide,by omega⟩;have gg:∀ij:Nat,ij < 4->Goes ks (vs.map .int) ss w (2 + zs.getD 2 0 % 2) (1 + zs.getD 2 0 / 2 % 30) (0 + (ij:Int)):=λij f1=>by
  rcases(show ij=0\/ij=1\/ij=2\/ij=3 by omega) with rfl|rfl|rfl|rfl
  ·exact eo_0 h0 (by omega) (by omega) (by omega) w hss hsl
  ·exact en_7 h0 (by omega) (by omega) (by omega) w hss hsl
  ·exact en_8 h0 (by omega) (by omega) (by omega) w hw0 (by omega) hv hb hss hsl
  ·exact en_9 h0 (by omega) (by omega) (by omega) w hw0 (by omega) hss hsl
 obtain⟨Δ8,e8,a7,a8,a9,h7,rfl⟩:=y_2 (gV 8) bd_3 (λk Δ=>∃a7 a8 a9,(a7=.ow (.lst (vs.map .int))\/a7=.sh (.lst (vs.map .int)))/\Δ=st84 nsD zs ks ss w b6 a7 a8 a9) (n:=4) (lo:=0) (Δ:=st84 nsD zs ks ss w b6 (.ow (.lst (vs.map .int))) .no .no) ⟨_,_,_,.inl rfl,rfl⟩ (λk Δ hk hI=>by
  obtain⟨a7,a8,a9,h7,rfl⟩:=hI;obtain⟨e7,e9,h7',g⟩:=dy_2 (nsD:=nsD) (b6:=b6) (a9:=a9) hz (by omega) hsl (gg k hk) h7;exact⟨_,rfl,_,.inl g,e7,_,e9,h7',rfl⟩)
 refine⟨.sh (.bl true), ?_,rfl⟩;unfold dk_3;refine r_4 ?_;unfold dz_2;refine(Bl (by simp_arith [ct_1,Am,ez];rfl)).trans ?_;refine(Bl (by simp_arith [ct_2,Am,i0,Fp (show(0:Int) < 40 by decide),Fv,eK,ek];rfl)).trans ?_;refine(Bl (do_1 (dy_1 (d:=dj) (ds:=js') (by simp_arith [Am,ej]) (by omega) rfl rfl) es rfl es)).trans ?_;refine(Bl (by simp_arith [ct_3,Am,i1,Fp (show(0:Int) < 30 by decide),Fv,ew];rfl)).trans ?_;refine(Bl rfl).trans ((Bl (Δ':=[.sh nsD,.sh (.lst (zs.map .int)),.sh (.lst ks),.ow (.lst ss),.sh (.int (w:Int)),.sh (.int (2 ^ w)),b6,.no,.no,.no]) ?_).trans ((Bl (Δ':=st84 nsD zs ks ss w b6 (.ow (.lst (vs.map .int))) .no .no) ?_).trans ((Bl (Δ':=st84 nsD zs ks ss w b6 a7 a8 a9) ?_).trans rfl)))
 ·unfold ct_4 Bu;rw [show Ax Co (Aa (Ab 4) Ac) _=.ok (Cc 0 w) from by simp_arith [Am,m_0 (show(-4611686018427387903:Int)<=(w:Int) by omega) (by omega),Int.toNat_natCast]];exact e6
 ·exact ei_4 (ec b6.pub)
 ·unfold ct_5 Bu;rw [show Ax Co (Aa (eC (.int 4)) Ac) _=.ok (Cc 0 4) from rfl];exact e8
end My
set_option maxHeartbeats 20000000
namespace My
open PySem PyProof.Rows L2 L3
noncomputable def Az(i:Nat):Stmt:=PySem.Challenge.pw_lodge_k84_whole_made_again.main.body.getD i (.Pass ⟨0,0,0,0⟩)
def ad_5:Stmt->List Stmt
 | .ClassDef (body:=b) .. =>b
 |_=> []
def Bc(i j:Nat):Stmt:=(ad_5 (Az i)).getD j (.Pass ⟨0,0,0,0⟩)
section
variable{P:Program}{w:World}{K:Frag}{mg:Str->Option Value}{base:Heap}{f:Addr}{fd:FuncData}
abbrev TF(c:Bool)(x:Str)(k:Nat)(ps:List Str)(F:List D->R W)(P:Program)(w:World)(K:Frag)(mg:Str->Option Value)(base:Heap):Prop:=FnD P w K mg base c x k ps F
abbrev bs_1:=TF true "_law_mix" 1 ["_law_cell","_law_k"] y_3
abbrev ba_3:=TF true "_law_draws" 2 ["_law_script","_law_many"] s_9
abbrev L25:List Str:=["_law_one","_law_two","_law_three"]
abbrev ag_9:=TF true "_law_drawn_key" 1 L25 i_5
abbrev L16:List Str:=["_law_draws_here","_law_start","_law_many"]
abbrev ad_6:=TF true "_law_drawn_keys" 2 L16 e_2
abbrev ao_1:=TF true "is_key_text" 1 ["text"] q_2
abbrev ci_5:=TF true "is_key" 2 ["thing"] y_8
abbrev ah_0:=TF true "look_each_key" 3 ["keys"] i_6
abbrev ao_2:=TF true "look_unlike" 3 ["keys"] q_3
abbrev ba_4:=TF true "look_keys" 4 ["keys"] j_6
abbrev ba_5:=TF true "part_size" 1 ["many","kind"] i_1
abbrev cv_0:=TF true "worth" 1 ["text"] as_6
abbrev cv_1:=TF true "stamp" 3 ["key"] af_0
abbrev cv_2:=TF true "mixed" 1 ["number","salt","size"] al_2
abbrev ba_6:=TF true "places_of" 4 ["key","salt","kind","part"] i_2
abbrev Lg:List Str:=["keys","salt","kind"]
abbrev bi_6:=TF true "edges_of" 5 Lg u_9
abbrev ao_3:=TF true "standing_at" 1 ["edges"] q_4
abbrev ci_6:=TF true "peeled" 2 ["edges","size"] as_7
abbrev do_3:=TF true "fate" 6 Lg Gv
abbrev bi_7:=TF true "succeeds" 7 Lg g_0
abbrev ba_7:=TF true "first_try" 8 ["keys","kind","most"] Dq
abbrev ah_1:=TF true "chosen_places" 7 Lg o_0
abbrev bi_8:=TF true "is_below" 1 ["number","limit"] l_7
abbrev L34:List Str:=["number","modulus"]
abbrev ba_8:=TF true "remainder" 1 L34 t_0
abbrev ci_7:=TF true "summed" 2 ["table","places","modulus"] p_0
abbrev L14:List Str:=["edges","size","order","wanted","modulus"]
abbrev ci_8:=TF true "filled" 3 L14 aj_2
abbrev L18:List Str:=["keys","salt","kind","modulus","wanted"]
abbrev ba_9:=TF true "table_for" 7 L18 g_8
abbrev ah_2:=TF true "row_with_ones" 1 ["places","size"] k_7
abbrev ci_9:=TF true "two_to" 1 ["width"] m_5
abbrev ao_4:=TF true "look_values" 3 ["values","many","limit"] j_7
abbrev do_4:=TF true "mark" 4 ["key","width"] aq_0
abbrev Ln:List Str:=["_law_form","_law_keys","_law_values","_law_width","_law_kind","_law_most"]
abbrev bi_9:=TF true "_law_made" 11 Ln s_4
abbrev ao_5:=TF true "ones_before" 1 ["bits","place"] o_4
abbrev Lx:List Str:=["_law_house","_law_form","_law_keys"]
abbrev ao_6:=TF true "_law_answers" 10 Lx c_8
abbrev Lw:List Str:=["_law_form","_law_keys","_law_values"]
abbrev bs_2:=TF true "_law_due" 1 Lw v_1
abbrev ad_7:=TF true "number_written" 1 ["number","width"] m_6
abbrev bs_3:=TF true "written" 3 ["numbers","width"] ad_0
abbrev bs_4:=TF true "told_by" 4 ["name","house","width","used"] k_8
abbrev bb_0:=TF true "width_for" 1 ["number"] n_0
abbrev au_0:=TF true "house_told" 5 ["house"] d_4
abbrev bb_1:=TF true "_law_table" 1 ["_law_what","_law_many"] t_2
abbrev ao_7:=TF true "is_multiple" 1 ["length","width"] q_6
abbrev L29:List Str:=["bits","width"]
abbrev bb_2:=TF true "look_bits" 3 L29 w_2
abbrev ao_8:=TF true "number_read" 1 ["bits"] q_7
abbrev bb_3:=TF true "read_bits" 4 L29 w_3
abbrev L26:List Str:=["bits","width","size"]
abbrev ah_3:=TF true "numbers_again" 5 L26 o_2
abbrev Ly:List Str:=["name","kind","salt","many","width","bits","used"]
abbrev bj_0:=TF true "house_of" 6 Ly p_2
abbrev au_1:=TF true "made_again" 7 ["what"] g_5
abbrev Ls:List Str:=["_law_house","_law_form","_law_keys","_law_values","_law_strangers"]
abbrev bb_4:=TF true "_law_right" 11 Ls aa_4
def Cr:= @Fun.binds1
def Cs:= @Fun.binds2
def bn3:= @Fun.binds3
def bn4:= @Fun.binds4
def bn5:= @Fun.binds5
def bn6:= @Fun.binds6
def bn7:= @Fun.binds7
abbrev ab_8:Stmt:=(ad_5 (Az 5)).getD 0 (.Pass ⟨0,0,0,0⟩)
abbrev Ll:List Str:=["self","at"]
def bj_1:FnScope Ll Ll (Cn ab_8):=⟨rfl,rfl,rfl,by decide +kernel,rfl,by decide +kernel,by decide +kernel⟩
def bj_2{C f:Addr}{fd:FuncData}(F:Fun K "__init__" "NoBits.__init__" ab_8 f fd)(xc:XCls K C)(hn:findIn K (.ref C) "at" =some none):FnX P w K mg base false 1 f fd Ll (ai_7 C "at"):=
 bd_2 (k:=0) F bj_1 λzn A outer s H E=>aq_7 (bd_1 xc hn (Fu rfl (.inl rfl)) (Fu rfl (.inl rfl)))
abbrev z_6:Stmt:=(ad_5 (Az 7)).getD 0 (.Pass ⟨0,0,0,0⟩)
def bc_0:FnScope Ll Ll (Cn z_6):=⟨rfl,rfl,rfl,by decide +kernel,rfl,by decide +kernel,by decide +kernel⟩
def bc_1{C f:Addr}{fd:FuncData}(F:Fun K "__init__" "NoValue.__init__" z_6 f fd)(xc:XCls K C)(hn:findIn K (.ref C) "at" =some none):FnX P w K mg base false 1 f fd Ll (ai_7 C "at"):=
 bd_2 (k:=0) F bc_0 λzn A outer s H E=>aq_7 (bd_1 xc hn (Fu rfl (.inl rfl)) (Fu rfl (.inl rfl)))
abbrev af_8:Stmt:=(ad_5 (Az 4)).getD 0 (.Pass ⟨0,0,0,0⟩)
def bm_3:FnScope Ll Ll (Cn af_8):=⟨rfl,rfl,rfl,by decide +kernel,rfl,by decide +kernel,by decide +kernel⟩
def bm_4{C f:Addr}{fd:FuncData}(F:Fun K "__init__" "Twice.__init__" af_8 f fd)(xc:XCls K C)(hn:findIn K (.ref C) "at" =some none):FnX P w K mg base false 1 f fd Ll (ai_7 C "at"):=
 bd_2 (k:=0) F bm_3 λzn A outer s H E=>aq_7 (bd_1 xc hn (Fu rfl (.inl rfl)) (Fu rfl (.inl rfl)))
abbrev af_9:Stmt:=(ad_5 (Az 3)).getD 0 (.Pass ⟨0,0,0,0⟩)
def bm_5:FnScope Ll Ll (Cn af_9):=⟨rfl,rfl,rfl,by decide +kernel,rfl,by decide +kernel,by decide +kernel⟩
def bm_6{C f:Addr}{fd:FuncData}(F:Fun K "__init__" "NoKey.__init__" af_9 f fd)(xc:XCls K C)(hn:findIn K (.ref C) "at" =some none):FnX P w K mg base false 1 f fd Ll (ai_7 C "at"):=
 bd_2 (k:=0) F bm_5 λzn A outer s H E=>aq_7 (bd_1 xc hn (Fu rfl (.inl rfl)) (Fu rfl (.inl rfl)))
def cp_5(F:Fun K "_law_mix" "_law_mix" (Az 74) f fd):FnX P w K mg base true 1 f fd ["_law_cell","_law_k"] (Bi K 2 y_3):=
 Bo (N:=["_law_cell","_law_k","_law_first"]) F λzp zq hu nd zr=>(Aq (Bj (i:=2) [0,1] (Av Fd (Av Dz (Av Cu (Ad 0) As) (Av Cu As (Av Dz As (Ad 1)))) As) nd)
  (Ap (Bk [1,2] (Av Fd (Av Cu (Av Cu (Av Dz (Av l_0 (Ad 2) As) As) (Av Dz (Ad 2) (Av Cu (Av Dz (Ad 1) (Ad 1)) As))) (Ad 1)) As))))
variable(af5:bs_1 P w K mg base)(p7:mg "list" =none)(g9:mg "range" =none)(i8:mg "len" =none)
def by_5(F:Fun K "_law_draws" "_law_draws" (Az 75) f fd):FnX P w K mg base true 2 f fd ["_law_script","_law_many"] (Bi K 2 s_9):=
 Bo (N:=["_law_script","_law_many","_law_rest","_law_twice","_law_seeds","_law_found","_law_k","_law_at"]) F λzp zq hu nd zr=>(Aq (Bj (i:=2) [0] (u_7 aa_1 rfl p7 PyProof.Rows.boot_list (Ae (Ad 0) Al)) nd)
  (Aq (Cq [2] (Cm (Gn hu) (Ad 2) (u_6 Al) (Cj _))
   (Ap (Bj (i:=2) [] (u_6 (Ae As Al)) nd))
   Dc)
  (Aq (Bj (i:=3) [2] (ap_2 (Gn hu) (Av Fd (De (Ad 2) As) As) As (Cj _)) nd)
  (Aq (bu_3 (i:=2) (Av l_0 (De (Ad 2) As) As) As)
  (Aq (cs_3 (i:=4) (u_7 aa_1 rfl p7 PyProof.Rows.boot_list (Ae (Ad 2) Al)) nd)
  (Aq (Bj (i:=5) [] (u_6 Al) nd)
  (Aq (Gf [1] Ff zp (k_0 g9 (Ae (Ad 1) Al)) (n_1 (i:=6) nd)
   (Aq (Bj (i:=7) [2,6] (Av Fd (Ad 6) (Cy Dw rfl i8 PySem.boot_len (Ae (Ad 2) Al))) nd)
  (Ap (Cq [2,3,7] (Gx (bo_2 (i_0 (Ad 3)) (au_8 (Cm (Gn hu) (De (Ad 2) (Ad 7)) As (Cj _)))))
   (Ap (av_2 (i:=5) (Bg zq zr af5 (Ae (Bg zq zr af5 (Ae (Av Fd (De (Ad 4) (Ad 7)) As) (Ae (Av Cu (Ad 6) As) Al))) (Ae (Av Cu (Av Fd (Av Dz (Ad 6) (Ad 6)) As) As) Al)))))
   (Aq (av_2 (i:=5) (Av Fd (De (Ad 2) (Ad 7)) As))
  (Ap (bu_3 (i:=2) (Av l_0 (De (Ad 2) (Ad 7)) As) (Ad 7))))))))
  (Ap (p_4 5)))))))))
def ax_5(F:Fun K "_law_drawn_key" "_law_drawn_key" (Az 76) f fd):FnX P w K mg base true 1 f fd L25 (Bi K 3 i_5):=
 Bo (N:=["_law_one","_law_two","_law_three","_law_signs","_law_rest","_law_found","_law_k","_law_at"]) F λzp zq hu nd zr=>(Aq (Bj (i:=3) [] Gq nd)
  (Aq (Cq [0] (Cm (Gn hu) (Av Fd (Ad 0) As) As (Cj _))
   (Ap (Bk [0,1] (Av Fd (Av Cu (Av l_0 (Ad 0) As) (Av Dz As (Ad 1))) (Av dr_4 As As))))
   Dc)
  (Aq (Cq [0] (Cm (Gn hu) (Av Fd (Ad 0) As) As (Cj _))
   (Ap (Bk [0] (Av Fd (Av l_0 (Ad 0) As) As)))
   Dc)
  (Aq (Bj (i:=4) [0,1,2] (u_6 (Ae (Av Cu (Av Dz (Av l_0 (Ad 0) As) As) (Ad 1)) (Ae (Ad 2) Al))) nd)
  (Aq (Bj (i:=5) [] Gq nd)
  (Aq (Gf [0] Ff zp (k_0 g9 (Ae (Av Fd (Av l_0 (Ad 0) As) As) Al)) (n_1 (i:=6) nd)
   (Aq (Bj (i:=7) [6] (Av l_0 (Ad 6) As) nd)
  (Aq (Bj (i:=5) [3,4,5,7] (Av Cu (Ad 5) (De (Ad 3) (Av Fd (De (Ad 4) (Ad 7)) As))) nd)
  (Ap (bu_3 (i:=4) (Av l_0 (De (Ad 4) (Ad 7)) As) (Ad 7))))))
  (Ap (p_4 5))))))))
variable(u9:ag_9 P w K mg base)
def au_2(F:Fun K "_law_drawn_keys" "_law_drawn_keys" (Az 77) f fd):FnX P w K mg base true 2 f fd L16 (Bi K 3 e_2):=
 Bo (N:=["_law_draws_here","_law_start","_law_many","_law_found","_law_k","_law_at","_law_key"]) F λzp zq hu nd zr=>(Aq (Bj (i:=3) [] (u_6 Al) nd)
  (Aq (Gf [2] Ff zp (k_0 g9 (Ae (Ad 2) Al)) (n_1 (i:=4) nd)
   (Aq (Bj (i:=5) [1,4] (Av Cu (Ad 1) (Av Dz As (Ad 4))) nd)
  (Aq (Bj (i:=6) [0,5] (Bg zq zr u9 (Ae (De (Ad 0) (Ad 5)) (Ae (De (Ad 0) (Av Cu (Ad 5) As)) (Ae (De (Ad 0) (Av Cu (Ad 5) As)) Al)))) nd)
  (Ap (Cq [3,6] (Cm bo_6 (Ad 6) (Ad 3) (by with_unfolding_all rfl))
   (Ap (av_2 (i:=3) (Ad 6)))
   Dc)))))
  (Aq (Cq [3] (Cm (Gn hu) (Ad 3) (u_6 Al) (Cj _))
   (Ap (Bj (i:=3) [0,1] (u_6 (Ae (Av Fd (De (Ad 0) (Ad 1)) As) Al)) nd))
   Dc)
  (Ap (p_4 3)))))
variable(ay3:mg "all" =none){au4:Tok}(ab8:mg "MOST_SIGNS" =some (.int 11 au4)){ba6:Tok}(ak3:mg "SIGNS" =some (.str "abcdefghijklmnopqrstuvwxyz0123456789-_ " ba6))
def bj_3(F:Fun K "is_key_text" "is_key_text" (Az 26) f fd):FnX P w K mg base true 1 f fd ["text"] (Bi K 1 q_2):=
 Bo (N:=["text"]) F λzp zq hu nd zr=>(Ap (Bk [0] (cl_1 (ap_2 bu_0 (Cy Dw rfl i8 PySem.boot_len (Ae (Ad 0) Al)) (ae_5 rfl ab8) (Cj _)) (cl_0 (Cy (cy_4 zp) rfl ay3 PyProof.Rows.boot_all (Ae (t_7 (N':=["text","sign"]) zp (v_8 (Ad 0)) rfl (by rfl') rfl (λC s0 H0 fp pn=>⟨(gcM (i:=1)),w_6,(ap_2 df_9 (Ad 1) (cq_9 rfl ak3) (by with_unfolding_all rfl))⟩)) Al))))))
variable(z7:ao_1 P w K mg base)(j1:mg "isinstance" =none)(aq1:mg "bool" =none)(az1:mg "int" =none)(aq3:mg "str" =none)(ae1:KitT K "bool")(as7:KitT K "int")(aj0:KitT K "str"){ai9:Tok}(r6:mg "GREATEST_NUMBER" =some (.int 999999999999999999 ai9))
def db_9(F:Fun K "is_key" "is_key" (Az 27) f fd):FnX P w K mg base true 2 f fd ["thing"] (Bi K 1 y_8):=
 Bo (N:=["thing"]) F λzp zq hu nd zr=>(Aq (Cq [0] (i_0 (bf_4 ae1 (Ad 0) j1 aq1 bp_0))
   (Ap (Bk [] Ga))
   Dc)
  (Aq (Cq [0] (i_0 (bf_4 as7 (Ad 0) j1 az1 PyProof.Rows.boot_int))
   (Ap (Bk [0] (ca_5 bu_0 bu_0 As (Ad 0) (ae_5 rfl r6))))
   Dc)
  (Ap (Bk [0] (cl_1 (bf_4 aj0 (Ad 0) j1 aq3 PyProof.Rows.boot_str) (cl_0 (Bg zq zr z7 (Ae (Ad 0) Al))))))))
variable(ad1:ci_5 P w K mg base)(j7:mg "enumerate" =none){af4:Addr}(ak0:XC P w K mg base "NoKey" "at" af4)
def ax_6(F:Fun K "look_each_key" "look_each_key" (Az 32) f fd):FnX P w K mg base true 3 f fd ["keys"] (Bi K 1 i_6):=
 Bo (N:=["keys","place","key"]) F λzp zq hu nd zr=>(Ap (Gf [0] Ff zp (al_0 j7 (Ad 0)) (ai_4 (i:=1) (j:=2) zp nd)
   (Ap (Cq [2] (au_9 (i_0 (Bg zq zr ad1 (Ae (Ad 2) Al))))
   (Ap (v_9 [1] ak0 (RoomC.mono zq (by decide)) v_4 (Ad 1)))
   Dc))))
variable{af8:Addr}(at6:XC P w K mg base "Twice" "at" af8)
def bj_4(F:Fun K "look_unlike" "look_unlike" (Az 33) f fd):FnX P w K mg base true 3 f fd ["keys"] (Bi K 1 q_3):=
 Bo (N:=["keys","seen","place","key"]) F λzp zq hu nd zr=>(Aq (Bj (i:=1) [] bc_8 nd)
  (Ap (Gf [0] Ff zp (al_0 j7 (Ad 0)) (ai_4 (i:=2) (j:=3) zp nd)
   (Aq (Cq [1,3] (Cm (ee_6 hu) (Ad 3) (Ad 1) (by with_unfolding_all rfl))
   (Ap (v_9 [2] at6 (RoomC.mono zq (by decide)) v_4 (Ad 2)))
   Dc)
  (Ap (bu_5 (i:=1) [] hu Ga (Ad 3)))))))
variable(j9:ah_0 P w K mg base)(y9:ao_2 P w K mg base){aa6:Addr}(am4:XC0 K mg "NoKeys" aa6){au8:Tok}(ae0:mg "MOST_KEYS" =some (.int 200 au8))
def by_6(F:Fun K "look_keys" "look_keys" (Az 34) f fd):FnX P w K mg base true 4 f fd ["keys"] (Bi K 1 j_6):=
 Bo (N:=["keys"]) F λzp zq hu nd zr=>(Aq (Cq [0] (Gx (bo_2 (Cm (Gn hu) (Cy Dw rfl i8 PySem.boot_len (Ae (Ad 0) Al)) As (Cj _)) (au_8 (Cm cl_2 (Cy Dw rfl i8 PySem.boot_len (Ae (Ad 0) Al)) (ae_5 rfl ae0) (Cj _)))))
   (Ap (bq_1 am4 (RoomC.mono zq (by decide)) v_4))
   Dc)
  (Aq (ak_9 [0] (Bg zq zr j9 (Ae (Ad 0) Al)))
  (Aq (ak_9 [0] (Bg zq zr y9 (Ae (Ad 0) Al)))
  (Ap (Bk [0] (Cy Dw rfl i8 PySem.boot_len (Ae (Ad 0) Al)))))))
def by_7(F:Fun K "part_size" "part_size" (Az 44) f fd):FnX P w K mg base true 1 f fd ["many","kind"] (Bi K 2 i_1):=
 Bo (N:=["many","kind"]) F λzp zq hu nd zr=>(Aq (Cq [1] (Cm av_0 (Ad 1) As (Cj _))
   (Ap (Bk [0] (Av Cu (Av Cu (Ad 0) (Av l_0 (Ad 0) As)) As)))
   Dc)
  (Ap (Bk [0] (Av Cu (Av l_0 (Av Dz As (Ad 0)) As) As))))
def do_5(F:Fun K "worth" "worth" (Az 28) f fd):FnX P w K mg base true 1 f fd ["text"] (Bi K 1 as_6):=
 Bo (N:=["text","total","sign"]) F λzp zq hu nd zr=>(Aq (Bj (i:=1) [] As nd)
  (Aq (Gf [0] Ff zp (v_8 (Ad 0)) (n_1 (i:=2) nd)
   (Ap (Bj (i:=1) [1,2] (Av Cu (Av Cu (Av Dz As (Ad 1)) (ar_8 PySem.F.plainAttrs_str PySem.F.slot_str_find PySem.F.type_str_find dh_0 (cq_9 rfl ak3) (Ae (Ad 2) Al))) As) nd)))
  (Ap (p_4 1))))
variable(au3:cv_0 P w K mg base)
def do_6(F:Fun K "stamp" "stamp" (Az 29) f fd):FnX P w K mg base true 3 f fd ["key"] (Bi K 1 af_0):=
 Bo (N:=["key"]) F λzp zq hu nd zr=>(Aq (Cq [0] (au_9 (i_0 (Bg zq zr ad1 (Ae (Ad 0) Al))))
   (Ap (v_9 [] ak0 (RoomC.mono zq (by decide)) v_4 As))
   Dc)
  (Aq (Cq [0] (i_0 (bf_4 aj0 (Ad 0) j1 aq3 PyProof.Rows.boot_str))
   (Ap (Bk [0] (Av Cu (Av Dz As (Bg zq zr au3 (Ae (Ad 0) Al))) As)))
   Dc)
  (Ap (Bk [0] (Av Dz As (Ad 0))))))
variable{ba0:Tok}(aj2:mg "PRIME" =some (.int 2305843009213693951 ba0))
def do_7(F:Fun K "mixed" "mixed" (Az 30) f fd):FnX P w K mg base true 1 f fd ["number","salt","size"] (Bi K 3 al_2):=
 Bo (N:=["number","salt","size","factor","shift","first"]) F λzp zq hu nd zr=>(Aq (Cq [2] (Cm (Gn hu) (Ad 2) As (Cj _))
   (Ap (Bk [] As))
   Dc)
  (Aq (Bj (i:=3) [1] (Av Cu As (Av Fd (Av Cu (Av Dz As (Ad 1)) As) (Av ar_5 (ae_5 rfl aj2) As))) nd)
  (Aq (Bj (i:=4) [1] (Av Fd (Av Cu (Av Dz (Av Dz As (Ad 1)) (Ad 1)) (Av Dz As (Ad 1))) (ae_5 rfl aj2)) nd)
  (Aq (Bj (i:=5) [0,3,4] (Av Fd (Av Cu (Av Dz (Ad 3) (Ad 0)) (Ad 4)) (ae_5 rfl aj2)) nd)
  (Ap (Bk [2,5] (Av Fd (Av Cu (Ad 5) (Av l_0 (Ad 5) As)) (Ad 2))))))))
variable(ak4:cv_1 P w K mg base)(ak8:cv_2 P w K mg base)(as8:mg "tuple" =none)
def by_8(F:Fun K "places_of" "places_of" (Az 45) f fd):FnX P w K mg base true 4 f fd ["key","salt","kind","part"] (Bi K 4 i_2):=
 Bo (N:=["key","salt","kind","part","number"]) F λzp zq hu nd zr=>(Aq (Bj (i:=4) [0] (Bg zq zr ak4 (Ae (Ad 0) Al)) nd)
  (Ap (Bk [1,2,3,4] (u_7 cl_4 rfl as8 PyProof.Rows.boot_tuple (Ae (t_7 (N':=["key","salt","kind","part","number","turn"]) zp (k_0 g9 (Ae (Ad 2) Al)) rfl (by rfl') rfl (λC s0 H0 fp pn=>⟨(gcM (i:=5)),w_6,(Av Cu (Av Dz (Ad 5) (Ad 3)) (Bg (s_8 zq) x_7 ak8 (Ae (Ad 4) (Ae (Av Cu (Av Dz As (Ad 1)) (Ad 5)) (Ae (Ad 3) Al)))))⟩)) Al)))))
variable(k7:ba_5 P w K mg base)(o8:ba_4 P w K mg base)(u6:ba_6 P w K mg base)
def cj_0(F:Fun K "edges_of" "edges_of" (Az 46) f fd):FnX P w K mg base true 5 f fd Lg (Bi K 3 u_9):=
 Bo (N:=["keys","salt","kind","part"]) F λzp zq hu nd zr=>(Aq (Bj (i:=3) [0,2] (Bg zq zr k7 (Ae (Bg zq zr o8 (Ae (Ad 0) Al)) (Ae (Ad 2) Al))) nd)
  (Ap (Bk [0,1,2,3] (t_7 (N':=["keys","salt","kind","part","key"]) zp (v_8 (Ad 0)) rfl (by rfl') rfl (λC s0 H0 fp pn=>⟨(gcM (i:=4)),w_6,(Bg (s_8 zq) x_7 u6 (Ae (Ad 4) (Ae (Ad 1) (Ae (Ad 2) (Ae (Ad 3) Al)))))⟩)))))
def bj_5(F:Fun K "standing_at" "standing_at" (Az 40) f fd):FnX P w K mg base true 1 f fd ["edges"] (Bi K 1 q_4):=
 Bo (N:=["edges","standing","number","edge","place"]) F λzp zq hu nd zr=>(Aq (Bj (i:=1) [] bc_8 nd)
  (Aq (Gf [0] Ff zp (al_0 j7 (Ad 0)) (ai_4 (i:=2) (j:=3) zp nd)
   (Ap (Gf [3] Ff zp (v_8 (Ad 3)) (n_1 (i:=4) nd)
   (Aq (Cq [1,4] (Cm (bp_3 hu) (Ad 4) (Ad 1) (by with_unfolding_all rfl))
   (Ap (dt_2 (i:=1) hu (Ad 4)))
   Dc)
  (Ap (dt_0 (i:=1) hu Ga (Ad 4) (Ad 2)))))))
  (Ap (p_4 1))))
abbrev L19:List Str:=["number","edge","standing"]
def by_9(F:Fun K "take_away" "take_away" (Az 41) f fd):FnX P w K mg base true 1 f fd L19 (spM K 2 o_9):=
 em_7 (n:=2) (N:=["number","edge","standing","place"]) F (by decide) (by decide) λzp zq hu nd zr=>(Ap (Gf [1] Ff zp (v_8 (Ad 1)) (n_1 (i:=3) nd)
   (Ap (dt_1 (i:=2) hu (Ad 3) (Ad 0)))))
variable(aa0:ao_3 P w K mg base)(ad5:FnMd P w K mg base true "take_away" 1 2 L19 o_9)(an0:mg "min" =none)
def dc_0(F:Fun K "peeled" "peeled" (Az 42) f fd):FnX P w K mg base true 2 f fd ["edges","size"] (Bi K 2 as_7):=
 Bo (N:=["edges","size","standing","waiting","order","taken","left","place","number"]) F λzp zq hu nd zr=>(Aq (Bj (i:=2) [0] (Bg zq zr aa0 (Ae (Ad 0) Al)) nd)
  (Aq (cs_3 (i:=3) (u_7 (cm_5 zp) rfl p7 PyProof.Rows.boot_list (Ae (Ad 2) Al)) nd)
  (Aq (Bj (i:=4) [] (u_6 Al) nd)
  (Aq (Bj (i:=5) [] bc_8 nd)
  (Aq (cb_5 [3] 3000 Ff (Cm cl_2 (Cy Dw rfl i8 PySem.boot_len (Ae (Ad 3) Al)) As (Cj _))
   (Aq (dt_5 (i:=7) (j:=3) nd)
  (Ap (Cq [2,7] (Cm (Gn hu) (Cy cy_9 rfl i8 PySem.boot_len (Ae (bu_4 hu (Ad 2) (Ad 7)) Al)) As (Cj _))
   (Aq (Bj (i:=8) [2,7] (Cy (cz_1 zp) rfl an0 PyProof.Rows.boot_min (Ae (bu_4 hu (Ad 2) (Ad 7)) Al)) nd)
  (Aq (av_2 (i:=4) (df_0 (Ae (Ad 8) (Ae (Ad 7) Al))))
  (Aq (bu_5 (i:=5) [] hu Ga (Ad 8))
  (Aq (di_1 (i:=2) zq zr ad5 (Ad 8) (De (Ad 0) (Ad 8)))
  (Ap (ee_9 (i:=3) (De (Ad 0) (Ad 8))))))))
   Dc))))
  (Aq (bc_6 (i:=6) [0,5] (N':=["edges","size","standing","waiting","order","taken","left","place","?8","number"]) zp (k_0 g9 (Ae (Cy Dw rfl i8 PySem.boot_len (Ae (Ad 0) Al)) Al)) rfl (by rfl') rfl (λC s0 H0 fp pn=>⟨(gcM (i:=9)),(cl_9 (Cm (bp_3 hu) (Ad 9) (Ad 5) (by with_unfolding_all rfl))),(Ad 9)⟩) nd)
  (Ap (dt_7 (i:=4) (j:=6)))))))))
variable(y1:bi_6 P w K mg base)(ap6:ci_6 P w K mg base)
def dy_3(F:Fun K "fate" "fate" (Az 47) f fd):FnX P w K mg base true 6 f fd Lg (Bi K 3 Gv):=
 Bo (N:=["keys","salt","kind","edges"]) F λzp zq hu nd zr=>(Aq (Bj (i:=3) [0,1,2] (Bg zq zr y1 (Ae (Ad 0) (Ae (Ad 1) (Ae (Ad 2) Al)))) nd)
  (Ap (Bk [0,2,3] (Bg zq zr ap6 (Ae (Ad 3) (Ae (Av Dz (Ad 2) (Bg zq zr k7 (Ae (Cy Dw rfl i8 PySem.boot_len (Ae (Ad 0) Al)) (Ae (Ad 2) Al)))) Al))))))
variable(ah9:do_3 P w K mg base)
def cj_1(F:Fun K "succeeds" "succeeds" (Az 48) f fd):FnX P w K mg base true 7 f fd Lg (Bi K 3 g_0):=
 Bo (N:=["keys","salt","kind","left"]) F λzp zq hu nd zr=>(Aq (Bj (i:=3) [0,1,2] (De (Bg zq zr ah9 (Ae (Ad 0) (Ae (Ad 1) (Ae (Ad 2) Al)))) As) nd)
  (Ap (Bk [3] (ap_2 (Gn hu) (Cy Dw rfl i8 PySem.boot_len (Ae (Ad 3) Al)) As (Cj _)))))
variable(ai5:bi_7 P w K mg base){n8:Addr}(ap2:XC0 K mg "NoTry" n8)
def bz_0(F:Fun K "first_try" "first_try" (Az 49) f fd):FnX P w K mg base true 8 f fd ["keys","kind","most"] (Bi K 3 Dq):=
 Bo (N:=["keys","kind","most","salt"]) F λzp zq hu nd zr=>(Aq (ak_9 [0] (Bg zq zr o8 (Ae (Ad 0) Al)))
  (Aq (Gf [2] Ff zp (k_0 g9 (Ae (Ad 2) Al)) (n_1 (i:=3) nd)
   (Ap (Cq [0,1,3] (i_0 (Bg zq zr ai5 (Ae (Ad 0) (Ae (Ad 3) (Ae (Ad 1) Al)))))
   (Ap (p_4 3))
   Dc)))
  (Ap (bq_1 ap2 (RoomC.mono zq (by decide)) v_4))))
def ax_7(F:Fun K "chosen_places" "chosen_places" (Az 55) f fd):FnX P w K mg base true 7 f fd Lg (Bi K 3 o_0):=
 Bo (N:=["keys","salt","kind","chosen","number","place"]) F λzp zq hu nd zr=>(Aq (Bj (i:=3) [] bc_8 nd)
  (Aq (Gf [0,1,2] Ff zp (v_8 (De (Bg zq zr ah9 (Ae (Ad 0) (Ae (Ad 1) (Ae (Ad 2) Al)))) As)) (ai_4 (i:=4) (j:=5) zp nd)
   (Ap (bu_5 (i:=3) [5] hu (Ad 5) (Ad 4))))
  (Ap (Bk [0,3] (t_7 (N':=["keys","salt","kind","chosen","?4","place","number"]) zp (k_0 g9 (Ae (Cy Dw rfl i8 PySem.boot_len (Ae (Ad 0) Al)) Al)) rfl (by rfl') rfl (λC s0 H0 fp pn=>⟨(gcM (i:=6)),w_6,(bu_4 hu (Ad 3) (Ad 6))⟩))))))
def cj_2(F:Fun K "is_below" "is_below" (Az 9) f fd):FnX P w K mg base true 1 f fd ["number","limit"] (Bi K 2 l_7):=
 Bo (N:=["number","limit"]) F λzp zq hu nd zr=>(Ap (Bk [0,1] (cl_1 (ed_0 (bf_4 ae1 (Ad 0) j1 aq1 bp_0)) (cl_0 (ca_5 bu_0 av_0 As (Ad 0) (Ad 1))))))
def bz_1(F:Fun K "remainder" "remainder" (Az 36) f fd):FnX P w K mg base true 1 f fd L34 (Bi K 2 t_0):=
 Bo (N:= L34) F λzp zq hu nd zr=>(Ap (Bk [0,1] (cr_0 (Cm (Gn hu) (Ad 1) As (Cj _)) As (Av Fd (Ad 0) (Ad 1)))))
variable(n6:bi_8 P w K mg base)(u4:ba_8 P w K mg base)(az3:mg "sum" =none)
def dc_1(F:Fun K "summed" "summed" (Az 37) f fd):FnX P w K mg base true 2 f fd ["table","places","modulus"] (Bi K 3 p_0):=
 Bo (N:=["table","places","modulus","found"]) F λzp zq hu nd zr=>(Aq (bc_6 (i:=3) [0,1] (N':=["table","places","modulus","found","place"]) zp (v_8 (Ad 1)) rfl (by rfl') rfl (λC s0 H0 fp pn=>⟨(gcM (i:=4)),(cl_9 (i_0 (Bg (s_8 zq) x_7 n6 (Ae (Ad 4) (Ae (Cy Dw rfl i8 PySem.boot_len (Ae (Ad 0) Al)) Al))))),(De (Ad 0) (Ad 4))⟩) nd)
  (Ap (Bk [2,3] (Bg zq zr u4 (Ae (Cy (cy_7 zp) rfl az3 PyProof.Rows.boot_sum (Ae (Ad 3) Al)) (Ae (Ad 2) Al))))))
variable(ad0:ci_7 P w K mg base)(ai4:mg "reversed" =none)
def dc_2(F:Fun K "filled" "filled" (Az 38) f fd):FnX P w K mg base true 3 f fd L14 (Bi K 5 aj_2):=
 Bo (N:=["edges","size","order","wanted","modulus","table","number","place","lacking"]) F λzp zq hu nd zr=>(Aq (Bj (i:=5) [1] (cm_2 (Ae As Al) (Ad 1)) nd)
  (Aq (Gf [2] Ff zp (ee_4 ai4 (Ad 2)) (ai_4 (i:=6) (j:=7) zp nd)
   (Aq (Bj (i:=8) [0,3,4,5,6] (Av ar_5 (De (Ad 3) (Ad 6)) (Bg zq zr ad0 (Ae (Ad 5) (Ae (De (Ad 0) (Ad 6)) (Ae (Ad 4) Al))))) nd)
  (Ap (Cq [1,7] (i_0 (Bg zq zr n6 (Ae (Ad 7) (Ae (Ad 1) Al))))
   (Ap (ds_9 (i:=5) [4,8] (Bg zq zr u4 (Ae (Ad 8) (Ae (Ad 4) Al))) (Ad 7)))
   Dc))))
  (Ap (p_4 5))))
variable(r0:OFld K ["Table"] "by_salt")(v9:OFld K ["Table"] "kind")(aj7:OFld K ["Table"] "part")(y3:OFld K ["Table"] "modulus")(t8:OFld K ["Table"] "listed")
abbrev Lz:List Str:=["self","salt","kind","part","modulus","listed"]
def au_3(F:Fun K "__init__" "Table.__init__" (Bc 51 0) f fd){CI:Addr}(hCI:ClsAt K "Table" CI):FnX P w K mg base true 1 f fd Lz (spI K CI 5 aa_2):=
 Gk (n:=5) (cn:= "Table") (N:= Lz) F hCI (by decide) (by decide) λzp zq hu nd zr=>(Aq (Eo (i:=0) [1] r0 (Ad 1))
  (Aq (Eo (i:=0) [2] v9 (Ad 2))
  (Aq (Eo (i:=0) [3] aj7 (Ad 3))
  (Aq (Eo (i:=0) [4] y3 (Ad 4))
  (Ap (Eo (i:=0) [5] t8 (Ad 5)))))))
variable(aq6:ci_8 P w K mg base)(y2:Fj P w K mg base true "Table" 1 5 aa_2)
def bz_2(F:Fun K "table_for" "table_for" (Az 52) f fd):FnX P w K mg base true 7 f fd L18 (Bi K 5 g_8):=
 Bo (N:=["keys","salt","kind","modulus","wanted","part","edges","order"]) F λzp zq hu nd zr=>(Aq (Bj (i:=5) [0,2] (Bg zq zr k7 (Ae (Cy Dw rfl i8 PySem.boot_len (Ae (Ad 0) Al)) (Ae (Ad 2) Al))) nd)
  (Aq (Bj (i:=6) [0,1,2] (Bg zq zr y1 (Ae (Ad 0) (Ae (Ad 1) (Ae (Ad 2) Al)))) nd)
  (Aq (Bj (i:=7) [0,1,2] (De (Bg zq zr ah9 (Ae (Ad 0) (Ae (Ad 1) (Ae (Ad 2) Al)))) As) nd)
  (Ap (Bk [1,2,3,4,5,6,7] (r_3 zq zr y2 (Ae (Ad 1) (Ae (Ad 2) (Ae (Ad 5) (Ae (Ad 3) (Ae (Bg zq zr aq6 (Ae (Ad 6) (Ae (Av Dz (Ad 2) (Ad 5)) (Ae (Ad 7) (Ae (Ad 4) (Ae (Ad 3) Al)))))) Al)))))))))))
def ax_8(F:Fun K "row_with_ones" "row_with_ones" (Az 56) f fd):FnX P w K mg base true 1 f fd ["places","size"] (Bi K 2 k_7):=
 Bo (N:=["places","size"]) F λzp zq hu nd zr=>(Ap (Bk [0,1] (ar_8 PySem.F.plainAttrs_str PySem.F.slot_str_join PySem.F.type_str_join cc_3 Gq (Ae (t_7 (N':=["places","size","place"]) zp (k_0 g9 (Ae (Ad 1) Al)) rfl (by rfl') rfl (λC s0 H0 fp pn=>⟨(gcM (i:=2)),w_6,(cr_0 (Cm df_9 (Ad 2) (Ad 0) (by with_unfolding_all rfl)) Gq Gq)⟩)) Al))))
variable(d4:OFld K La "how_many")
abbrev L24:List Str:=["self","how_many"]
def ab_9(F:Fun K "__init__" "House.__init__" (Bc 54 0) f fd){CI:Addr}(hCI:ClsAt K "Peeled" CI):FnX P w K mg base true 1 f fd L24 (spI K CI 1 e_9):=
 Gk (n:=1) (cn:= "Peeled") (N:= L24) F hCI (by decide) (by decide) λzp zq hu nd zr=>(Ap (Eo (i:=0) [1] d4 (Ad 1)))
variable(l9:ba_7 P w K mg base)(v5:ah_1 P w K mg base)(l8:ba_9 P w K mg base)(v6:ah_2 P w K mg base)(m8:MakB P w K mg base true "House" "Peeled" 1 1 e_9)(b5:OFld K La "own_table")(k8:OFld K Le "used_row")
def aq_5(F:Fun K "__init__" "Peeled.__init__" (Bc 57 0) f fd){CI:Addr}(hCI:ClsAt K "Peeled" CI):FnX P w K mg base true 9 f fd ["self","keys","kind","most"] (spI K CI 3 w_0):=
 Gk (n:=3) (cn:= "Peeled") (N:=["self","keys","kind","most","salt","part","chosen"]) F hCI (by decide) (by decide) λzp zq hu nd zr=>(Aq (Bj (i:=4) [1,2,3] (Bg zq zr l9 (Ae (Ad 1) (Ae (Ad 2) (Ae (Ad 3) Al)))) nd)
  (Aq (cf_6 (i:=0) [1] zq zr m8 (Cy Dw rfl i8 PySem.boot_len (Ae (Ad 1) Al)))
  (Aq (Bj (i:=5) [1,2] (Bg zq zr k7 (Ae (Cy Dw rfl i8 PySem.boot_len (Ae (Ad 1) Al)) (Ae (Ad 2) Al))) nd)
  (Aq (Bj (i:=6) [1,2,4] (Bg zq zr v5 (Ae (Ad 1) (Ae (Ad 4) (Ae (Ad 2) Al)))) nd)
  (Aq (Eo (i:=0) [1,2,4,5,6] b5 (Bg zq zr l8 (Ae (Ad 1) (Ae (Ad 4) (Ae (Ad 2) (Ae (Ad 2) (Ae (t_7 (N':=["self","keys","kind","most","salt","part","chosen","place"]) zp (v_8 (Ad 6)) rfl (by rfl') rfl (λC s0 H0 fp pn=>⟨(gcM (i:=7)),w_6,(Av l_0 (Ad 7) (Ad 5))⟩)) Al)))))))
  (Ap (Eo (i:=0) [2,5,6] k8 (Bg zq zr v6 (Ae (Ad 6) (Ae (Av Dz (Ad 2) (Ad 5)) Al))))))))))
def z_8(F:Fun K "__init__" "House.__init__" (Bc 54 0) f fd){CI:Addr}(hCI:ClsAt K "Ordered" CI):FnX P w K mg base true 1 f fd L24 (spI K CI 1 e_3):=
 Gk (n:=1) (cn:= "Ordered") (N:= L24) F hCI (by decide) (by decide) λzp zq hu nd zr=>(Ap (Eo (i:=0) [1] d4 (Ad 1)))
variable(l6:MakB P w K mg base true "House" "Ordered" 1 1 e_3)
def am_0(F:Fun K "__init__" "Ordered.__init__" (Bc 58 0) f fd){CI:Addr}(hCI:ClsAt K "Ordered" CI):FnX P w K mg base true 9 f fd ["self","keys","kind","most"] (spI K CI 3 t_1):=
 Gk (n:=3) (cn:= "Ordered") (N:=["self","keys","kind","most","salt"]) F hCI (by decide) (by decide) λzp zq hu nd zr=>(Aq (Bj (i:=4) [1,2,3] (Bg zq zr l9 (Ae (Ad 1) (Ae (Ad 2) (Ae (Ad 3) Al)))) nd)
  (Aq (cf_6 (i:=0) [1] zq zr l6 (Cy Dw rfl i8 PySem.boot_len (Ae (Ad 1) Al)))
  (Ap (Eo (i:=0) [1,2,4] b5 (Bg zq zr l8 (Ae (Ad 1) (Ae (Ad 4) (Ae (Ad 2) (Ae (Cy Dw rfl i8 PySem.boot_len (Ae (Ad 1) Al)) (Ae (ab_0 zp p7 g9 (Ae (Cy Dw rfl i8 PySem.boot_len (Ae (Ad 1) Al)) Al)) Al))))))))))
def dc_3(F:Fun K "two_to" "two_to" (Az 10) f fd):FnX P w K mg base true 1 f fd ["width"] (Bi K 1 m_5):=
 Bo (N:=["width","power","turn"]) F λzp zq hu nd zr=>(Aq (Bj (i:=1) [] As nd)
  (Aq (Gf [0] Ff zp (k_0 g9 (Ae (Ad 0) Al)) (n_1 (i:=2) nd)
   (Ap (Bj (i:=1) [1] (Av Dz (Ad 1) As) nd)))
  (Ap (p_4 1))))
variable{x6:Addr}(af6:XC P w K mg base "NoValue" "at" x6)
def bj_6(F:Fun K "look_values" "look_values" (Az 60) f fd):FnX P w K mg base true 3 f fd ["values","many","limit"] (Bi K 3 j_7):=
 Bo (N:=["values","many","limit","place","value"]) F λzp zq hu nd zr=>(Aq (Gf [0] Ff zp (al_0 j7 (Ad 0)) (ai_4 (i:=3) (j:=4) zp nd)
   (Ap (Cq [1,2,3,4] (Gx (bo_2 (Cm ed_6 (Ad 3) (Ad 1) (Cj _)) (au_8 (au_9 (i_0 (Bg zq zr n6 (Ae (Ad 4) (Ae (Ad 2) Al))))))))
   (Ap (v_9 [3] af6 (RoomC.mono zq (by decide)) v_4 (Ad 3)))
   Dc)))
  (Ap (Cq [0,1] (Cm av_0 (Cy Dw rfl i8 PySem.boot_len (Ae (Ad 0) Al)) (Ad 1) (Cj _))
   (Ap (v_9 [0] af6 (RoomC.mono zq (by decide)) v_4 (Cy Dw rfl i8 PySem.boot_len (Ae (Ad 0) Al))))
   Dc)))
variable(o7:ci_9 P w K mg base)(aa2:ao_4 P w K mg base)(l4:OFld K Lb "width")
def ax_9(F:Fun K "__init__" "Kept.__init__" (Bc 61 0) f fd){CI:Addr}(hCI:ClsAt K "Kept" CI):FnX P w K mg base true 9 f fd ["self","keys","values","width","kind","most"] (spI K CI 5 aj_3):=
 Gk (n:=5) (cn:= "Kept") (N:=["self","keys","values","width","kind","most","limit","salt"]) F hCI (by decide) (by decide) λzp zq hu nd zr=>(Aq (Bj (i:=6) [3] (Bg zq zr o7 (Ae (Ad 3) Al)) nd)
  (Aq (Eo (i:=0) [1] d4 (Bg zq zr o8 (Ae (Ad 1) Al)))
  (Aq (ak_9 [1,2,6] (Bg zq zr aa2 (Ae (Ad 2) (Ae (Cy Dw rfl i8 PySem.boot_len (Ae (Ad 1) Al)) (Ae (Ad 6) Al)))))
  (Aq (Bj (i:=7) [1,4,5] (Bg zq zr l9 (Ae (Ad 1) (Ae (Ad 4) (Ae (Ad 5) Al)))) nd)
  (Aq (Eo (i:=0) [3] l4 (Ad 3))
  (Ap (Eo (i:=0) [1,2,4,6,7] b5 (Bg zq zr l8 (Ae (Ad 1) (Ae (Ad 7) (Ae (Ad 4) (Ae (Ad 6) (Ae (Ad 2) Al)))))))))))))
variable{av0:Tok}(ae4:mg "MARK_SALT" =some (.int 3 av0))
def dy_4(F:Fun K "mark" "mark" (Az 31) f fd):FnX P w K mg base true 4 f fd ["key","width"] (Bi K 2 aq_0):=
 Bo (N:=["key","width"]) F λzp zq hu nd zr=>(Ap (Bk [0,1] (Bg zq zr ak8 (Ae (Bg zq zr ak4 (Ae (Ad 0) Al)) (Ae (ae_5 rfl ae4) (Ae (Bg zq zr o7 (Ae (Ad 1) Al)) Al))))))
variable(al4:do_4 P w K mg base)
def aq_6(F:Fun K "__init__" "Marked.__init__" (Bc 62 0) f fd){CI:Addr}(hCI:ClsAt K "Marked" CI):FnX P w K mg base true 9 f fd ["self","keys","width","kind","most"] (spI K CI 4 w_1):=
 Gk (n:=4) (cn:= "Marked") (N:=["self","keys","width","kind","most","salt"]) F hCI (by decide) (by decide) λzp zq hu nd zr=>(Aq (Bj (i:=5) [1,3,4] (Bg zq zr l9 (Ae (Ad 1) (Ae (Ad 3) (Ae (Ad 4) Al)))) nd)
  (Aq (Eo (i:=0) [1] d4 (Cy Dw rfl i8 PySem.boot_len (Ae (Ad 1) Al)))
  (Aq (Eo (i:=0) [2] l4 (Ad 2))
  (Ap (Eo (i:=0) [1,2,3,5] b5 (Bg zq zr l8 (Ae (Ad 1) (Ae (Ad 5) (Ae (Ad 3) (Ae (Bg zq zr o7 (Ae (Ad 2) Al)) (Ae (t_7 (N':=["self","keys","width","kind","most","salt","key"]) zp (v_8 (Ad 1)) rfl (by rfl') rfl (λC s0 H0 fp pn=>⟨(gcM (i:=6)),w_6,(Bg (s_8 zq) x_7 al4 (Ae (Ad 6) (Ae (Ad 2) Al)))⟩)) Al)))))))))))
variable(al1:Fj P w K mg base true "Peeled" 9 3 w_0)(ah7:Fj P w K mg base true "Ordered" 9 3 t_1)(at3:Fj P w K mg base true "Kept" 9 5 aj_3)(al3:Fj P w K mg base true "Marked" 9 4 w_1)(aj5:mg "NoTry" =some (.ref n8))(ar7:Catches K n8 L96)
def cj_3(F:Fun K "_law_made" "_law_made" (Az 78) f fd):FnX P w K mg base true 11 f fd Ln (Bi K 6 s_4):=
 Bo (N:=["_law_form","_law_keys","_law_values","_law_width","_law_kind","_law_most","_law_found"]) F λzp zq hu nd zr=>(Aq (Bj (i:=6) [] ai_1 nd)
  (Aq (dv_1 nd rfl rfl (λzc W EXB lkB=>(Ap (Cq [0] (Cm (Gn hu) (Ad 0) As (Cj _))
   (Ap (Bj (i:=6) [1,4,5] (r_3 (as_4 zq) lkB al1 (Ae (Ad 1) (Ae (Ad 4) (Ae (Ad 5) Al)))) nd))
   (Ap (Cq [0] (Cm (Gn hu) (Ad 0) As (Cj _))
   (Ap (Bj (i:=6) [1,4,5] (r_3 (as_4 zq) lkB ah7 (Ae (Ad 1) (Ae (Ad 4) (Ae (Ad 5) Al)))) nd))
   (Ap (Cq [0] (Cm (Gn hu) (Ad 0) As (Cj _))
   (Ap (Bj (i:=6) [1,2,3,4,5] (r_3 (as_4 zq) lkB at3 (Ae (Ad 1) (Ae (Ad 2) (Ae (Ad 3) (Ae (Ad 4) (Ae (Ad 5) Al)))))) nd))
   (Ap (Bj (i:=6) [1,3,4,5] (r_3 (as_4 zq) lkB al3 (Ae (Ad 1) (Ae (Ad 3) (Ae (Ad 4) (Ae (Ad 5) Al))))) nd))))))))) (HOk3.bare aj5 ar7 (λe=>(Ap (Bj (i:=6) [] ai_1 nd))) .nil))
  (Ap (p_4 6))))
variable(au7:mg "max" =none)
def bj_7(F:Fun K "ones_before" "ones_before" (Az 17) f fd):FnX P w K mg base true 1 f fd ["bits","place"] (Bi K 2 o_4):=
 Bo (N:=["bits","place"]) F λzp zq hu nd zr=>(Ap (Bk [0,1] (ar_8 PySem.F.plainAttrs_str PySem.F.slot_str_count PySem.F.type_str_count cy_0 (bf_2 (Ad 0) ds_1 (ar_7 (Cy (bo_7 zp) rfl au7 PyProof.Rows.boot_max (Ae (Ad 1) (Ae As Al))))) (Ae Gq Al))))
abbrev Lc:List Str:=["self","key"]
def bc_2(F:Fun K "places" "Table.places" (Bc 51 3) f fd):FnX P w K mg base true 5 f fd Lc (Bi K 2 f_0):=
 Bo (N:= Lc) F λzp zq hu nd zr=>(Ap (Bk [0,1] (Bg zq zr u6 (Ae (Ad 1) (Ae (Dp r0 (Ad 0)) (Ae (Dp v9 (Ad 0)) (Ae (Dp aj7 (Ad 0)) Al)))))))
variable(l7:MethT P w K mg base true 5 1 "places" [("Table",f_0)])
def ad_8(F:Fun K "places" "Peeled.places" (Bc 57 4) f fd):FnX P w K mg base true 6 f fd Lc (Bi K 2 d_0):=
 Bo (N:= Lc) F λzp zq hu nd zr=>(Ap (Bk [0,1] (r_2 l7 zq zr (Dp b5 (Ad 0)) (Ae (Ad 1) Al))))
def bj_8(F:Fun K "total" "Table.total" (Bc 51 4) f fd):FnX P w K mg base true 6 f fd Lc (Bi K 2 c_6):=
 Bo (N:= Lc) F λzp zq hu nd zr=>(Ap (Bk [0,1] (Bg zq zr ad0 (Ae (Dp t8 (Ad 0)) (Ae (r_2 l7 zq zr (Ad 0) (Ae (Ad 1) Al)) (Ae (Dp y3 (Ad 0)) Al))))))
variable(u0:ao_5 P w K mg base)(j5:MethT P w K mg base true 6 1 "places" J12)(h8:MethT P w K mg base true 6 1 "total" [("Table",c_6)])
def x_3(F:Fun K "number_of" "Peeled.number_of" (Bc 57 5) f fd):FnX P w K mg base true 7 f fd Lc (Bi K 2 c_2):=
 Bo (N:=["self","key","choice"]) F λzp zq hu nd zr=>(Aq (Bj (i:=2) [0,1] (De (r_2 j5 zq zr (Ad 0) (Ae (Ad 1) Al)) (r_2 h8 zq zr (Dp b5 (Ad 0)) (Ae (Ad 1) Al))) nd)
  (Ap (Bk [0,2] (Bg zq zr u0 (Ae (Dp k8 (Ad 0)) (Ae (Ad 2) Al))))))
def w_5(F:Fun K "number_of" "Ordered.number_of" (Bc 58 4) f fd):FnX P w K mg base true 7 f fd Lc (Bi K 2 c_1):=
 Bo (N:= Lc) F λzp zq hu nd zr=>(Ap (Bk [0,1] (r_2 h8 zq zr (Dp b5 (Ad 0)) (Ae (Ad 1) Al))))
variable(c7:MethT P w K mg base true 7 1 "number_of" L98)
def u_3(F:Fun K "room" "House.room" (Bc 54 2) f fd):FnX P w K mg base true 8 f fd Lc (Bi K 2 b_5):=
 Bo (N:= Lc) F λzp zq hu nd zr=>(Ap (Bk [0,1] (Cy (cx_6 zp) rfl an0 PyProof.Rows.boot_min (Ae (r_2 c7 zq zr (Ad 0) (Ae (Ad 1) Al)) (Ae (Av ar_5 (Dp d4 (Ad 0)) As) Al)))))
variable(c9:MethT P w K mg base true 8 1 "room" J10)
def r_9(F:Fun K "rooms" "House.rooms" (Bc 54 3) f fd):FnX P w K mg base true 9 f fd ["self","keys"] (Bi K 2 b_4):=
 Bo (N:=["self","keys"]) F λzp zq hu nd zr=>(Aq (ak_9 [1] (Bg zq zr j9 (Ae (Ad 1) Al)))
  (Ap (Bk [0,1] (t_7 (N':=["self","keys","key"]) zp (v_8 (Ad 1)) rfl (by rfl') rfl (λC s0 H0 fp pn=>⟨(gcM (i:=2)),w_6,(r_2 c9 (s_8 zq) x_7 (Ad 0) (Ae (Ad 2) Al))⟩)))))
def ao_9(F:Fun K "value" "Kept.value" (Bc 61 5) f fd):FnX P w K mg base true 7 f fd Lc (Bi K 2 f_5):=
 Bo (N:= Lc) F λzp zq hu nd zr=>(Ap (Bk [0,1] (r_2 h8 zq zr (Dp b5 (Ad 0)) (Ae (Ad 1) Al))))
def ah_4(F:Fun K "knows" "Marked.knows" (Bc 62 5) f fd):FnX P w K mg base true 7 f fd Lc (Bi K 2 d_7):=
 Bo (N:= Lc) F λzp zq hu nd zr=>(Ap (Bk [0,1] (ap_2 (Gn hu) (r_2 h8 zq zr (Dp b5 (Ad 0)) (Ae (Ad 1) Al)) (Bg zq zr al4 (Ae (Ad 1) (Ae (Dp l4 (Ad 0)) Al))) (Cj _))))
variable(f9:MethT P w K mg base true 9 1 "rooms" J11)(m9:MethT P w K mg base true 7 1 "value" J15)(l2:MethT P w K mg base true 7 1 "knows" J13)
abbrev L11:List Str:=["_law_house","_law_form","_law_keys","_law_key"]
def bj_9(F:Fun K "_law_answers" "_law_answers" (Az 79) f fd):FnX P w K mg base true 10 f fd Lx (Bi K 3 c_8):=
 Bo (N:= Lx) F λzp zq hu nd zr=>(Aq (Cq [1] (Cm av_0 (Ad 1) As (Cj _))
   (Ap (Bk [0,2] (r_2 f9 zq zr (Ad 0) (Ae (u_7 aa_1 rfl p7 PyProof.Rows.boot_list (Ae (Ad 2) Al)) Al))))
   Dc)
  (Aq (Cq [1] (Cm (Gn hu) (Ad 1) As (Cj _))
   (Ap (Bk [0,2] (t_7 (N':= L11) zp (v_8 (Ad 2)) rfl (by rfl') rfl (λC s0 H0 fp pn=>⟨(gcM (i:=3)),w_6,(r_2 m9 (s_8 zq) x_7 (Ad 0) (Ae (Ad 3) Al))⟩))))
   Dc)
  (Ap (Bk [0,2] (t_7 (N':= L11) zp (v_8 (Ad 2)) rfl (by rfl') rfl (λC s0 H0 fp pn=>⟨(gcM (i:=3)),w_6,(r_2 l2 (s_8 zq) x_7 (Ad 0) (Ae (Ad 3) Al))⟩))))))
def cp_6(F:Fun K "_law_due" "_law_due" (Az 80) f fd):FnX P w K mg base true 1 f fd Lw (Bi K 3 v_1):=
 Bo (N:= Lw) F λzp zq hu nd zr=>(Ap (Bk [0,1,2] (De (u_6 (Ae ai_1 (Ae (ab_0 zp p7 g9 (Ae (Cy Dw rfl i8 PySem.boot_len (Ae (Ad 1) Al)) Al)) (Ae (Ad 2) (Ae (cm_2 (Ae Ga Al) (Cy Dw rfl i8 PySem.boot_len (Ae (Ad 1) Al))) Al))))) (Ad 0))))
def au_4(F:Fun K "number_written" "number_written" (Az 11) f fd):FnX P w K mg base true 1 f fd ["number","width"] (Bi K 2 m_6):=
 Bo (N:=["number","width","signs","rest","turn"]) F λzp zq hu nd zr=>(Aq (Bj (i:=2) [] Gq nd)
  (Aq (Bj (i:=3) [0] (Ad 0) nd)
  (Aq (Gf [1] Ff zp (k_0 g9 (Ae (Ad 1) Al)) (n_1 (i:=4) nd)
   (Aq (Bj (i:=2) [2,3] (Av Cu (u_7 cl_3 rfl aq3 PyProof.Rows.boot_str (Ae (Av Fd (Ad 3) As) Al)) (Ad 2)) nd)
  (Ap (Bj (i:=3) [3] (Av l_0 (Ad 3) As) nd))))
  (Ap (p_4 2)))))
variable(t7:ad_7 P w K mg base){aa9:Addr}(aa5:XC P w K mg base "NoBits" "at" aa9)
def cp_7(F:Fun K "written" "written" (Az 12) f fd):FnX P w K mg base true 3 f fd ["numbers","width"] (Bi K 2 ad_0):=
 Bo (N:=["numbers","width","limit","place","number"]) F λzp zq hu nd zr=>(Aq (Bj (i:=2) [1] (Bg zq zr o7 (Ae (Ad 1) Al)) nd)
  (Aq (Gf [0] Ff zp (al_0 j7 (Ad 0)) (ai_4 (i:=3) (j:=4) zp nd)
   (Ap (Cq [2,4] (au_9 (i_0 (Bg zq zr n6 (Ae (Ad 4) (Ae (Ad 2) Al)))))
   (Ap (v_9 [3] aa5 (RoomC.mono zq (by decide)) v_4 (Ad 3)))
   Dc)))
  (Ap (Bk [0,1] (ar_8 PySem.F.plainAttrs_str PySem.F.slot_str_join PySem.F.type_str_join cc_3 Gq (Ae (t_7 (N':=["numbers","width","limit","place","?4","number"]) zp (v_8 (Ad 0)) rfl (by rfl') rfl (λC s0 H0 fp pn=>⟨(gcM (i:=5)),w_6,(Bg (s_8 zq) x_7 t7 (Ae (Ad 5) (Ae (Ad 1) Al)))⟩)) Al))))))
def bk_0(F:Fun K "table" "Table.table" (Bc 51 2) f fd):FnX P w K mg base true 1 f fd ["self"] (Bi K 1 j_8):=
 Bo (N:=["self"]) F λzp zq hu nd zr=>(Ap (Bk [0] (u_7 aa_1 rfl p7 PyProof.Rows.boot_list (Ae (Dp t8 (Ad 0)) Al))))
variable(h9:MethT P w K mg base true 1 0 "table" [("Table",j_8)])
def ah_5(F:Fun K "table" "Peeled.table" (Bc 57 2) f fd):FnX P w K mg base true 2 f fd ["self"] (Bi K 1 d_8):=
 Bo (N:=["self"]) F λzp zq hu nd zr=>(Ap (Bk [0] (l_1 h9 zq zr (Dp b5 (Ad 0)))))
def ad_9(F:Fun K "table" "Ordered.table" (Bc 58 2) f fd):FnX P w K mg base true 2 f fd ["self"] (Bi K 1 d_1):=
 Bo (N:=["self"]) F λzp zq hu nd zr=>(Ap (Bk [0] (l_1 h9 zq zr (Dp b5 (Ad 0)))))
def ap_0(F:Fun K "table" "Kept.table" (Bc 61 3) f fd):FnX P w K mg base true 2 f fd ["self"] (Bi K 1 f_6):=
 Bo (N:=["self"]) F λzp zq hu nd zr=>(Ap (Bk [0] (l_1 h9 zq zr (Dp b5 (Ad 0)))))
def ah_6(F:Fun K "table" "Marked.table" (Bc 62 3) f fd):FnX P w K mg base true 2 f fd ["self"] (Bi K 1 d_9):=
 Bo (N:=["self"]) F λzp zq hu nd zr=>(Ap (Bk [0] (l_1 h9 zq zr (Dp b5 (Ad 0)))))
def u_4(F:Fun K "many" "House.many" (Bc 54 1) f fd):FnX P w K mg base true 1 f fd ["self"] (Bi K 1 b_6):=
 Bo (N:=["self"]) F λzp zq hu nd zr=>(Ap (Bk [0] (Dp d4 (Ad 0))))
def au_5(F:Fun K "many" "Kept.many" (Bc 61 1) f fd):FnX P w K mg base true 1 f fd ["self"] (Bi K 1 g_9):=
 Bo (N:=["self"]) F λzp zq hu nd zr=>(Ap (Bk [0] (Dp d4 (Ad 0))))
def ak_4(F:Fun K "many" "Marked.many" (Bc 62 1) f fd):FnX P w K mg base true 1 f fd ["self"] (Bi K 1 e_4):=
 Bo (N:=["self"]) F λzp zq hu nd zr=>(Ap (Bk [0] (Dp d4 (Ad 0))))
def bm_7(F:Fun K "salt" "Table.salt" (Bc 51 1) f fd):FnX P w K mg base true 1 f fd ["self"] (Bi K 1 l_3):=
 Bo (N:=["self"]) F λzp zq hu nd zr=>(Ap (Bk [0] (Dp r0 (Ad 0))))
variable(j0:MethT P w K mg base true 1 0 "salt" [("Table",l_3)])
def ak_5(F:Fun K "salt" "Peeled.salt" (Bc 57 1) f fd):FnX P w K mg base true 2 f fd ["self"] (Bi K 1 g_2):=
 Bo (N:=["self"]) F λzp zq hu nd zr=>(Ap (Bk [0] (l_1 j0 zq zr (Dp b5 (Ad 0)))))
def ah_7(F:Fun K "salt" "Ordered.salt" (Bc 58 1) f fd):FnX P w K mg base true 2 f fd ["self"] (Bi K 1 f_1):=
 Bo (N:=["self"]) F λzp zq hu nd zr=>(Ap (Bk [0] (l_1 j0 zq zr (Dp b5 (Ad 0)))))
def au_6(F:Fun K "salt" "Kept.salt" (Bc 61 2) f fd):FnX P w K mg base true 2 f fd ["self"] (Bi K 1 i_3):=
 Bo (N:=["self"]) F λzp zq hu nd zr=>(Ap (Bk [0] (l_1 j0 zq zr (Dp b5 (Ad 0)))))
def ak_6(F:Fun K "salt" "Marked.salt" (Bc 62 2) f fd):FnX P w K mg base true 2 f fd ["self"] (Bi K 1 g_3):=
 Bo (N:=["self"]) F λzp zq hu nd zr=>(Ap (Bk [0] (l_1 j0 zq zr (Dp b5 (Ad 0)))))
variable(am0:bs_3 P w K mg base)(b9:MethT P w K mg base true 2 0 "table" L90)(c6:MethT P w K mg base true 1 0 "many" L91)(c8:MethT P w K mg base true 2 0 "salt" L97)
def cp_8(F:Fun K "told_by" "told_by" (Az 68) f fd):FnX P w K mg base true 4 f fd ["name","house","width","used"] (Bi K 4 k_8):=
 Bo (N:=["name","house","width","used","bits"]) F λzp zq hu nd zr=>(Aq (Bj (i:=4) [1,2] (Bg zq zr am0 (Ae (l_1 b9 zq zr (Ad 1)) (Ae (Ad 2) Al))) nd)
  (Ap (Bk [0,1,2,3,4] (df_0 (Ae (Ad 0) (Ae (Dp v9 (Dp b5 (Ad 1))) (Ae (l_1 c8 zq zr (Ad 1)) (Ae (l_1 c6 zq zr (Ad 1)) (Ae (Ad 2) (Ae (Ad 4) (Ae (Ad 3) Al)))))))))))
def bz_3(F:Fun K "width_for" "width_for" (Az 18) f fd):FnX P w K mg base true 1 f fd ["number"] (Bi K 1 n_0):=
 Bo (N:=["number"]) F λzp zq hu nd zr=>(Ap (Bk [0] (Cy (bo_7 zp) rfl au7 PyProof.Rows.boot_max (Ae (dg_8 PySem.F.plainAttrs_int PySem.F.slot_int_bit_length PySem.F.type_int_bit_length cx_9 (Av ar_5 (Ad 0) As)) (Ae As Al)))))
def ak_7(F:Fun K "used" "Peeled.used" (Bc 57 3) f fd):FnX P w K mg base true 1 f fd ["self"] (Bi K 1 g_4):=
 Bo (N:=["self"]) F λzp zq hu nd zr=>(Ap (Bk [0] (Dp k8 (Ad 0))))
variable(x5:bs_4 P w K mg base)(y7:bb_0 P w K mg base)(l5:MethT P w K mg base true 1 0 "used" J14){f6:Addr}(am5:IsOneO K (.ref f6) L92)(af7:mg "Peeled" =some (.ref f6)){d9:Addr}(ai3:IsOneO K (.ref d9) L93)(ab6:mg "Ordered" =some (.ref d9)){j8:Addr}(at4:IsOneO K (.ref j8) L94)(ao8:mg "Kept" =some (.ref j8)){g7:Addr}(am8:IsOneO K (.ref g7) L95)(af3:mg "Marked" =some (.ref g7))
def bm_8(F:Fun K "house_told" "house_told" (Az 69) f fd):FnX P w K mg base true 5 f fd ["house"] (Bi K 1 d_4):=
 Bo (N:=["house"]) F λzp zq hu nd zr=>(Aq (Cq [0] (i_0 (bw_2 am5 (Ad 0) j1 af7))
   (Ap (Bk [0] (Bg zq zr x5 (Ae Gq (Ae (Ad 0) (Ae (Bg zq zr y7 (Ae (Dp v9 (Dp b5 (Ad 0))) Al)) (Ae (l_1 l5 zq zr (Ad 0)) Al)))))))
   Dc)
  (Aq (Cq [0] (i_0 (bw_2 ai3 (Ad 0) j1 ab6))
   (Ap (Bk [0] (Bg zq zr x5 (Ae Gq (Ae (Ad 0) (Ae (Bg zq zr y7 (Ae (l_1 c6 zq zr (Ad 0)) Al)) (Ae Gq Al)))))))
   Dc)
  (Aq (Cq [0] (i_0 (bw_2 at4 (Ad 0) j1 ao8))
   (Ap (Bk [0] (Bg zq zr x5 (Ae Gq (Ae (Ad 0) (Ae (Dp l4 (Ad 0)) (Ae Gq Al)))))))
   Dc)
  (Aq (Cq [0] (i_0 (bw_2 am8 (Ad 0) j1 af3))
   (Ap (Bk [0] (Bg zq zr x5 (Ae Gq (Ae (Ad 0) (Ae (Dp l4 (Ad 0)) (Ae Gq Al)))))))
   Dc)
  (Ap (Bk [] ai_1))))))
def bz_4(F:Fun K "_law_table" "_law_table" (Az 81) f fd):FnX P w K mg base true 1 f fd ["_law_what","_law_many"] (Bi K 2 t_2):=
 Bo (N:=["_law_what","_law_many","_law_part","_law_found","_law_at","_law_name","_law_kind","_law_salt","_law_rooms","_law_width","_law_bits","_law_used","_law_number","_law_sign"]) F λzp zq hu nd zr=>(Aq (ee_5 [0] (Ad 0) (dv_4 zp (ae_9 (i:=5) nd (ae_9 (i:=6) nd (ae_9 (i:=7) nd (ae_9 (i:=8) nd (ae_9 (i:=9) nd (ae_9 (i:=10) nd (ae_9 (i:=11) nd ef_9)))))))))
  (Aq (Bj (i:=2) [1,6] (De (u_6 (Ae (Av Cu (Av Cu (Ad 1) (Av l_0 (Ad 1) As)) As) (Ae (Av Cu (Av l_0 (Av Dz As (Ad 1)) As) As) Al))) (Av ar_5 (Ad 6) As)) nd)
  (Aq (Cq [1,2,6,8,9,10] (Gx (bo_2 (Cm (ae_6 hu) (Cy Dw rfl i8 PySem.boot_len (Ae (Ad 10) Al)) (Av Dz (Av Dz (Ad 9) (Ad 6)) (Ad 2)) (Cj _)) (au_8 (Cm (ae_6 hu) (Ad 8) (Ad 1) (Cj _)))))
   (Ap (Bk [] ai_1))
   Dc)
  (Aq (Bj (i:=3) [] (u_6 Al) nd)
  (Aq (Gf [9,10] Ff zp (cy_2 g9 (Ae As (Ae (Cy Dw rfl i8 PySem.boot_len (Ae (Ad 10) Al)) (Ae (Ad 9) Al)))) (n_1 (i:=4) nd)
   (Aq (Bj (i:=12) [] As nd)
  (Aq (Gf [4,9,10] Ff zp (v_8 (bf_2 (Ad 10) (ar_7 (Ad 4)) (ar_7 (Av Cu (Ad 4) (Ad 9))))) (n_1 (i:=13) nd)
   (Ap (Bj (i:=12) [12,13] (Av Cu (Av Dz As (Ad 12)) (ar_8 PySem.F.plainAttrs_str PySem.F.slot_str_index PySem.F.type_str_index cy_5 Gq (Ae (Ad 13) Al))) nd)))
  (Ap (av_2 (i:=3) (Ad 12))))))
  (Ap (p_4 3)))))))
def bk_1(F:Fun K "is_multiple" "is_multiple" (Az 13) f fd):FnX P w K mg base true 1 f fd ["length","width"] (Bi K 2 q_6):=
 Bo (N:=["length","width"]) F λzp zq hu nd zr=>(Aq (Cq [1] (Cm av_0 (Ad 1) As (Cj _))
   (Ap (Bk [0] (ap_2 (Gn hu) (Ad 0) As (Cj _))))
   Dc)
  (Ap (Bk [0,1] (ap_2 (Gn hu) (Av Fd (Ad 0) (Ad 1)) As (Cj _)))))
variable(aa4:ao_7 P w K mg base)
def bz_5(F:Fun K "look_bits" "look_bits" (Az 14) f fd):FnX P w K mg base true 3 f fd L29 (Bi K 2 w_2):=
 Bo (N:=["bits","width","place","sign"]) F λzp zq hu nd zr=>(Aq (Gf [0] Ff zp (al_0 j7 (Ad 0)) (ai_4 (i:=2) (j:=3) zp nd)
   (Ap (Cq [3] (Gx (bt_5 (Cm (ae_6 hu) (Ad 3) Gq (Cj _)) (bc_3 (Cm (ae_6 hu) (Ad 3) Gq (Cj _)))))
   (Ap (v_9 [2] aa5 (RoomC.mono zq (by decide)) v_4 (Ad 2)))
   Dc)))
  (Ap (Cq [0,1] (au_9 (i_0 (Bg zq zr aa4 (Ae (Cy Dw rfl i8 PySem.boot_len (Ae (Ad 0) Al)) (Ae (Ad 1) Al)))))
   (Ap (v_9 [0] aa5 (RoomC.mono zq (by decide)) v_4 (Cy Dw rfl i8 PySem.boot_len (Ae (Ad 0) Al))))
   Dc)))
def bk_2(F:Fun K "number_read" "number_read" (Az 15) f fd):FnX P w K mg base true 1 f fd ["bits"] (Bi K 1 q_7):=
 Bo (N:=["bits","number","sign"]) F λzp zq hu nd zr=>(Aq (Bj (i:=1) [] As nd)
  (Aq (Gf [0] Ff zp (v_8 (Ad 0)) (n_1 (i:=2) nd)
   (Ap (Bj (i:=1) [1,2] (Av Cu (Av Dz As (Ad 1)) (cr_0 (Cm (Gn hu) (Ad 2) Gq (Cj _)) As As)) nd)))
  (Ap (p_4 1))))
variable(af0:bb_2 P w K mg base)(aa1:ao_8 P w K mg base)
def bz_6(F:Fun K "read_bits" "read_bits" (Az 16) f fd):FnX P w K mg base true 4 f fd L29 (Bi K 2 w_3):=
 Bo (N:=["bits","width","numbers","start"]) F λzp zq hu nd zr=>(Aq (ak_9 [0,1] (Bg zq zr af0 (Ae (Ad 0) (Ae (Ad 1) Al))))
  (Aq (Bj (i:=2) [] (u_6 Al) nd)
  (Aq (Bj (i:=3) [] As nd)
  (Aq (cb_5 [0,3] 3000 Ff (Cm av_0 (Ad 3) (Cy Dw rfl i8 PySem.boot_len (Ae (Ad 0) Al)) (Cj _))
   (Aq (av_2 (i:=2) (Bg zq zr aa1 (Ae (bf_2 (Ad 0) (ar_7 (Ad 3)) (ar_7 (Av Cu (Ad 3) (Ad 1)))) Al)))
  (Ap (Bj (i:=3) [1,3] (Av Cu (Ad 3) (Ad 1)) nd))))
  (Ap (p_4 2))))))
variable(ad2:bb_3 P w K mg base)
def ay_0(F:Fun K "numbers_again" "numbers_again" (Az 70) f fd):FnX P w K mg base true 5 f fd L26 (Bi K 3 o_2):=
 Bo (N:= L26) F λzp zq hu nd zr=>(Ap (Bk [0,1,2] (cr_0 (Cm cl_2 (Ad 1) As (Cj _)) (Bg zq zr ad2 (Ae (Ad 0) (Ae (Ad 1) Al))) (cm_2 (Ae As Al) (Ad 2)))))
abbrev L20:List Str:=["self","how_many","own_table","used_row"]
def ae_0(F:Fun K "__init__" "PeeledAgain.__init__" (Bc 64 0) f fd){CI:Addr}(hCI:ClsAt K "PeeledAgain" CI):FnX P w K mg base true 1 f fd L20 (spI K CI 3 q_9):=
 Gk (n:=3) (cn:= "PeeledAgain") (N:= L20) F hCI (by decide) (by decide) λzp zq hu nd zr=>(Aq (Eo (i:=0) [1] d4 (Ad 1))
  (Aq (Eo (i:=0) [2] b5 (Ad 2))
  (Ap (Eo (i:=0) [3] k8 (Ad 3)))))
def ac_0(F:Fun K "__init__" "OrderedAgain.__init__" (Bc 65 0) f fd){CI:Addr}(hCI:ClsAt K "OrderedAgain" CI):FnX P w K mg base true 1 f fd ["self","how_many","own_table"] (spI K CI 2 p_1):=
 Gk (n:=2) (cn:= "OrderedAgain") (N:=["self","how_many","own_table"]) F hCI (by decide) (by decide) λzp zq hu nd zr=>(Aq (Eo (i:=0) [1] d4 (Ad 1))
  (Ap (Eo (i:=0) [2] b5 (Ad 2))))
abbrev Lm:List Str:=["self","how_many","own_table","width"]
def ah_8(F:Fun K "__init__" "KeptAgain.__init__" (Bc 66 0) f fd){CI:Addr}(hCI:ClsAt K "KeptAgain" CI):FnX P w K mg base true 1 f fd Lm (spI K CI 3 w_4):=
 Gk (n:=3) (cn:= "KeptAgain") (N:= Lm) F hCI (by decide) (by decide) λzp zq hu nd zr=>(Aq (Eo (i:=0) [1] d4 (Ad 1))
  (Aq (Eo (i:=0) [2] b5 (Ad 2))
  (Ap (Eo (i:=0) [3] l4 (Ad 3)))))
def ae_1(F:Fun K "__init__" "MarkedAgain.__init__" (Bc 67 0) f fd){CI:Addr}(hCI:ClsAt K "MarkedAgain" CI):FnX P w K mg base true 1 f fd Lm (spI K CI 3 r_0):=
 Gk (n:=3) (cn:= "MarkedAgain") (N:= Lm) F hCI (by decide) (by decide) λzp zq hu nd zr=>(Aq (Eo (i:=0) [1] d4 (Ad 1))
  (Aq (Eo (i:=0) [2] b5 (Ad 2))
  (Ap (Eo (i:=0) [3] l4 (Ad 3)))))
variable(u7:ah_3 P w K mg base)(x9:Fj P w K mg base true "PeeledAgain" 1 3 q_9)(v7:Fj P w K mg base true "OrderedAgain" 1 2 p_1)(ab7:Fj P w K mg base true "KeptAgain" 1 3 w_4)(x8:Fj P w K mg base true "MarkedAgain" 1 3 r_0)
def cj_4(F:Fun K "house_of" "house_of" (Az 71) f fd):FnX P w K mg base true 6 f fd Ly (Bi K 7 p_2):=
 Bo (N:=["name","kind","salt","many","width","bits","used","part","listed","own_table"]) F λzp zq hu nd zr=>(Aq (Bj (i:=7) [1,3] (Bg zq zr k7 (Ae (Ad 3) (Ae (Ad 1) Al))) nd)
  (Aq (Bj (i:=8) [1,4,5,7] (Bg zq zr u7 (Ae (Ad 5) (Ae (Ad 4) (Ae (Av Dz (Ad 1) (Ad 7)) Al)))) nd)
  (Aq (Cq [0] (Cm (Gn hu) (Ad 0) Gq (Cj _))
   (Ap (Bk [1,2,3,6,7,8] (r_3 zq zr x9 (Ae (Ad 3) (Ae (r_3 zq zr y2 (Ae (Ad 2) (Ae (Ad 1) (Ae (Ad 7) (Ae (Ad 1) (Ae (Ad 8) Al)))))) (Ae (Ad 6) Al))))))
   Dc)
  (Aq (Cq [0] (Cm (Gn hu) (Ad 0) Gq (Cj _))
   (Ap (Bk [1,2,3,7,8] (r_3 zq zr v7 (Ae (Ad 3) (Ae (r_3 zq zr y2 (Ae (Ad 2) (Ae (Ad 1) (Ae (Ad 7) (Ae (Ad 3) (Ae (Ad 8) Al)))))) Al)))))
   Dc)
  (Aq (Bj (i:=9) [1,2,4,7,8] (r_3 zq zr y2 (Ae (Ad 2) (Ae (Ad 1) (Ae (Ad 7) (Ae (Bg zq zr o7 (Ae (Ad 4) Al)) (Ae (Ad 8) Al)))))) nd)
  (Aq (Cq [0] (Cm (Gn hu) (Ad 0) Gq (Cj _))
   (Ap (Bk [3,4,9] (r_3 zq zr ab7 (Ae (Ad 3) (Ae (Ad 9) (Ae (Ad 4) Al))))))
   Dc)
  (Ap (Bk [3,4,9] (r_3 zq zr x8 (Ae (Ad 3) (Ae (Ad 9) (Ae (Ad 4) Al))))))))))))
variable(ai1:bj_0 P w K mg base)
def bm_9(F:Fun K "made_again" "made_again" (Az 72) f fd):FnX P w K mg base true 7 f fd ["what"] (Bi K 1 g_5):=
 Bo (N:=["what"]) F λzp zq hu nd zr=>(Ap (Bk [0] (Bg zq zr ai1 (Ae (De (Ad 0) As) (Ae (De (Ad 0) As) (Ae (De (Ad 0) As) (Ae (De (Ad 0) As) (Ae (De (Ad 0) As) (Ae (De (Ad 0) As) (Ae (De (Ad 0) As) Al))))))))))
variable(p8:ao_6 P w K mg base)(am3:bs_2 P w K mg base)(r9:au_0 P w K mg base)(ad4:bb_1 P w K mg base)(x4:au_1 P w K mg base)(ar3:mg "sorted" =none)
def bz_7(F:Fun K "_law_right" "_law_right" (Az 82) f fd):FnX P w K mg base true 11 f fd Ls (Bi K 5 aa_4):=
 Bo (N:=["_law_house","_law_form","_law_keys","_law_values","_law_strangers","_law_answers_here","_law_due_here","_law_what","_law_again","_law_once_more","_law_some","_law_other"]) F λzp zq hu nd zr=>(Aq (Bj (i:=5) [0,1,2] (Bg zq zr p8 (Ae (Ad 0) (Ae (Ad 1) (Ae (Ad 2) Al)))) nd)
  (Aq (Bj (i:=6) [1,2,3] (Bg zq zr am3 (Ae (Ad 1) (Ae (Ad 2) (Ae (Ad 3) Al)))) nd)
  (Aq (Cq [2,5,6] (Gx (bo_2 (Gx (bt_5 (Cm ds_6 (Ad 6) ai_1 (Cj _)) (bc_3 (Cm (ae_6 hu) (Cy (cn_6 zp) rfl ar3 PyProof.Rows.boot_sorted (Ae (Ad 5) Al)) (ab_0 zp p7 g9 (Ae (Cy Dw rfl i8 PySem.boot_len (Ae (Ad 2) Al)) Al)) (Cj _))))) (au_8 (Gx (bt_5 (Cm cc_6 (Ad 6) ai_1 (Cj _)) (bc_3 (Cm (ae_6 hu) (Ad 5) (Ad 6) (Cj _))))))))
   (Ap (Bk [] Ga))
   Dc)
  (Aq (Bj (i:=7) [0] (Bg zq zr r9 (Ae (Ad 0) Al)) nd)
  (Aq (Cq [0,2,7] (Cm (ae_6 hu) (Bg zq zr ad4 (Ae (Ad 7) (Ae (Cy Dw rfl i8 PySem.boot_len (Ae (Ad 2) Al)) Al))) (l_1 b9 zq zr (Ad 0)) (Cj _))
   (Ap (Bk [] Ga))
   Dc)
  (Aq (Bj (i:=8) [7] (Bg zq zr x4 (Ae (Ad 7) Al)) nd)
  (Aq (Bj (i:=9) [8] (Bg zq zr x4 (Ae (Bg zq zr r9 (Ae (Ad 8) Al)) Al)) nd)
  (Aq (Bj (i:=10) [2,4] (Av Cu (Ad 2) (Ad 4)) nd)
  (Aq (Gf [8,9] Ff zp (v_8 (u_6 (Ae (Ad 8) (Ae (Ad 9) Al)))) (n_1 (i:=11) nd)
   (Ap (Cq [0,1,7,10,11] (Gx (bo_2 (Cm (ae_6 hu) (Bg zq zr r9 (Ae (Ad 11) Al)) (Ad 7) (Cj _)) (au_8 (Cm (ae_6 hu) (Bg zq zr p8 (Ae (Ad 11) (Ae (Ad 1) (Ae (Ad 10) Al)))) (Bg zq zr p8 (Ae (Ad 0) (Ae (Ad 1) (Ae (Ad 10) Al)))) (Cj _)))))
   (Ap (Bk [] Ga))
   Dc)))
  (Ap (Bk [] Ga)))))))))))
variable(ad9:ba_3 P w K mg base)(o9:ad_6 P w K mg base)(ah5:bi_9 P w K mg base)(ae5:bb_4 P w K mg base)
def ei_5(F:Fun K "law" "law" (Az 83) f fd):FnX P w K mg base true 12 f fd ["_law_script"] (Bi K 1 dk_3):=
 Bo (N:=["_law_script","_law_draws_here","_law_keys","_law_strangers","_law_width","_law_modulus","_law_k","_law_values","_law_form","_law_house"]) F λzp zq hu nd zr=>(Aq (Bj (i:=1) [0] (Bg zq zr ad9 (Ae (Ad 0) (Ae As Al))) nd)
  (Aq (Bj (i:=2) [1] (Bg zq zr o9 (Ae (Ad 1) (Ae As (Ae (Av Cu As (Av Fd (De (Ad 1) As) As)) Al)))) nd)
  (Aq (bc_6 (i:=3) [1,2] (N':=["_law_script","_law_draws_here","_law_keys","_law_strangers","_law_width","_law_modulus","_law_k","_law_values","_law_form","_law_house","_law_key"]) zp (v_8 (Bg (dj_5 zq) x_7 o9 (Ae (Ad 1) (Ae As (Ae As Al))))) rfl (by rfl') rfl (λC s0 H0 fp pn=>⟨(gcM (i:=10)),(cl_9 (Cm bo_6 (Ad 10) (Ad 2) (by with_unfolding_all rfl))),(Ad 10)⟩) nd)
  (Aq (Bj (i:=4) [1] (Av Cu As (Av Fd (De (Ad 1) As) As)) nd)
  (Aq (Bj (i:=5) [] As nd)
  (Aq (Gf [4] Ff zp (k_0 g9 (Ae (Ad 4) Al)) (n_1 (i:=6) nd)
   (Ap (Bj (i:=5) [5] (Av Dz As (Ad 5)) nd)))
  (Aq (bc_6 (i:=7) [1,2,5] (N':=["_law_script","_law_draws_here","_law_keys","_law_strangers","_law_width","_law_modulus","?6","_law_values","_law_form","_law_house","_law_k"]) zp (k_0 g9 (Ae (Cy Dw rfl i8 PySem.boot_len (Ae (Ad 2) Al)) Al)) rfl (by rfl') rfl (λC s0 H0 fp pn=>⟨(gcM (i:=10)),w_6,(Av Fd (De (Ad 1) (Av Cu As (Ad 10))) (Ad 5))⟩) nd)
  (Aq (Gf [] Ff zp (k_0 g9 (Ae As Al)) (n_1 (i:=8) nd)
   (Aq (Bj (i:=9) [1,2,4,7,8] (Bg zq zr ah5 (Ae (Ad 8) (Ae (Ad 2) (Ae (Ad 7) (Ae (Ad 4) (Ae (Av Cu As (Av Fd (De (Ad 1) As) As)) (Ae (Av Cu As (Av Fd (Av l_0 (De (Ad 1) As) As) As)) Al))))))) nd)
  (Ap (Cq [2,3,7,8,9] (Gx (bt_5 (Cm cc_6 (Ad 9) ai_1 (Cj _)) (bc_3 (au_9 (i_0 (Bg zq zr ae5 (Ae (Ad 9) (Ae (Ad 8) (Ae (Ad 2) (Ae (Ad 7) (Ae (Ad 3) Al)))))))))))
   (Ap (Bk [] Ga))
   Dc))))
  (Ap (Bk [] Ga))))))))))
abbrev bk_3:Stmt:=Az 83
end
def ei_6{l:PySem.W.OpenLaw}{w:World}{K:Frag}{h:Heap}{mg:Str->Option Value}{fa:Addr}(X:K.In h)(G:h.Ns mainGlobals mg)(hfa:mg "law" =some (.ref fa))
  {aj6 o5 f6 d9 j8 g7 d5 d7 i7 f8 af4 af8 x6 aa9 aa6 n8:Addr}
  {bb3:Addr} {bb9 ba9:Option Addr} {bb7:Array (Option Value)} {bb8 bb1 ba8 bb0 az6 bb2:Value}
  {as6 ay5 ah3 as9 az4 at9:Tok}
  (ay7:nsIn K mainGlobals "House" =some (some (.ref aj6)))
  (n9:nsIn K mainGlobals "Table" =some (some (.ref o5)))
  (p6:Cls K o5)
  (az7:makesIn K o5=true)
  (az5:keepIn K (.ref o5)=true)
  (am9:NoAttr K o5 "by_salt")
  (as4:NoAttr K o5 "kind")
  (as2:NoAttr K o5 "part")
  (al5:NoAttr K o5 "modulus")
  (an2:NoAttr K o5 "listed")
  (j3:nsIn K mainGlobals "Peeled" =some (some (.ref f6)))
  (l3:Cls K f6)
  (aw5:makesIn K f6=true)
  (ax1:keepIn K (.ref f6)=true)
  (ah6:NoAttr K f6 "how_many")
  (af9:NoAttr K f6 "own_table")
  (ah8:NoAttr K f6 "used_row")
  (j4:nsIn K mainGlobals "Ordered" =some (some (.ref d9)))
  (n5:Cls K d9)
  (av6:makesIn K d9=true)
  (av9:keepIn K (.ref d9)=true)
  (ag7:NoAttr K d9 "how_many")
  (ae9:NoAttr K d9 "own_table")
  (o6:nsIn K mainGlobals "Kept" =some (some (.ref j8)))
  (y0:Cls K j8)
  (ba1:makesIn K j8=true)
  (ba3:keepIn K (.ref j8)=true)
  (al6:NoAttr K j8 "how_many")
  (ak6:NoAttr K j8 "own_table")
  (as0:NoAttr K j8 "width")
  (k9:nsIn K mainGlobals "Marked" =some (some (.ref g7)))
  (q9:Cls K g7)
  (ax0:makesIn K g7=true)
  (ax7:keepIn K (.ref g7)=true)
  (ai6:NoAttr K g7 "how_many")
  (ag0:NoAttr K g7 "own_table")
  (ao5:NoAttr K g7 "width")
  (d6:nsIn K mainGlobals "PeeledAgain" =some (some (.ref d5)))
  (i9:Cls K d5)
  (ar6:makesIn K d5=true)
  (ar2:keepIn K (.ref d5)=true)
  (aa7:NoAttr K d5 "how_many")
  (aa3:NoAttr K d5 "own_table")
  (aa8:NoAttr K d5 "used_row")
  (f7:nsIn K mainGlobals "OrderedAgain" =some (some (.ref d7)))
  (j6:Cls K d7)
  (an9:makesIn K d7=true)
  (ao6:keepIn K (.ref d7)=true)
  (z8:NoAttr K d7 "how_many")
  (y6:NoAttr K d7 "own_table")
  (j2:nsIn K mainGlobals "KeptAgain" =some (some (.ref i7)))
  (m6:Cls K i7)
  (at5:makesIn K i7=true)
  (at2:keepIn K (.ref i7)=true)
  (ac8:NoAttr K i7 "how_many")
  (ac1:NoAttr K i7 "own_table")
  (ai7:NoAttr K i7 "width")
  (g8:nsIn K mainGlobals "MarkedAgain" =some (some (.ref f8)))
  (l0:Cls K f8)
  (aq0:makesIn K f8=true)
  (ap3:keepIn K (.ref f8)=true)
  (ab1:NoAttr K f8 "how_many")
  (z9:NoAttr K f8 "own_table")
  (ae2:NoAttr K f8 "width")
  (w1:FnTop K "_law_mix" (Az 74))
  (w2:FnTop K "_law_draws" (Az 75))
  (w3:FnTop K "_law_drawn_key" (Az 76))
  (w4:FnTop K "_law_drawn_keys" (Az 77))
  (w5:FnTop K "is_key_text" (Az 26))
  (w6:FnTop K "is_key" (Az 27))
  (w7:FnTop K "look_each_key" (Az 32))
  (w8:FnTop K "look_unlike" (Az 33))
  (w9:FnTop K "look_keys" (Az 34))
  (w10:FnTop K "part_size" (Az 44))
  (w11:FnTop K "worth" (Az 28))
  (w12:FnTop K "stamp" (Az 29))
  (w13:FnTop K "mixed" (Az 30))
  (w14:FnTop K "places_of" (Az 45))
  (w15:FnTop K "edges_of" (Az 46))
  (w16:FnTop K "standing_at" (Az 40))
  (w17:FnTop K "take_away" (Az 41))
  (w18:FnTop K "peeled" (Az 42))
  (w19:FnTop K "fate" (Az 47))
  (w20:FnTop K "succeeds" (Az 48))
  (w21:FnTop K "first_try" (Az 49))
  (w22:FnTop K "chosen_places" (Az 55))
  (w23:FnTop K "is_below" (Az 9))
  (w24:FnTop K "remainder" (Az 36))
  (w25:FnTop K "summed" (Az 37))
  (w26:FnTop K "filled" (Az 38))
  (w27:FnMet K o5 "__init__" "Table.__init__" (Bc 51 0))
  (w28:FnTop K "table_for" (Az 52))
  (w29:FnTop K "row_with_ones" (Az 56))
  (w30:FnBase K aj6 "House.__init__" (Bc 54 0))
  (w31:FnMet K f6 "__init__" "Peeled.__init__" (Bc 57 0))
  (w32:FnBase K aj6 "House.__init__" (Bc 54 0))
  (w33:FnMet K d9 "__init__" "Ordered.__init__" (Bc 58 0))
  (w34:FnTop K "two_to" (Az 10))
  (w35:FnTop K "look_values" (Az 60))
  (w36:FnMet K j8 "__init__" "Kept.__init__" (Bc 61 0))
  (w37:FnTop K "mark" (Az 31))
  (w38:FnMet K g7 "__init__" "Marked.__init__" (Bc 62 0))
  (w39:FnTop K "_law_made" (Az 78))
  (w40:FnTop K "ones_before" (Az 17))
  (w41:FnMet K o5 "places" "Table.places" (Bc 51 3))
  (w42:FnMet K f6 "places" "Peeled.places" (Bc 57 4))
  (w43:FnMet K d5 "places" "Peeled.places" (Bc 57 4))
  (w44:FnMet K o5 "total" "Table.total" (Bc 51 4))
  (w45:FnMet K f6 "number_of" "Peeled.number_of" (Bc 57 5))
  (w46:FnMet K d9 "number_of" "Ordered.number_of" (Bc 58 4))
  (w47:FnMet K d5 "number_of" "Peeled.number_of" (Bc 57 5))
  (w48:FnMet K d7 "number_of" "Ordered.number_of" (Bc 58 4))
  (w49:FnMet K f6 "room" "House.room" (Bc 54 2))
  (w50:FnMet K d9 "room" "House.room" (Bc 54 2))
  (w51:FnMet K d5 "room" "House.room" (Bc 54 2))
  (w52:FnMet K d7 "room" "House.room" (Bc 54 2))
  (w53:FnMet K f6 "rooms" "House.rooms" (Bc 54 3))
  (w54:FnMet K d9 "rooms" "House.rooms" (Bc 54 3))
  (w55:FnMet K d5 "rooms" "House.rooms" (Bc 54 3))
  (w56:FnMet K d7 "rooms" "House.rooms" (Bc 54 3))
  (w57:FnMet K j8 "value" "Kept.value" (Bc 61 5))
  (w58:FnMet K i7 "value" "Kept.value" (Bc 61 5))
  (w59:FnMet K g7 "knows" "Marked.knows" (Bc 62 5))
  (w60:FnMet K f8 "knows" "Marked.knows" (Bc 62 5))
  (w61:FnTop K "_law_answers" (Az 79))
  (w62:FnTop K "_law_due" (Az 80))
  (w63:FnTop K "number_written" (Az 11))
  (w64:FnTop K "written" (Az 12))
  (w65:FnMet K o5 "table" "Table.table" (Bc 51 2))
  (w66:FnMet K f6 "table" "Peeled.table" (Bc 57 2))
  (w67:FnMet K d9 "table" "Ordered.table" (Bc 58 2))
  (w68:FnMet K j8 "table" "Kept.table" (Bc 61 3))
  (w69:FnMet K g7 "table" "Marked.table" (Bc 62 3))
  (w70:FnMet K d5 "table" "Peeled.table" (Bc 57 2))
  (w71:FnMet K d7 "table" "Ordered.table" (Bc 58 2))
  (w72:FnMet K i7 "table" "Kept.table" (Bc 61 3))
  (w73:FnMet K f8 "table" "Marked.table" (Bc 62 3))
  (w74:FnMet K f6 "many" "House.many" (Bc 54 1))
  (w75:FnMet K d9 "many" "House.many" (Bc 54 1))
  (w76:FnMet K j8 "many" "Kept.many" (Bc 61 1))
  (w77:FnMet K g7 "many" "Marked.many" (Bc 62 1))
  (w78:FnMet K d5 "many" "House.many" (Bc 54 1))
  (w79:FnMet K d7 "many" "House.many" (Bc 54 1))
  (w80:FnMet K i7 "many" "Kept.many" (Bc 61 1))
  (w81:FnMet K f8 "many" "Marked.many" (Bc 62 1))
  (w82:FnMet K o5 "salt" "Table.salt" (Bc 51 1))
  (w83:FnMet K f6 "salt" "Peeled.salt" (Bc 57 1))
  (w84:FnMet K d9 "salt" "Ordered.salt" (Bc 58 1))
  (w85:FnMet K j8 "salt" "Kept.salt" (Bc 61 2))
  (w86:FnMet K g7 "salt" "Marked.salt" (Bc 62 2))
  (w87:FnMet K d5 "salt" "Peeled.salt" (Bc 57 1))
  (w88:FnMet K d7 "salt" "Ordered.salt" (Bc 58 1))
  (w89:FnMet K i7 "salt" "Kept.salt" (Bc 61 2))
  (w90:FnMet K f8 "salt" "Marked.salt" (Bc 62 2))
  (w91:FnTop K "told_by" (Az 68))
  (w92:FnTop K "width_for" (Az 18))
  (w93:FnMet K f6 "used" "Peeled.used" (Bc 57 3))
  (w94:FnMet K d5 "used" "Peeled.used" (Bc 57 3))
  (w95:FnTop K "house_told" (Az 69))
  (w96:FnTop K "_law_table" (Az 81))
  (w97:FnTop K "is_multiple" (Az 13))
  (w98:FnTop K "look_bits" (Az 14))
  (w99:FnTop K "number_read" (Az 15))
  (bd6:FnTop K "read_bits" (Az 16))
  (bd2:FnTop K "numbers_again" (Az 70))
  (bd4:FnMet K d5 "__init__" "PeeledAgain.__init__" (Bc 64 0))
  (bc9:FnMet K d7 "__init__" "OrderedAgain.__init__" (Bc 65 0))
  (bd9:FnMet K i7 "__init__" "KeptAgain.__init__" (Bc 66 0))
  (bd5:FnMet K f8 "__init__" "MarkedAgain.__init__" (Bc 67 0))
  (bc6:FnTop K "house_of" (Az 71))
  (bd8:FnTop K "made_again" (Az 72))
  (bd3:FnTop K "_law_right" (Az 82))
  (bd1:nsIn K mainGlobals "law" =some (some (.ref bb3))) (bc8:K.lookup bb3=some ⟨bb8,bb9,.func (fnOf "law" "law" (k_3 bk_3) (Fs bk_3) (Cn bk_3) .none bb1 ba8 bb0 ba9 az6 bb2),bb7⟩) (bc7:codeIn K az6 "law" =true) (bd7:keepIn K (.ref bb3)=true)
  (bb4:nsIn K mainGlobals "list" =some none)
  (ba2:nsIn K mainGlobals "range" =some none)
  (bc4:nsIn K mainGlobals "len" =some none)
  (bc0:nsIn K mainGlobals "all" =some none)
  (au0:nsIn K mainGlobals "isinstance" =some none)
  (bb5:nsIn K mainGlobals "bool" =some none)
  (bc3:nsIn K mainGlobals "int" =some none)
  (bc1:nsIn K mainGlobals "str" =some none)
  (au9:nsIn K mainGlobals "enumerate" =some none)
  (ba4:nsIn K mainGlobals "tuple" =some none)
  (bc5:nsIn K mainGlobals "min" =some none)
  (bb6:nsIn K mainGlobals "sum" =some none)
  (av4:nsIn K mainGlobals "reversed" =some none)
  (bc2:nsIn K mainGlobals "max" =some none)
  (ay6:nsIn K mainGlobals "sorted" =some none)
  (av8:kitOne K (.type "NoneType") (.type "bool")=some false)
  (ax6:kitOne K (.type "bool") (.type "bool")=some true)
  (aw1:kitOne K (.type "int") (.type "bool")=some false)
  (av5:kitOne K (.type "str") (.type "bool")=some false)
  (av7:kitOne K (.type "list") (.type "bool")=some false)
  (aw2:kitOne K (.type "tuple") (.type "bool")=some false)
  (ax5:kitOne K (.type "NoneType") (.type "int")=some false)
  (ay2:kitOne K (.type "bool") (.type "int")=some true)
  (aw8:kitOne K (.type "int") (.type "int")=some true)
  (ax4:kitOne K (.type "str") (.type "int")=some false)
  (ay0:kitOne K (.type "list") (.type "int")=some false)
  (aw4:kitOne K (.type "tuple") (.type "int")=some false)
  (aw7:kitOne K (.type "NoneType") (.type "str")=some false)
  (az2:kitOne K (.type "bool") (.type "str")=some false)
  (aw3:kitOne K (.type "int") (.type "str")=some false)
  (aw6:kitOne K (.type "str") (.type "str")=some true)
  (aw9:kitOne K (.type "list") (.type "str")=some false)
  (ax2:kitOne K (.type "tuple") (.type "str")=some false)
  (at8:nsIn K mainGlobals "MOST_SIGNS" =some (some (.int 11 as6)))
  (ba5:nsIn K mainGlobals "SIGNS" =some (some (.str "abcdefghijklmnopqrstuvwxyz0123456789-_ " ay5)))
  (ak7:nsIn K mainGlobals "GREATEST_NUMBER" =some (some (.int 999999999999999999 ah3)))
  (av1:nsIn K mainGlobals "MOST_KEYS" =some (some (.int 200 as9)))
  (ba7:nsIn K mainGlobals "PRIME" =some (some (.int 2305843009213693951 az4)))
  (av2:nsIn K mainGlobals "MARK_SALT" =some (some (.int 3 at9)))
  (ap5:nsIn K mainGlobals "NoKey" =some (some (.ref af4)))
  (ar9:nsIn K mainGlobals "Twice" =some (some (.ref af8)))
  (ah4:nsIn K mainGlobals "NoValue" =some (some (.ref x6)))
  (al8:nsIn K mainGlobals "NoBits" =some (some (.ref aa9)))
  (al9:nsIn K mainGlobals "NoKeys" =some (some (.ref aa6)))
  (ap9:nsIn K mainGlobals "NoTry" =some (some (.ref n8)))
  (ab9:OInst K f6)
  (ak9:KO K f6 f6 true)
  (ak2:KO K f6 d9 false)
  (aq9:KO K f6 j8 false)
  (al2:KO K f6 g7 false)
  (y8:OInst K d9)
  (aj4:KO K d9 f6 false)
  (ai8:KO K d9 d9 true)
  (ao2:KO K d9 j8 false)
  (aj1:KO K d9 g7 false)
  (ak1:OInst K j8)
  (ar0:KO K j8 f6 false)
  (ao1:KO K j8 d9 false)
  (au2:KO K j8 j8 true)
  (ap8:KO K j8 g7 false)
  (ab2:OInst K g7)
  (am6:KO K g7 f6 false)
  (aj3:KO K g7 d9 false)
  (aq7:KO K g7 j8 false)
  (am1:KO K g7 g7 true)
  (p9:OInst K d5)
  (ac9:KO K d5 f6 true)
  (ac0:KO K d5 d9 false)
  (ag8:KO K d5 j8 false)
  (ac2:KO K d5 g7 false)
  (p5:OInst K d7)
  (ab4:KO K d7 f6 false)
  (ab0:KO K d7 d9 true)
  (ad3:KO K d7 j8 false)
  (ab5:KO K d7 g7 false)
  (t9:OInst K i7)
  (ag3:KO K i7 f6 false)
  (ae7:KO K i7 d9 false)
  (aj8:KO K i7 j8 true)
  (ag5:KO K i7 g7 false)
  (q8:OInst K f8)
  (ac6:KO K f8 f6 false)
  (ab3:KO K f8 d9 false)
  (ag2:KO K f8 j8 false)
  (ac3:KO K f8 g7 true)
  (az0:XB K af4 "NoKey.__init__" "at" af_9)
  (ar1:exmOne K (.ref af4) (.ref n8)=some false)
  (az9:XB K af8 "Twice.__init__" "at" af_8)
  (aq2:exmOne K (.ref af8) (.ref n8)=some false)
  (av3:XB K x6 "NoValue.__init__" "at" z_6)
  (al7:exmOne K (.ref x6) (.ref n8)=some false)
  (ax9:XB K aa9 "NoBits.__init__" "at" ab_8)
  (an4:exmOne K (.ref aa9) (.ref n8)=some false)
  (ax3:XB9 K aa6)
  (ao4:exmOne K (.ref aa6) (.ref n8)=some false)
  (ay9:XB9 K n8)
  (ar5:exmOne K (.ref n8) (.ref n8)=some true):
  ∃fd:FuncData,(∀(s:Shared) (v:Value),BindsTo s fd ⟨[v],[]⟩ [("_law_script",v)])/\∀base:Heap,K.In base->base.Ns mainGlobals mg->FnOk l.prog w K mg base CX0 12 fa fd ["_law_script"] (bf_5 K):=by
 have au6:=mg_of X G ay7;have ay4:=mg_of X G n9;have af7:=mg_of X G j3;have ab6:=mg_of X G j4;have ao8:=mg_of X G o6;have af3:=mg_of X G k9;have aq8:=mg_of X G d6;have an3:=mg_of X G f7;have au5:=mg_of X G j2;have ao9:=mg_of X G g8;have r0:OFld K ["Table"] "by_salt" :=(.one n9 p6 am9 .nil);have v9:OFld K ["Table"] "kind" :=(.one n9 p6 as4 .nil);have aj7:OFld K ["Table"] "part" :=(.one n9 p6 as2 .nil);have y3:OFld K ["Table"] "modulus" :=(.one n9 p6 al5 .nil);have t8:OFld K ["Table"] "listed" :=(.one n9 p6 an2 .nil);have d4:OFld K La "how_many" :=(.one j3 l3 ah6 (.one j4 n5 ag7 (.one o6 y0 al6 (.one k9 q9 ai6 (.one d6 i9 aa7 (.one f7 j6 z8 (.one j2 m6 ac8 (.one g8 l0 ab1 .nil))))))));have b5:OFld K La "own_table" :=(.one j3 l3 af9 (.one j4 n5 ae9 (.one o6 y0 ak6 (.one k9 q9 ag0 (.one d6 i9 aa3 (.one f7 j6 y6 (.one j2 m6 ac1 (.one g8 l0 z9 .nil))))))));have k8:OFld K Le "used_row" :=(.one j3 l3 ah8 (.one d6 i9 aa8 .nil));have l4:OFld K Lb "width" :=(.one o6 y0 as0 (.one k9 q9 ao5 (.one j2 m6 ai7 (.one g8 l0 ae2 .nil))));have az8:=mg_of X G ap5;have ay8:=mg_of X G ar9;have aw0:=mg_of X G ah4;have ax8:=mg_of X G al8;have ay1:=mg_of X G al9;have aj5:=mg_of X G ap9;have am4:XC0 K mg "NoKeys" aa6:=dk_0 al9 ay1 ax3;have ap2:XC0 K mg "NoTry" n8:=dk_0 ap9 aj5 ay9;have ar7:Catches K n8 L96:=(.one al8 an4 (.one ap5 ar1 (.one al9 ao4 (.one ap9 ar5 (.one ah4 al7 (.one ar9 aq2 .nil))))));have am5:IsOneO K (.ref f6) L92:=(.one j3 ab9 ak9 (.one j4 y8 aj4 (.one o6 ak1 ar0 (.one k9 ab2 am6 (.one d6 p9 ac9 (.one f7 p5 ab4 (.one j2 t9 ag3 (.one g8 q8 ac6 .nil))))))));have ai3:IsOneO K (.ref d9) L93:=(.one j3 ab9 ak2 (.one j4 y8 ai8 (.one o6 ak1 ao1 (.one k9 ab2 aj3 (.one d6 p9 ac0 (.one f7 p5 ab0 (.one j2 t9 ae7 (.one g8 q8 ab3 .nil))))))));have at4:IsOneO K (.ref j8) L94:=(.one j3 ab9 aq9 (.one j4 y8 ao2 (.one o6 ak1 au2 (.one k9 ab2 aq7 (.one d6 p9 ag8 (.one f7 p5 ad3 (.one j2 t9 aj8 (.one g8 q8 ag2 .nil))))))));have am8:IsOneO K (.ref g7) L95:=(.one j3 ab9 al2 (.one j4 y8 aj1 (.one o6 ak1 ap8 (.one k9 ab2 am1 (.one d6 p9 ac2 (.one f7 p5 ab5 (.one j2 t9 ag5 (.one g8 q8 ac3 .nil))))))));have e:=hfa.symm.trans (mg_of X G bd1);cases e;have p7:=mg_none_of X G bb4;have g9:=mg_none_of X G ba2;have i8:=mg_none_of X G bc4;have ay3:=mg_none_of X G bc0;have j1:=mg_none_of X G au0;have aq1:=mg_none_of X G bb5;have az1:=mg_none_of X G bc3;have aq3:=mg_none_of X G bc1;have j7:=mg_none_of X G au9;have as8:=mg_none_of X G ba4;have an0:=mg_none_of X G bc5;have az3:=mg_none_of X G bb6;have ai4:=mg_none_of X G av4;have au7:=mg_none_of X G bc2;have ar3:=mg_none_of X G ay6;have ae1:KitT K "bool" :=⟨av8,ax6,aw1,av5,av7,aw2⟩;have as7:KitT K "int" :=⟨ax5,ay2,aw8,ax4,ay0,aw4⟩;have aj0:KitT K "str" :=⟨aw7,az2,aw3,aw6,aw9,ax2⟩;have ab8:=mg_of X G at8;have ak3:=mg_of X G ba5;have r6:=mg_of X G ak7;have ae0:=mg_of X G av1;have aj2:=mg_of X G ba7;have ae4:=mg_of X G av2;obtain⟨f17,a17,d17,F17⟩:=w17;obtain⟨f30,a30,⟨d30,F30⟩⟩:=w30;obtain⟨f32,a32,⟨d32,F32⟩⟩:=w32;have bd0:=ck_8 (st:=bk_3) bc8 bc7 bd7;refine⟨fnOf "law" "law" (k_3 bk_3) (Fs bk_3) (Cn bk_3) .none bb1 ba8 bb0 ba9 az6 bb2,λs v=> .of_eq rfl,λbase _ _=> ?_⟩
 let lMd:=MethD l.prog w K mg base true
 let lMt:=MethT l.prog w K mg base true
 let lMk:=Fj l.prog w K mg base true
 let lXC:=XC l.prog w K mg base
 let lT:=λt:Program->World->Frag->(Str->Option Value)->Heap->Prop=>t l.prog w K mg base
 have ak0:lXC "NoKey" "at" af4:=cs_8 ap5 az8 az0 λF y z=>⟨bm_6 F y z,Cs F⟩;have at6:lXC "Twice" "at" af8:=cs_8 ar9 ay8 az9 λF y z=>⟨bm_4 F y z,Cs F⟩;have af6:lXC "NoValue" "at" x6:=cs_8 ah4 aw0 av3 λF y z=>⟨bc_1 F y z,Cs F⟩;have aa5:lXC "NoBits" "at" aa9:=cs_8 al8 ax8 ax9 λF y z=>⟨bj_2 F y z,Cs F⟩;have af5:lT bs_1:=Ce X G w1 λF=>⟨cp_5 F,Cs F⟩;have ad9:lT ba_3:=Ce X G w2 λF=>⟨by_5 af5 p7 g9 i8 F,Cs F⟩;have u9:lT ag_9:=Ce X G w3 λF=>⟨ax_5 g9 F,bn3 F⟩;have o9:lT ad_6:=Ce X G w4 λF=>⟨au_2 g9 u9 F,bn3 F⟩;have z7:lT ao_1:=Ce X G w5 λF=>⟨bj_3 i8 ay3 ab8 ak3 F,Cr F⟩;have ad1:lT ci_5:=Ce X G w6 λF=>⟨db_9 z7 j1 aq1 az1 aq3 ae1 as7 aj0 r6 F,Cr F⟩;have j9:lT ah_0:=Ce X G w7 λF=>⟨ax_6 ad1 j7 ak0 F,Cr F⟩;have y9:lT ao_2:=Ce X G w8 λF=>⟨bj_4 j7 at6 F,Cr F⟩;have o8:lT ba_4:=Ce X G w9 λF=>⟨by_6 i8 j9 y9 am4 ae0 F,Cr F⟩;have k7:lT ba_5:=Ce X G w10 λF=>⟨by_7 F,Cs F⟩;have au3:lT cv_0:=Ce X G w11 λF=>⟨do_5 ak3 F,Cr F⟩;have ak4:lT cv_1:=Ce X G w12 λF=>⟨do_6 j1 aq3 aj0 ad1 ak0 au3 F,Cr F⟩;have ak8:lT cv_2:=Ce X G w13 λF=>⟨do_7 aj2 F,bn3 F⟩;have u6:lT ba_6:=Ce X G w14 λF=>⟨by_8 g9 ak4 ak8 as8 F,bn4 F⟩;have y1:lT bi_6:=Ce X G w15 λF=>⟨cj_0 k7 o8 u6 F,bn3 F⟩;have aa0:lT ao_3:=Ce X G w16 λF=>⟨bj_5 j7 F,Cr F⟩;have ad5:FnMd l.prog w K mg base true "take_away" 1 2 L19 o_9:=ef_0 F17 (mg_of X G a17) (bn3 F17) (by_9 F17);have ap6:lT ci_6:=Ce X G w18 λF=>⟨dc_0 p7 g9 i8 aa0 ad5 an0 F,Cs F⟩;have ah9:lT do_3:=Ce X G w19 λF=>⟨dy_3 i8 k7 y1 ap6 F,bn3 F⟩;have ai5:lT bi_7:=Ce X G w20 λF=>⟨cj_1 i8 ah9 F,bn3 F⟩;have l9:lT ba_7:=Ce X G w21 λF=>⟨bz_0 g9 o8 ai5 ap2 F,bn3 F⟩;have v5:lT ah_1:=Ce X G w22 λF=>⟨ax_7 g9 i8 ah9 F,bn3 F⟩;have n6:lT bi_8:=Ce X G w23 λF=>⟨cj_2 j1 aq1 ae1 F,Cs F⟩;have u4:lT ba_8:=Ce X G w24 λF=>⟨bz_1 F,Cs F⟩;have ad0:lT ci_7:=Ce X G w25 λF=>⟨dc_1 i8 n6 u4 az3 F,bn3 F⟩;have aq6:lT ci_8:=Ce X G w26 λF=>⟨dc_2 n6 u4 ad0 ai4 F,bn5 F⟩;have y2:lMk "Table" 1 5 aa_2:=as_5 n9 ay4 az7 az5 w27 λF=>⟨au_3 r0 v9 aj7 y3 t8 F n9,bn6 F⟩;have l8:lT ba_9:=Ce X G w28 λF=>⟨bz_2 i8 k7 y1 ah9 aq6 y2 F,bn5 F⟩;have v6:lT ah_2:=Ce X G w29 λF=>⟨ax_8 g9 F,Cs F⟩;have m8:MakB l.prog w K mg base true "House" "Peeled" 1 1 e_9:=⟨aj6,f6,_,_,_,j3,au6,a30,ab_9 d4 F30 j3,(Cs F30)⟩;have al1:lMk "Peeled" 9 3 w_0:=as_5 j3 af7 aw5 ax1 w31 λF=>⟨aq_5 i8 k7 l9 v5 l8 v6 m8 b5 k8 F j3,bn4 F⟩;have l6:MakB l.prog w K mg base true "House" "Ordered" 1 1 e_3:=⟨aj6,d9,_,_,_,j4,au6,a32,z_8 d4 F32 j4,(Cs F32)⟩;have ah7:lMk "Ordered" 9 3 t_1:=as_5 j4 ab6 av6 av9 w33 λF=>⟨am_0 p7 g9 i8 l9 l8 b5 l6 F j4,bn4 F⟩;have o7:lT ci_9:=Ce X G w34 λF=>⟨dc_3 g9 F,Cr F⟩;have aa2:lT ao_4:=Ce X G w35 λF=>⟨bj_6 i8 j7 n6 af6 F,bn3 F⟩;have at3:lMk "Kept" 9 5 aj_3:=as_5 o6 ao8 ba1 ba3 w36 λF=>⟨ax_9 i8 o8 d4 l9 l8 b5 o7 aa2 l4 F o6,bn6 F⟩;have al4:lT do_4:=Ce X G w37 λF=>⟨dy_4 ak4 ak8 o7 ae4 F,Cs F⟩;have al3:lMk "Marked" 9 4 w_1:=as_5 k9 af3 ax0 ax7 w38 λF=>⟨aq_6 i8 d4 l9 l8 b5 o7 l4 al4 F k9,bn5 F⟩;have ah5:lT bi_9:=Ce X G w39 λF=>⟨cj_3 al1 ah7 at3 al3 aj5 ar7 F,bn6 F⟩;have u0:lT ao_5:=Ce X G w40 λF=>⟨bj_7 au7 F,Cs F⟩;have an5:lMd 5 1 "places" "Table" f_0:=Cf n9 p6 w41 λF=>⟨bc_2 u6 r0 v9 aj7 F,Cs F⟩;have l7:lMt 5 1 "places" [("Table",f_0)]:=(Cd an5 mtn);have al0:lMd 6 1 "places" "Peeled" d_0:=Cf j3 l3 w42 λF=>⟨ad_8 b5 l7 F,Cs F⟩;have ac7:lMd 6 1 "places" "PeeledAgain" d_0:=Cf d6 i9 w43 λF=>⟨ad_8 b5 l7 F,Cs F⟩;have aq4:lMd 6 1 "total" "Table" c_6:=Cf n9 p6 w44 λF=>⟨bj_8 ad0 y3 t8 l7 F,Cs F⟩;have j5:lMt 6 1 "places" J12:=(Cd al0 (Cd ac7 mtn));have h8:lMt 6 1 "total" [("Table",c_6)]:=(Cd aq4 mtn);have ag6:lMd 7 1 "number_of" "Peeled" c_2:=Cf j3 l3 w45 λF=>⟨x_3 b5 k8 u0 j5 h8 F,Cs F⟩;have ad6:lMd 7 1 "number_of" "Ordered" c_1:=Cf j4 n5 w46 λF=>⟨w_5 b5 h8 F,Cs F⟩;have z6:lMd 7 1 "number_of" "PeeledAgain" c_2:=Cf d6 i9 w47 λF=>⟨x_3 b5 k8 u0 j5 h8 F,Cs F⟩;have y4:lMd 7 1 "number_of" "OrderedAgain" c_1:=Cf f7 j6 w48 λF=>⟨w_5 b5 h8 F,Cs F⟩;have c7:lMt 7 1 "number_of" L98:=(Cd ag6 (Cd ad6 (Cd z6 (Cd y4 mtn))));have ap0:lMd 8 1 "room" "Peeled" b_5:=Cf j3 l3 w49 λF=>⟨u_3 an0 d4 c7 F,Cs F⟩;have ao7:lMd 8 1 "room" "Ordered" b_5:=Cf j4 n5 w50 λF=>⟨u_3 an0 d4 c7 F,Cs F⟩;have ag4:lMd 8 1 "room" "PeeledAgain" b_5:=Cf d6 i9 w51 λF=>⟨u_3 an0 d4 c7 F,Cs F⟩;have af2:lMd 8 1 "room" "OrderedAgain" b_5:=Cf f7 j6 w52 λF=>⟨u_3 an0 d4 c7 F,Cs F⟩;have c9:lMt 8 1 "room" J10:=(Cd ap0 (Cd ao7 (Cd ag4 (Cd af2 mtn))));have an1:lMd 9 1 "rooms" "Peeled" b_4:=Cf j3 l3 w53 λF=>⟨r_9 j9 c9 F,Cs F⟩;have am7:lMd 9 1 "rooms" "Ordered" b_4:=Cf j4 n5 w54 λF=>⟨r_9 j9 c9 F,Cs F⟩;have af1:lMd 9 1 "rooms" "PeeledAgain" b_4:=Cf d6 i9 w55 λF=>⟨r_9 j9 c9 F,Cs F⟩;have ac4:lMd 9 1 "rooms" "OrderedAgain" b_4:=Cf f7 j6 w56 λF=>⟨r_9 j9 c9 F,Cs F⟩;have as3:lMd 7 1 "value" "Kept" f_5:=Cf o6 y0 w57 λF=>⟨ao_9 b5 h8 F,Cs F⟩;have ai0:lMd 7 1 "value" "KeptAgain" f_5:=Cf j2 m6 w58 λF=>⟨ao_9 b5 h8 F,Cs F⟩;have an8:lMd 7 1 "knows" "Marked" d_7:=Cf k9 q9 w59 λF=>⟨ah_4 b5 l4 al4 h8 F,Cs F⟩;have ae6:lMd 7 1 "knows" "MarkedAgain" d_7:=Cf g8 l0 w60 λF=>⟨ah_4 b5 l4 al4 h8 F,Cs F⟩;have f9:lMt 9 1 "rooms" J11:=(Cd an1 (Cd am7 (Cd af1 (Cd ac4 mtn))));have m9:lMt 7 1 "value" J15:=(Cd as3 (Cd ai0 mtn));have l2:lMt 7 1 "knows" J13:=(Cd an8 (Cd ae6 mtn));have p8:lT ao_6:=Ce X G w61 λF=>⟨bj_9 p7 f9 m9 l2 F,bn3 F⟩;have am3:lT bs_2:=Ce X G w62 λF=>⟨cp_6 p7 g9 i8 F,bn3 F⟩;have t7:lT ad_7:=Ce X G w63 λF=>⟨au_4 g9 aq3 F,Cs F⟩;have am0:lT bs_3:=Ce X G w64 λF=>⟨cp_7 j7 n6 o7 t7 aa5 F,Cs F⟩;have ap1:lMd 1 0 "table" "Table" j_8:=Cf n9 p6 w65 λF=>⟨bk_0 p7 t8 F,Cr F⟩;have h9:lMt 1 0 "table" [("Table",j_8)]:=(Cd ap1 mtn);have an6:lMd 2 0 "table" "Peeled" d_8:=Cf j3 l3 w66 λF=>⟨ah_5 b5 h9 F,Cr F⟩;have am2:lMd 2 0 "table" "Ordered" d_1:=Cf j4 n5 w67 λF=>⟨ad_9 b5 h9 F,Cr F⟩;have as1:lMd 2 0 "table" "Kept" f_6:=Cf o6 y0 w68 λF=>⟨ap_0 b5 h9 F,Cr F⟩;have an7:lMd 2 0 "table" "Marked" d_9:=Cf k9 q9 w69 λF=>⟨ah_6 b5 h9 F,Cr F⟩;have ae8:lMd 2 0 "table" "PeeledAgain" d_8:=Cf d6 i9 w70 λF=>⟨ah_5 b5 h9 F,Cr F⟩;have ac5:lMd 2 0 "table" "OrderedAgain" d_1:=Cf f7 j6 w71 λF=>⟨ad_9 b5 h9 F,Cr F⟩;have ai2:lMd 2 0 "table" "KeptAgain" f_6:=Cf j2 m6 w72 λF=>⟨ap_0 b5 h9 F,Cr F⟩;have ad8:lMd 2 0 "table" "MarkedAgain" d_9:=Cf g8 l0 w73 λF=>⟨ah_6 b5 h9 F,Cr F⟩;have ar4:lMd 1 0 "many" "Peeled" b_6:=Cf j3 l3 w74 λF=>⟨u_4 d4 F,Cr F⟩;have ao3:lMd 1 0 "many" "Ordered" b_6:=Cf j4 n5 w75 λF=>⟨u_4 d4 F,Cr F⟩;have at7:lMd 1 0 "many" "Kept" g_9:=Cf o6 y0 w76 λF=>⟨au_5 d4 F,Cr F⟩;have aq5:lMd 1 0 "many" "Marked" e_4:=Cf k9 q9 w77 λF=>⟨ak_4 d4 F,Cr F⟩;have ah1:lMd 1 0 "many" "PeeledAgain" b_6:=Cf d6 i9 w78 λF=>⟨u_4 d4 F,Cr F⟩;have ad7:lMd 1 0 "many" "OrderedAgain" b_6:=Cf f7 j6 w79 λF=>⟨u_4 d4 F,Cr F⟩;have ak5:lMd 1 0 "many" "KeptAgain" g_9:=Cf j2 m6 w80 λF=>⟨au_5 d4 F,Cr F⟩;have ag1:lMd 1 0 "many" "MarkedAgain" e_4:=Cf g8 l0 w81 λF=>⟨ak_4 d4 F,Cr F⟩;have as5:lMd 1 0 "salt" "Table" l_3:=Cf n9 p6 w82 λF=>⟨bm_7 r0 F,Cr F⟩;have j0:lMt 1 0 "salt" [("Table",l_3)]:=(Cd as5 mtn);have ap4:lMd 2 0 "salt" "Peeled" g_2:=Cf j3 l3 w83 λF=>⟨ak_5 b5 j0 F,Cr F⟩;have ao0:lMd 2 0 "salt" "Ordered" f_1:=Cf j4 n5 w84 λF=>⟨ah_7 b5 j0 F,Cr F⟩;have au1:lMd 2 0 "salt" "Kept" i_3:=Cf o6 y0 w85 λF=>⟨au_6 b5 j0 F,Cr F⟩;have ap7:lMd 2 0 "salt" "Marked" g_3:=Cf k9 q9 w86 λF=>⟨ak_6 b5 j0 F,Cr F⟩;have ah0:lMd 2 0 "salt" "PeeledAgain" g_2:=Cf d6 i9 w87 λF=>⟨ak_5 b5 j0 F,Cr F⟩;have ae3:lMd 2 0 "salt" "OrderedAgain" f_1:=Cf f7 j6 w88 λF=>⟨ah_7 b5 j0 F,Cr F⟩;have aj9:lMd 2 0 "salt" "KeptAgain" i_3:=Cf j2 m6 w89 λF=>⟨au_6 b5 j0 F,Cr F⟩;have ag9:lMd 2 0 "salt" "MarkedAgain" g_3:=Cf g8 l0 w90 λF=>⟨ak_6 b5 j0 F,Cr F⟩;have b9:lMt 2 0 "table" L90:=(Cd an6 (Cd am2 (Cd as1 (Cd an7 (Cd ae8 (Cd ac5 (Cd ai2 (Cd ad8 mtn))))))));have c6:lMt 1 0 "many" L91:=(Cd ar4 (Cd ao3 (Cd at7 (Cd aq5 (Cd ah1 (Cd ad7 (Cd ak5 (Cd ag1 mtn))))))));have c8:lMt 2 0 "salt" L97:=(Cd ap4 (Cd ao0 (Cd au1 (Cd ap7 (Cd ah0 (Cd ae3 (Cd aj9 (Cd ag9 mtn))))))));have x5:lT bs_4:=Ce X G w91 λF=>⟨cp_8 v9 b5 am0 b9 c6 c8 F,bn4 F⟩;have y7:lT bb_0:=Ce X G w92 λF=>⟨bz_3 au7 F,Cr F⟩;have ar8:lMd 1 0 "used" "Peeled" g_4:=Cf j3 l3 w93 λF=>⟨ak_7 k8 F,Cr F⟩;have ah2:lMd 1 0 "used" "PeeledAgain" g_4:=Cf d6 i9 w94 λF=>⟨ak_7 k8 F,Cr F⟩;have l5:lMt 1 0 "used" J14:=(Cd ar8 (Cd ah2 mtn));have r9:lT au_0:=Ce X G w95 λF=>⟨bm_8 j1 v9 b5 l4 c6 x5 y7 l5 am5 af7 ai3 ab6 at4 ao8 am8 af3 F,Cr F⟩;have ad4:lT bb_1:=Ce X G w96 λF=>⟨bz_4 g9 i8 F,Cs F⟩;have aa4:lT ao_7:=Ce X G w97 λF=>⟨bk_1 F,Cs F⟩;have af0:lT bb_2:=Ce X G w98 λF=>⟨bz_5 i8 j7 aa5 aa4 F,Cs F⟩;have aa1:lT ao_8:=Ce X G w99 λF=>⟨bk_2 F,Cr F⟩;have ad2:lT bb_3:=Ce X G bd6 λF=>⟨bz_6 i8 af0 aa1 F,Cs F⟩;have u7:lT ah_3:=Ce X G bd2 λF=>⟨ay_0 ad2 F,bn3 F⟩;have x9:lMk "PeeledAgain" 1 3 q_9:=as_5 d6 aq8 ar6 ar2 bd4 λF=>⟨ae_0 d4 b5 k8 F d6,bn4 F⟩;have v7:lMk "OrderedAgain" 1 2 p_1:=as_5 f7 an3 an9 ao6 bc9 λF=>⟨ac_0 d4 b5 F f7,bn3 F⟩;have ab7:lMk "KeptAgain" 1 3 w_4:=as_5 j2 au5 at5 at2 bd9 λF=>⟨ah_8 d4 b5 l4 F j2,bn4 F⟩;have x8:lMk "MarkedAgain" 1 3 r_0:=as_5 g8 ao9 aq0 ap3 bd5 λF=>⟨ae_1 d4 b5 l4 F g8,bn4 F⟩;have ai1:lT bj_0:=Ce X G bc6 λF=>⟨cj_4 k7 y2 o7 u7 x9 v7 ab7 x8 F,bn7 F⟩;have x4:lT au_1:=Ce X G bd8 λF=>⟨bm_9 ai1 F,Cr F⟩;have ae5:lT bb_4:=Ce X G bd3 λF=>⟨bz_7 p7 g9 i8 b9 p8 am3 r9 ad4 x4 ar3 F,bn5 F⟩;exact ee_2 (ei_5 (P:=l.prog) (w:=w) (base:=base) g9 i8 ad9 o9 ah5 ae5 bd0) do_2
end My


open PySem PySem.W PyProof.Rows
set_option maxRecDepth 100000 in
set_option maxHeartbeats 0 in
theorem PySem.Challenge.cw_lodge_k84_whole_made_again_holds : PySem.Challenge.rw_lodge_k84_whole_made_again.Holds := by
 w_on; o_law; k_head; (case hw => w_witness2)
 k_fill
 refine L3.em_1 (l := PySem.Challenge.rw_lodge_k84_whole_made_again) (x := "_law_script") (k := 12) rfl rfl ⟨rfl, by decide, by decide⟩ (λw h Y => PySem.W.kIn_of Y) ?F
 case F =>
  intro w mg fa h KX G hmg
  refine' My.ei_6 KX G hmg ?c1 ?c2 ?c3 ?c4 ?c5 ?c6 ?c7 ?c8 ?c9 ?c10 ?c11 ?c12 ?c13 ?c14 ?c15 ?c16 ?c17 ?c18 ?c19 ?c20 ?c21 ?c22 ?c23 ?c24 ?c25 ?c26 ?c27 ?c28 ?c29 ?c30 ?c31 ?c32 ?c33 ?c34 ?c35 ?c36 ?c37 ?c38 ?c39 ?c40 ?c41 ?c42 ?c43 ?c44 ?c45 ?c46 ?c47 ?c48 ?c49 ?c50 ?c51 ?c52 ?c53 ?c54 ?c55 ?c56 ?c57 ?c58 ?c59 ?c60 ?c61 ?c62 ?c63 ?c64 ?c65 ?c66 ?c67 ?c68 ?c69 ?c70 ?c71 ?c72 ?c73 ?c74 ?c75 ?c76 ?c77 ?c78 ?c79 ?c80 ?c81 ?c82 ?c83 ?c84 ?c85 ?c86 ?c87 ?c88 ?c89 ?c90 ?c91 ?c92 ?c93 ?c94 ?c95 ?c96 ?c97 ?c98 ?c99 ?c100 ?c101 ?c102 ?c103 ?c104 ?c105 ?c106 ?c107 ?c108 ?c109 ?c110 ?c111 ?c112 ?c113 ?c114 ?c115 ?c116 ?c117 ?c118 ?c119 ?c120 ?c121 ?c122 ?c123 ?c124 ?c125 ?c126 ?c127 ?c128 ?c129 ?c130 ?c131 ?c132 ?c133 ?c134 ?c135 ?c136 ?c137 ?c138 ?c139 ?c140 ?c141 ?c142 ?c143 ?c144 ?c145 ?c146 ?c147 ?c148 ?c149 ?c150 ?c151 ?c152 ?c153 ?c154 ?c155 ?c156 ?c157 ?c158 ?c159 ?c160 ?c161 ?c162 ?c163 ?c164 ?c165 ?c166 ?c167 ?c168 ?c169 ?c170 ?c171 ?c172 ?c173 ?c174 ?c175 ?c176 ?c177 ?c178 ?c179 ?c180 ?c181 ?c182 ?c183 ?c184 ?c185 ?c186 ?c187 ?c188 ?c189 ?c190 ?c191 ?c192 ?c193 ?c194 ?c195 ?c196 ?c197 ?c198 ?c199 ?c200 ?c201 ?c202 ?c203 ?c204 ?c205 ?c206 ?c207 ?c208 ?c209 ?c210 ?c211 ?c212 ?c213 ?c214 ?c215 ?c216 ?c217 ?c218 ?c219 ?c220 ?c221 ?c222 ?c223 ?c224 ?c225 ?c226 ?c227 ?c228 ?c229 ?c230 ?c231 ?c232 ?c233 ?c234 ?c235 ?c236 ?c237 ?c238 ?c239 ?c240 ?c241 ?c242 ?c243 ?c244 ?c245 ?c246 ?c247 ?c248 ?c249 ?c250 ?c251 ?c252 ?c253 ?c254 ?c255 ?c256 ?c257 ?c258 ?c259 ?c260 ?c261 ?c262 ?c263 ?c264 ?c265 ?c266 ?c267 ?c268 ?c269 ?c270 ?c271 ?c272 ?c273
  (case c1 | c2 | c4 | c5 | c11 | c13 | c14 | c18 | c20 | c21 | c24 | c26 | c27 | c31 | c33 | c34 | c38 | c40 | c41 | c45 | c47 | c48 | c51 | c53 | c54 | c58 | c60 | c61 | c173 | c174 | c175 | c176 | c177 | c178 | c179 | c180 | c181 | c182 | c183 | c184 | c185 | c186 | c187 | c188 | c189 | c190 | c191 | c210 | c211 | c212 | c213 | c214 | c215 | c216 | c217 | c218 | c219 | c220 | c221 => k_is)
  (case c3 | c12 | c19 | c25 | c32 | c39 | c46 | c52 | c59 => (refine' L2.Cls.mk ?z0 ?z1 ?z2 ?z3; (case z0 => k_is); (case z1 => k_is); (case z2 => k_is); (case z3 => k_is)))
  (case c6 | c7 | c8 | c9 | c10 | c15 | c16 | c17 | c22 | c23 | c28 | c29 | c30 | c35 | c36 | c37 | c42 | c43 | c44 | c49 | c50 | c55 | c56 | c57 | c62 | c63 | c64 => (refine' L3.NoAttr.mk ?z0; (case z0 => k_is)))
  (case c65 | c66 | c67 | c68 | c69 | c70 | c71 | c72 | c73 | c74 | c75 | c76 | c77 | c78 | c79 | c80 | c81 | c82 | c83 | c84 | c85 | c86 | c87 | c88 | c89 | c90 | c92 | c93 | c98 | c99 | c101 | c103 | c104 | c125 | c126 | c127 | c128 | c155 | c156 | c159 | c160 | c161 | c162 | c163 | c164 | c165 | c170 | c171 | c172 => (refine' L3.FnTop.mk ?a ?l ?c ?k; (case a => k_is); (case l => k_is); (case c => k_is); (case k => k_is)))
  (case c91 | c95 | c97 | c100 | c102 | c105 | c106 | c107 | c108 | c109 | c110 | c111 | c112 | c113 | c114 | c115 | c116 | c117 | c118 | c119 | c120 | c121 | c122 | c123 | c124 | c129 | c130 | c131 | c132 | c133 | c134 | c135 | c136 | c137 | c138 | c139 | c140 | c141 | c142 | c143 | c144 | c145 | c146 | c147 | c148 | c149 | c150 | c151 | c152 | c153 | c154 | c157 | c158 | c166 | c167 | c168 | c169 => (refine' L3.FnMet.mk ?a ?l ?c ?k ?i; (case a => k_is); (case l => k_is); (case c => k_is); (case k => k_is); (case i => k_is)))
  (case c94 | c96 => (refine' L3.FnBase.mk ?s ?r ?a ?l ?c ?k; (case s => k_is); (case r => k_is); (case a => k_is); (case l => k_is); (case c => k_is); (case k => k_is)))
  (case c192 | c193 | c194 | c195 | c196 | c197 | c198 | c199 | c200 | c201 | c202 | c203 | c204 | c205 | c206 | c207 | c208 | c209 => kit_is)
  (case c222 | c227 | c232 | c237 | c242 | c247 | c252 | c257 => (refine' L3.OInst.mm ?z0 ?z1 ?z2 ?z3 ?z4 ?z5; (case z0 => k_is); (case z1 => k_is); (case z2 => k_is); (case z3 => k_is); (case z4 => k_is); (case z5 => k_is)))
  (case c223 | c224 | c225 | c226 | c228 | c229 | c230 | c231 | c233 | c234 | c235 | c236 | c238 | c239 | c240 | c241 | c243 | c244 | c245 | c246 | c248 | c249 | c250 | c251 | c253 | c254 | c255 | c256 | c258 | c259 | c260 | c261 => (refine' L3.KO.mk ?z0; (case z0 => kit_is)))
  (case c262 | c264 | c266 | c268 => (refine' L3.XB.mk ?z0 ?z1 ?z2 ?z3 ?z4 ?z5 ?z6 ?z7 ?z8 ?z9 ?z10 ?z11 ?z12 ?z13 ?z14; (case z0 => k_is); (case z1 => k_is); (case z2 => k_is); (case z3 => rfl); (case z4 => rfl); (case z5 => k_is); (case z6 => k_is); (case z7 => rfl); (case z8 => rfl); (case z9 => k_is); (case z10 => k_is); (case z11 => k_is); (case z12 => k_is); (case z13 => k_is); (case z14 => k_is)))
  (case c263 | c265 | c267 | c269 | c271 | c273 => kts_exm)
  (case c270 | c272 => (refine' L3.XB0 ?z0 ?z1 ?z2 ?z3 ?z4 ?z5 ?z6 ?z7 ?z8; (case z0 => k_is); (case z1 => k_is); (case z2 => rfl); (case z3 => rfl); (case z4 => k_is); (case z5 => k_is); (case z6 => rfl); (case z7 => rfl); (case z8 => k_is)))

end
